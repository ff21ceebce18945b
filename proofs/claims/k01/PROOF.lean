import PyProof.Rows.All
import Wide.All
import OpenK.AllK
import Wide.FinOn
import HandS.ForExc
import HandS.TryMany
import HandS.ExcInit
import HandS.ExcIs
import HandS.IsInst
import HandS.ExcValue
import KE.KExcLine
import HandS.ExcCtx
import HandS.HotCalls
import HandS.FStrTup
import HandS.ForMost
import PySem.Challenge.RW_slotsure_k01_three_families
import HandS.Walk
/-! ### SlA -/
set_option Elab.async false
set_option linter.all false
set_option maxRecDepth 100000
set_option maxHeartbeats 4000000
namespace SlX
open PySem PySem.W PySem.Calls PyProof.Rows PySem.Spec
open Builtin Builtin.ObjectAttr
section
variable {prog : Program} {w : World} {A : Around} {E : Value → Shared → Prop} {R : Result → Shared → Prop} {hp : Heap} {g : Array GenState} {d : Drawn} {t : Nat} {os : OsState}
/-- the first attribute of an exception of an own class over any built-in base -/
theorem first_put {K : Frag} {B : String} {bmB : List Value} {name : Str} {tk : Tok} {v : Value} {x C : Addr} {fv : Array Value} (SF : StoreFacts B bmB "object.__setattr__" "object") (KX : K.In hp)
    (hx : hp.get? x = some { cls := .ref C, data := .fields fv }) (hov : excOver K C bmB = true) (hdi : hasDictIn K C = true) (hno : findIn K (.ref C) name = some none)
    (fin : ∀ h2 tk2 dx, (∀ b o, b ≠ x → hp.get? b = some o → h2.get? b = some o) → hp.objs.size ≤ dx → dx ≠ x → h2.get? x = some { cls := .ref C, dict := some dx, data := .fields fv } →
      h2.Ns1 dx (fun y => if y = name then some v else none) → R (.ok (.ret .none)) ⟨h2, g, d, tk2, os⟩) :
    codeAny (model prog w) A (.call (.builtin "object.__setattr__") ⟨[.ref x, .str name tk, v], []⟩) R ⟨hp, g, d, t, os⟩ := by
  obtain ⟨cd, hcd, hhd⟩ := any_some hdi
  have xsz : x ≠ hp.objs.size := Nat.ne_of_lt (Heap.lt_size hx)
  have clsL : Looks (model prog w) hp (classData C) cd := looks_clsIn KX hcd
  have tkr : takerIn K C name = some none := by
    unfold takerIn
    rw [hno]
    rfl
  refine osa_openX (ox := { cls := .ref C, data := .fields fv }) (od := none) (r := none) SF KX ⟨hx, rfl, rfl, trivial⟩ hov tkr fun bb => ?_
  dsimp only
  unfold storeInOwnDict ownDictForStores
  obtain ⟨nm, bs, mro, ns, qn, hdd, sn, sb, ab, col, del⟩ := cd
  dsimp only at hhd
  subst hhd
  repeat (first | with_reducible refine HandSPX.store_in_new ?_ ?_ | with_reducible refine wpAny_loadPart_at hx ?_ | with_reducible refine clsL.at ?_ | wp_step)
  · exact ⟨_, #[], _, (Heap.get?_update_ne _ _ _ _ xsz.symm).trans (Heap.get?_push_at rfl rfl), rfl, fun e he => absurd he (by simp), fun _ => rfl⟩
  · intro h2 tk2 hn2 sb2
    have hx1 : (hp.push { cls := .type "dict", data := .dict #[] }).get? x = some { cls := .ref C, data := .fields fv } := Heap.get?_push_of_some _ hx
    refine fin h2 tk2 hp.objs.size (fun b o hb ho => ?_) (Nat.le_refl _) xsz.symm ?_ hn2
    · have q1 := Heap.get?_push_of_some { cls := .type "dict", data := .dict #[] } ho
      exact (sb2.2 b (Nat.ne_of_lt (Heap.lt_size ho))).trans ((Heap.get?_update_ne _ _ _ _ hb).trans q1)
    · exact (sb2.2 x xsz).trans (Heap.get?_update_self _ hx1 rfl)
/-- a further one -/
theorem more_put {K : Frag} {B : String} {bmB : List Value} {name : Str} {tk : Tok} {v : Value} {x C dx : Addr} {fv : Array Value} {m0 : Str → Option Value} {nl : List Str} (SF : StoreFacts B bmB "object.__setattr__" "object") (KX : K.In hp)
    (hx : hp.get? x = some { cls := .ref C, dict := some dx, data := .fields fv }) (hns : hp.Ns1 dx m0) (hwn : Within m0 nl) (hz : nl.length ≤ 1000) (hov : excOver K C bmB = true) (hdi : hasDictIn K C = true) (hno : findIn K (.ref C) name = some none)
    (fin : ∀ h2 tk2, (∀ b o, b ≠ dx → hp.get? b = some o → h2.get? b = some o) → h2.Ns1 dx (fun y => if y = name then some v else m0 y) → R (.ok (.ret .none)) ⟨h2, g, d, tk2, os⟩) :
    codeAny (model prog w) A (.call (.builtin "object.__setattr__") ⟨[.ref x, .str name tk, v], []⟩) R ⟨hp, g, d, t, os⟩ := by
  obtain ⟨cd, hcd, hhd⟩ := any_some hdi
  obtain ⟨oD, esD, epD, hoD, hdD, _⟩ := hns.count hwn
  have clsL : Looks (model prog w) hp (classData C) cd := looks_clsIn KX hcd
  have tkr : takerIn K C name = some none := by
    unfold takerIn
    rw [hno]
    rfl
  refine osa_openX (ox := { cls := .ref C, dict := some dx, data := .fields fv }) (od := some oD) (r := none) SF KX ⟨hx, rfl, rfl, hoD⟩ hov tkr fun bb => ?_
  dsimp only
  unfold storeInOwnDict ownDictForStores
  obtain ⟨nm, bs, mro, ns, qn, hdd, sn, sb, ab, col, del⟩ := cd
  dsimp only at hhd
  subst hhd
  repeat (first | with_reducible refine OEX.store_in_old hns hwn hz ?_ | with_reducible refine wpAny_loadPart_at hx ?_ | with_reducible refine clsL.at ?_ | wp_step)
  intro h2 tk2 hn2 sb2
  exact fin h2 tk2 (fun b o hb ho => (sb2.2 b hb).trans ho) hn2
end
end SlX

/-! ### SlB -/
set_option Elab.async false
set_option linter.all false
set_option maxRecDepth 100000
set_option maxHeartbeats 4000000
namespace SlX
open PySem PySem.W PySem.Calls
open Builtin Builtin.ObjectAttr
section
variable {M : Model} {prog : Program} {w : World} {A : Around} {E : Value → Shared → Prop} {R : Result → Shared → Prop} {h : Heap} {g : Array GenState} {d : Drawn} {t : Nat} {os : OsState}
variable {nm q : Str} {C N : Addr} {bs bm bmB : List Value} {hdct : Bool} {sn : List Str} {sub : List Value} {ab : Bool} {col : Option Bool} {dd : Option Addr} {k0 k1 k2 k3 k5 : Option Value} {B newId initId : String}
variable {rest : List Value} {kw : List (Str × Value)}
theorem look_new_kw (FB : ExcBaseFacts B newId initId bmB) (same : ∀ T : String, bm.contains (.type T) = bmB.contains (.type T)) {Q : Unit → Shared → Prop}
    (hC : h.get? C = some (excClassObj nm q C N bs bm hdct sn sub ab col dd k0 k1 k2 k3 k5 newId)) (fin : Q () ⟨h, g, d, t, os⟩) : wpAny M A (checkBuiltinCall newId ⟨.ref C :: rest, kw⟩) Q E ⟨h, g, d, t, os⟩ := by
  have isB : (Value.ref C :: bm).contains (.type B) = true := by
    rw [List.contains_cons, same, FB.hasB, Bool.or_true]
  have ns := FB.noStar
  simp only [checkBuiltinCall, FB.newKind, FB.newSplit, FB.newRow]
  repeat (first | refine wpAny_loadPart_at hC ?_ | (refine wpAny_isSubtype_exc hC ?_; rw [isB]) | refine wpAny_staticBase_exc hC ?_ | refine wpAny_madeBy_exc hC ?_ | simp only [bne_self_eq_false, Bool.false_eq_true, if_false] | wp_step)
  exact fin
theorem new_kw (FB : ExcBaseFacts B newId initId bmB) (same : ∀ T : String, bm.contains (.type T) = bmB.contains (.type T))
    (hC : h.get? C = some (excClassObj nm q C N bs bm hdct sn sub ab col dd k0 k1 k2 k3 k5 newId)) (sz : rest.length ≤ sizeLine)
    (fin : R (.ok (.ret (.ref (h.objs.size + 1)))) ⟨(h.push (W.kdv_tup rest)).push (HandSPX.excO C h.objs.size), g, d, t, os⟩) :
    codeAny (model prog w) A (.builtin newId ⟨.ref C :: rest, kw⟩) R ⟨h, g, d, t, os⟩ := by
  have en := FB.ends
  have isB : (Value.ref C :: bm).contains (.type B) = true := by
    rw [List.contains_cons, same, FB.hasB, Bool.or_true]
  have noA : (Value.ref C :: bm).contains (.type "AttributeError") = false := by
    rw [List.contains_cons, same, FB.noAttr]
    rfl
  have noN : (Value.ref C :: bm).contains (.type "NameError") = false := by
    rw [List.contains_cons, same, FB.noName]
    rfl
  refine codeAny_builtinAt FB.entry ?_
  unfold Builtin.«BaseException.__new__»
  refine wpAt_bind ?_
  show wpAt _ _ _ (stack >>= _) _ _ _
  refine wpAt_bind (wpAt_stack fun p below => wpAt_of_wpAny ?_)
  wp_walk
  refine wpAt_of_wpAny ?_
  rw [FB.owner]
  repeat (first | with_reducible refine wpAny_madeHere_exc FB.canon hC ?_ | with_reducible refine wpAny_loadPart_at hC ?_ | (with_reducible refine wpAny_isSubtype_exc hC ?_; first | rw [isB] | rw [noA] | rw [noN]) | wp_step)
  show R _ _
  rw [Heap.size_push]
  exact fin
theorem typeCall_kw (FB : ExcBaseFacts B newId initId bmB) (same : ∀ T : String, bm.contains (.type T) = bmB.contains (.type T)) {fI : Addr} {Q : Fin → Shared → Prop}
    (hC : h.get? C = some (excClassObj nm q C N bs bm hdct sn sub ab col dd k0 k1 k2 k3 k5 newId))
    (hi : W.Looks (model prog w) h (typeLookup (.ref C) "__init__") (some (.ref fI))) (hb : ∀ self, W.Looks (model prog w) h (bindSpecial (.ref fI) self) (.ref fI, [self])) (sz : rest.length ≤ sizeLine)
    (fin : codeAny (model prog w) A (.call (.ref fI) ⟨.ref (h.objs.size + 1) :: rest, kw⟩)
      (fun r s2 => match r with | .ok (.ret v) => v = .none ∧ Q (.done (.ret (.ref (h.objs.size + 1)))) s2 | .ok _ => False | .error e => E e s2)
      ⟨(h.push (W.kdv_tup rest)).push (HandSPX.excO C h.objs.size), g, d, t, os⟩) :
    wpAny (model prog w) A (Builtin.«type.__call__» ⟨.ref C :: rest, kw⟩) Q E ⟨h, g, d, t, os⟩ := by
  repeat (first | with_reducible refine wpAny_loadPart_at hC ?_ | with_reducible refine wpAny_madeBy_exc hC ?_ | wp_step)
  refine codeAny_call_builtin_code (Code.quiet_builtin _ FB.quiet) (look_new_kw FB same hC ?_)
  refine new_kw FB same hC sz ?_
  show wpAny _ _ _ _ _ _
  have kp : ∀ b o, h.get? b = some o → ((h.push (W.kdv_tup rest)).push (HandSPX.excO C h.objs.size)).get? b = some o := fun b o e => Heap.get?_push_of_some _ (Heap.get?_push_of_some _ e)
  have hC2 := kp _ _ hC
  have got : ((h.push (W.kdv_tup rest)).push (HandSPX.excO C h.objs.size)).get? (h.objs.size + 1) = some (HandSPX.excO C h.objs.size) := by heap_get
  have isC : (Value.ref C :: bm).contains (.ref C) = true := by simp
  have i2 := hi.keeps kp
  have b2 := (hb (.ref (h.objs.size + 1))).keeps kp
  unfold isInstance
  repeat (first | with_reducible refine wpAny_loadPart_at got ?_ | (with_reducible refine wpAny_isSubtype_exc hC2 ?_; rw [isC]) | wp_step)
  show wpAny _ _ (typeLookup (.ref C) _) _ _ _
  refine i2.at ?_
  refine wpAny_holding (wpAny_bind (b2.at ?_))
  refine wpAny_bind (wpAny_call (codeAny_mono fin fun r s2 z => ?_))
  rcases r with e | (v | _ | _ | _) <;> first | exact z | exact z.elim | skip
  obtain ⟨rfl, z⟩ := z
  first
    | exact wpAny_pure (wpAny_pure z)
    | (wp_walk; exact z)
theorem look_call_kw {Q : Unit → Shared → Prop} (hC : h.get? C = some (excClassObj nm q C N bs bm hdct sn sub ab col dd k0 k1 k2 k3 k5 newId)) (fin : Q () ⟨h, g, d, t, os⟩) :
    wpAny M A (checkBuiltinCall "type.__call__" ⟨.ref C :: rest, kw⟩) Q E ⟨h, g, d, t, os⟩ := by
  have f3 := tc_sub
  have ty : (⟨h, g, d, t, os⟩ : Shared).TypeIs (.ref C) "type" := ⟨_, hC, rfl⟩
  simp only [checkBuiltinCall, tc_kind, tc_split]
  repeat (any_goals (first | assumption | with_reducible refine wpAny_loadPart_at hC ?_ | with_reducible refine wpAny_onRaise ?_ | with_reducible refine wpAny_map ?_ | wp_step))
theorem callCls_kw (FB : ExcBaseFacts B newId initId bmB) (same : ∀ T : String, bm.contains (.type T) = bmB.contains (.type T)) {fI : Addr}
    (hC : h.get? C = some (excClassObj nm q C N bs bm hdct sn sub ab col dd k0 k1 k2 k3 k5 newId))
    (hi : W.Looks (model prog w) h (typeLookup (.ref C) "__init__") (some (.ref fI))) (hb : ∀ self, W.Looks (model prog w) h (bindSpecial (.ref fI) self) (.ref fI, [self])) (sz : rest.length ≤ sizeLine)
    (fin : codeAny (model prog w) (A.under (.builtin "type.__call__" ⟨.ref C :: rest, kw⟩)) (.call (.ref fI) ⟨.ref (h.objs.size + 1) :: rest, kw⟩) (W.InitBack (h.objs.size + 1) R)
      ⟨(h.push (W.kdv_tup rest)).push (HandSPX.excO C h.objs.size), g, d, t, os⟩) :
    codeAny (model prog w) A (.call (.ref C) ⟨rest, kw⟩) R ⟨h, g, d, t, os⟩ := by
  have f1 := tc_lookup
  have f2 := tc_bind (.ref C)
  have ty : (⟨h, g, d, t, os⟩ : Shared).TypeIs (.ref C) "type" := ⟨_, hC, rfl⟩
  refine codeAny_of_tree ?_
  show wpAny _ _ (callAny (.ref C) _) _ _ _
  repeat (any_goals (first | assumption | with_reducible refine wpAny_loadPart_at hC ?_ | wp_step))
  refine ⟨rfl, ?_⟩
  refine codeAny_call_builtin_at (Code.quiet_builtin _ (by decide +kernel)) entry_typeCall (look_call_kw hC (typeCall_kw FB same hC hi hb sz ?_))
  refine codeAny_mono fin fun r s2 z => ?_
  rcases r with e | (v | _ | _ | _) <;> exact z
end
end SlX

/-! ### SlC -/
set_option Elab.async false
set_option linter.all false
set_option maxRecDepth 100000
set_option maxHeartbeats 4000000
namespace SlX
open PySem PySem.W PySem.Calls PyProof.Rows PySem.Spec L2
open Builtin Builtin.ObjectAttr
/-- self.f = f, for each of the fields -/
inductive Inits : List Stmt → List Str → Prop
  | nil : Inits [] []
  | cons {f : Str} {fs : List Str} {r : List Stmt} (q1 q2 q3 q4 : Pos) : Inits r fs → Inits (.Assign [.Attribute (.Name "self" q1) f q2] (.Name f q3) q4 :: r) (f :: fs)
/-- an exception class of the program whose __init__ (at fI, the statement st) stores the fields fs -/
structure EC (K : Frag) (C fI : Addr) (qual : Str) (st : Stmt) (fs : List Str) : Prop where
  ob : ∃ B newId initId bmB nm q N bs bm sn sub ab col dd k0 k1 k2 k3 k5, ExcBaseFacts B newId initId bmB ∧ StoreFacts B bmB "object.__setattr__" "object" ∧
    K.lookup C = some (excClassObj nm q C N bs bm true sn sub ab col dd k0 k1 k2 k3 k5 newId) ∧ excTail bmB bm = true
  sa : findIn K (.ref C) "__setattr__" = some (some (.builtin "object.__setattr__"))
  ga : findIn K (.ref C) "__getattribute__" = some (some (.builtin "BaseException.__getattribute__"))
  gg : findIn K (.ref C) "__getattr__" = some none
  no : ∀ f ∈ fs, findIn K (.ref C) f = some none
  iC : findIn K (.ref C) "__init__" = some (some (.ref fI))
  tI : typeIn K (.ref fI) = some (.type "function")
  kC : keepIn K (.ref C) = true
  exC : subIn K (.ref C) (.type "BaseException") = some true
  tyC : typeIn K (.ref C) = some (.type "type")
  hdC : hasDictIn K C = true
  fn : ∃ (oc : Value) (od : Option Addr) (kV doc pm : Value) (an : Option Addr) (cdv ct : Value) (osl : Array (Option Value)),
    K.lookup fI = some ⟨oc, od, .func (fnOf "__init__" qual (defArgs st) (defBody st) (defScope st) .none kV doc pm an cdv ct), osl⟩ ∧ codeIn K cdv qual = true
/-- how the __init__ reads: names and fields of its text -/
structure InitTxt (st : Stmt) (fs : List Str) : Prop where
  body : Inits (defBody st) fs
  nd : (("self" : Str) :: fs).Nodup
  loc : ∀ y ∈ (("self" : Str) :: fs), (defScope st).names.lookup y = some .local ∧ (y == ("__debug__" : Str)) = false
  kind : (defScope st).kind = .function
  co : (defScope st).isCoroutine = false
  gen : (defScope st).isGenerator = false
/-- a made exception: at e, its dict at d -/
structure MadeE (h h2 : Heap) (e C d : Addr) (l : List (Str × Value)) : Prop where
  keep : ∀ b o, h.get? b = some o → h2.get? b = some o
  new : h.objs.size ≤ e
  obj : ∃ oe vs, h2.get? e = some oe ∧ oe.cls = .ref C ∧ oe.dict = some d ∧ oe.data = .fields vs ∧ vs[1]? = some .none ∧ vs[2]? = some .none
  dbig : h.objs.size ≤ d
  dne : d ≠ e
  ns : h2.Ns1 d (fun y => l.lookup y)
theorem look_put {α : Type} (f y : Str) (v : α) (l : List (Str × α)) : ((f, v) :: l).lookup y = if y = f then some v else l.lookup y := by
  by_cases h : y = f
  · subst h
    simp [List.lookup]
  · have e : (y == f) = false := by simpa using h
    rw [if_neg h]
    simp [List.lookup, e]
theorem with_keys {l : List (Str × Value)} : Within (fun y => l.lookup y) (l.map (·.1)) := fun y hy => by
  induction l with
  | nil => exact absurd rfl hy
  | cons p l ih =>
    obtain ⟨f, v⟩ := p
    dsimp only at hy
    rw [look_put] at hy
    by_cases e : y = f
    · rw [e]
      exact List.mem_cons_self ..
    · rw [if_neg e] at hy
      exact List.mem_cons_of_mem _ (ih hy)
section
variable {prog : Program} {w : World} {A : Around} {E : Value → Shared → Prop} {R : Result → Shared → Prop} {K : Frag} {C fI : Addr} {qual : Str} {st : Stmt} {fs : List Str}
theorem EC.over (T : EC K C fI qual st fs) : ∃ B bmB, StoreFacts B bmB "object.__setattr__" "object" ∧ excOver K C bmB = true := by
  obtain ⟨B, newId, initId, bmB, nm, q, N, bs, bm, sn, sub, ab, col, dd, k0, k1, k2, k3, k5, FB, SF, hC, ht⟩ := T.ob
  refine ⟨B, bmB, SF, ?_⟩
  have hcl : clsIn K C = some { name := nm, bases := bs, mro := .ref C :: bm, ns := N, qualname := q, hasDict := true, slotNames := sn, subclasses := sub, abstract := ab, collection := col, hasDel := false } := by
    unfold clsIn
    rw [hC] <;> rfl
  unfold excOver
  rw [hcl]
  simp [ht]
theorem rd_loc {M : Model} {s : Shared} {scope : Scope} {L a : Addr} {cd : Value} {m : Str → Option Value} {x : Str} {pos : Pos} {v : Value} {Q : Value → Shared → Prop} (hn : s.heap.Ns L m) (hv : m x = some v) (hk : scope.kind = .function) (hl : scope.names.lookup x = some .local)
    (hd : (x == ("__debug__" : Str)) = false) (h : Q v s) : wpAny M A (eval (.Name x pos) (envOfC qual scope L a cd)) Q E s := wpAny_Name (wpAny_loadName_local hk hl hn hv h) hd
/-- the later stores -/
theorem init_more {sc : Scope} {L dx x a : Addr} {cdv : Value} {m : Str → Option Value} {fv : Array Value} {val : Str → Value} (T : EC K C fI qual st fs) (hkind : sc.kind = .function) (hself : sc.names.lookup ("self" : Str) = some .local) (hmS : m "self" = some (.ref x)) (xL : x ≠ L) (dL : dx ≠ L) (xd : x ≠ dx) (nx : K.lookup x = none) (nd : K.lookup dx = none) :
    ∀ (body : List Stmt) (gs : List Str), Inits body gs → (∀ f ∈ gs, f ∈ fs ∧ m f = some (val f) ∧ sc.names.lookup f = some .local ∧ (f == ("__debug__" : Str)) = false) → ∀ (s : Shared) (l : List (Str × Value)) (Q : Flow → Shared → Prop), K.In s.heap → s.heap.Ns L m → l.length + gs.length ≤ 1000 →
      s.heap.get? x = some { cls := .ref C, dict := some dx, data := .fields fv } → s.heap.Ns1 dx (fun y => l.lookup y) →
      (∀ h2 tk, (∀ b o, b ≠ dx → s.heap.get? b = some o → h2.get? b = some o) → h2.Ns1 dx (fun y => ((gs.map fun f => (f, val f)).reverse ++ l).lookup y) → Q .next { s with heap := h2, toks := tk }) →
      wpAny (model prog w) A (execs body (envOfC qual sc L a cdv)) Q E s := by
  intro body gs I
  induction I with
  | nil => exact fun _ s l Q KX hn hz hx hd fin => wpAny_execs_nil (fin s.heap s.toks (fun _ _ _ e => e) hd)
  | @cons f gs r q1 q2 q3 q4 I ih =>
    intro hall s l Q KX hn hz hx hd fin
    obtain ⟨hf, hmf, hlf, hdf⟩ := hall f (List.mem_cons_self ..)
    obtain ⟨B, bmB, SF, ov⟩ := T.over
    obtain ⟨hp, g, dr, tk0, os⟩ := s
    refine wpAny_execs_cons (plainObj_wpAny_Assign_Attribute ?_)
    refine rd_loc hn hmf hkind hlf hdf (rd_loc hn hmS hkind hself (by decide) ?_)
    obtain ⟨oD, esD, epD, hoD, hdD, hrD⟩ := id hd
    refine set_plain KX (ox := { cls := .ref C, dict := some dx, data := .fields fv }) (od := some oD) ⟨hx, rfl, rfl, hoD⟩ T.sa ?_
    have hlen : (l.map (·.1)).length ≤ 1000 := by
      rw [List.length_map]
      have q : l.length + (gs.length + 1) ≤ 1000 := hz
      omega
    refine more_put SF KX hx hd with_keys hlen ov T.hdC (T.no f hf) (fun h2 tk2 k2 hd2 => ?_)
    show wpAny _ _ (execs r _) _ _ _
    have kl : ∀ y, (if y = f then some (val f) else l.lookup y) = ((f, val f) :: l).lookup y := fun y => (look_put f y _ l).symm
    refine ih (fun y hy => hall y (List.mem_cons_of_mem _ hy)) ⟨h2, g, dr, tk2, os⟩ ((f, val f) :: l) Q (fun b o e => k2 b o (fun z => by rw [z, nd] at e; cases e) (KX b o e)) (hn.at fun o e => k2 _ o (Ne.symm dL) e) ?_ (k2 _ _ xd hx) ?_ (fun h3 tk3 k3 hd3 => ?_)
    · show l.length + 1 + gs.length ≤ 1000
      have q : l.length + (gs.length + 1) ≤ 1000 := hz
      omega
    · have hd2' := hd2
      simp only [kl] at hd2'
      exact hd2'
    · refine fin h3 tk3 (fun b o hb e => k3 b o hb (k2 b o hb e)) ?_
      have e : ((gs.map fun f => (f, val f)).reverse ++ (f, val f) :: l) = (((f :: gs).map fun f => (f, val f)).reverse ++ l) := by simp
      rw [← e]
      exact hd3
end
end SlX

/-! ### SlD -/
set_option Elab.async false
set_option linter.all false
set_option maxRecDepth 100000
set_option maxHeartbeats 4000000
namespace SlX
open PySem PySem.W PySem.Calls PyProof.Rows PySem.Spec L2
open Builtin Builtin.ObjectAttr
section
variable {prog : Program} {w : World} {A : Around} {E : Value → Shared → Prop} {R : Result → Shared → Prop} {K : Frag} {C fI : Addr} {qual : Str} {st : Stmt} {fs : List Str}
/-- the arguments as the __init__ takes them -/
def BindI (st : Stmt) (qual : Str) (fs : List Str) (args : Value → Args) (vals : List Value) : Prop :=
  ∀ (kV doc pm : Value) (an : Option Addr) (cdv ct u : Value) (s : Shared), BindsTo s (fnOf "__init__" qual (defArgs st) (defBody st) (defScope st) .none kV doc pm an cdv ct) (args u) ((("self" : Str), u) :: fs.zip vals)
theorem bound_at {ps : List Str} {us : List Value} {kindOf : Str → Option NameKind} {i : Nat} {y : Str} {v : Value} (nd : ps.Nodup) (h1 : ps[i]? = some y) (h2 : us[i]? = some v) (hk : kindOf y = some .local) :
    bindL kindOf (ps.zip us) (fun _ => none) y = some v := bindL_get nd h1 h2 hk
theorem vals_fun : ∀ {gs : List Str} {vs : List Value}, gs.Nodup → vs.length = gs.length → ∃ val : Str → Value, gs.map (fun f => (f, val f)) = gs.zip vs
  | [], _, _, _ => ⟨fun _ => .none, rfl⟩
  | f :: r, [], _, h => by cases h
  | f :: r, v :: vr, nd, h => by
    obtain ⟨val, hv⟩ := vals_fun (gs := r) (vs := vr) (List.nodup_cons.mp nd).2 (by simpa using h)
    refine ⟨fun y => if y = f then v else val y, ?_⟩
    show (f, if f = f then v else val f) :: _ = (f, v) :: r.zip vr
    rw [if_pos rfl, ← hv]
    congr 1
    refine List.map_congr_left fun y hy => ?_
    have ny : y ≠ f := fun z => (List.nodup_cons.mp nd).1 (by rw [← z]; exact hy)
    show (y, if y = f then v else val y) = _
    rw [if_neg ny]
/-- the __init__ of a fresh exception at x -/
theorem init_run {s : Shared} {x t0 : Addr} {v0 : Value} {vs : List Value} {f0 : Str} {gs : List Str} {args : Value → Args} (T : EC K C fI qual st (f0 :: gs)) (J : InitTxt st (f0 :: gs)) (B : BindI st qual (f0 :: gs) args (v0 :: vs)) (hlen : vs.length = gs.length) (hsz : gs.length ≤ 900) (KX : K.In s.heap)
    (lim : s.heap.NoLimit) (hx : s.heap.get? x = some (HandSPX.excO C t0)) (nx : K.lookup x = none) (room : A.depth < recursionLimit)
    (fin : ∀ h2 tk dx, (∀ b o, b ≠ x → s.heap.get? b = some o → h2.get? b = some o) → h2.get? x = some { cls := .ref C, dict := some dx, data := .fields #[.ref t0, .none, .none, .none, .bool false, .none] } → s.heap.objs.size ≤ dx → dx ≠ x →
      h2.Ns1 dx (fun y => (((f0 :: gs).zip (v0 :: vs)).reverse).lookup y) → R (.ok (.ret .none)) { s with heap := h2, toks := tk }) :
    codeAny (model prog w) A (.call (.ref fI) (args (.ref x))) R s := by
  obtain ⟨oc, od, kV, doc, pm, an, cdv, ct, osl, ho, hcd⟩ := T.fn
  obtain ⟨Bn, bmB, SF, ov⟩ := T.over
  have hself := (J.loc "self" (List.mem_cons_self ..)).1
  have hloc : ∀ f ∈ f0 :: gs, (defScope st).names.lookup f = some .local ∧ (f == ("__debug__" : Str)) = false := fun f hf => J.loc f (List.mem_cons_of_mem _ hf)
  have hall : ∀ y ∈ ((("self" : Str), Value.ref x) :: (f0 :: gs).zip (v0 :: vs)), ((defScope st).names.lookup y.1 == some NameKind.local || (defScope st).names.lookup y.1 == some NameKind.cell) = true := fun y hy => by
    have q : y.1 ∈ (("self" : Str) :: f0 :: gs) := by
      rcases List.mem_cons.mp hy with e | e
      · rw [e]
        exact List.mem_cons_self ..
      · exact List.mem_cons_of_mem _ (List.of_mem_zip (a := y.1) (b := y.2) e).1
    rw [(J.loc _ q).1]
    rfl
  refine Att.call_fn (binds := (("self" : Str), .ref x) :: (f0 :: gs).zip (v0 :: vs)) KX lim ho hcd room (B _ _ _ _ _ _ _ s) (List.all_eq_true.mpr hall) (fun s1 IC => ?_) J.co J.gen J.kind
  obtain ⟨h1, tk1, rfl⟩ := IC.toInCall.same
  have k : ∀ b o, s.heap.get? b = some o → h1.get? b = some o := IC.toInCall.keep
  have hn := IC.toInCall.ns
  have xL : x ≠ s.heap.objs.size := Nat.ne_of_lt (Heap.lt_size hx)
  have KX1 : K.In h1 := KX.keeps k
  have hx1 := k _ _ hx
  have z1 : s.heap.objs.size < h1.objs.size := hn.lt
  -- the frame's map
  have mS : bindL (envOfC qual (defScope st) s.heap.objs.size fI cdv).kindOf ((("self" : Str), Value.ref x) :: (f0 :: gs).zip (v0 :: vs)) (fun _ => none) "self" = some (.ref x) :=
    bound_at (ps := ("self" : Str) :: f0 :: gs) (us := .ref x :: v0 :: vs) (i := 0) J.nd rfl rfl hself
  have mF : ∀ (i : Nat) f v, (f0 :: gs)[i]? = some f → (v0 :: vs)[i]? = some v → bindL (envOfC qual (defScope st) s.heap.objs.size fI cdv).kindOf ((("self" : Str), Value.ref x) :: (f0 :: gs).zip (v0 :: vs)) (fun _ => none) f = some v := fun i f v e1 e2 =>
    bound_at (ps := ("self" : Str) :: f0 :: gs) (us := .ref x :: v0 :: vs) (i := i + 1) J.nd (by simpa using e1) (by simpa using e2) (hloc f (List.mem_of_getElem? e1)).1
  have body := J.body
  show wpAny _ _ (execs (defBody st) _) _ _ _
  generalize hB : defBody st = bd at body
  cases body with
  | cons q1 q2 q3 q4 I =>
    rename_i r
    obtain ⟨hl0, hd0⟩ := hloc f0 (List.mem_cons_self ..)
    refine wpAny_execs_cons (plainObj_wpAny_Assign_Attribute ?_)
    refine rd_loc hn (mF 0 f0 v0 rfl rfl) J.kind hl0 hd0 (rd_loc hn mS J.kind hself (by decide) ?_)
    refine set_plain KX1 (ox := HandSPX.excO C t0) (od := none) ⟨hx1, rfl, rfl, trivial⟩ T.sa ?_
    refine first_put SF KX1 hx1 ov T.hdC (T.no f0 (List.mem_cons_self ..)) (fun h3 tk3 dx k3 dn dne hx3 hn3 => ?_)
    show wpAny _ _ (execs r _) _ _ _
    have dbig : s.heap.objs.size ≤ dx := Nat.le_of_lt (Nat.lt_of_lt_of_le z1 dn)
    have dL : dx ≠ s.heap.objs.size := fun z => by
      have z2 : h1.objs.size ≤ s.heap.objs.size := z ▸ dn
      exact absurd (Nat.lt_of_lt_of_le z1 z2) (Nat.lt_irrefl _)
    have ndK : K.lookup dx = none := by
      cases e : K.lookup dx with
      | none => rfl
      | some o =>
        have z := Heap.lt_size (KX _ _ e)
        exact absurd (Nat.lt_of_lt_of_le z dbig) (Nat.lt_irrefl _)
    -- the value of a name of gs
    have hval := vals_fun (List.nodup_cons.mp (List.nodup_cons.mp J.nd).2).2 hlen
    obtain ⟨val, hv⟩ := hval
    have hgl : ∀ f ∈ gs, bindL (envOfC qual (defScope st) s.heap.objs.size fI cdv).kindOf ((("self" : Str), Value.ref x) :: (f0 :: gs).zip (v0 :: vs)) (fun _ => none) f = some (val f) := fun f hf => by
      obtain ⟨i, hi⟩ := List.getElem?_of_mem hf
      have e2 : (gs.map fun f => (f, val f))[i]? = some (f, val f) := by rw [List.getElem?_map, hi]; rfl
      rw [hv, List.getElem?_zip_eq_some] at e2
      exact mF (i + 1) f (val f) (by simpa using e2.1) (by simpa using e2.2)
    refine init_more (val := val) (l := [(f0, v0)]) (dx := dx) (x := x) T J.kind hself mS xL dL dne.symm nx ndK r gs I (fun f hf => ⟨List.mem_cons_of_mem _ hf, hgl f hf, hloc f (List.mem_cons_of_mem _ hf)⟩) ⟨h3, _, _, tk3, _⟩ _
      (fun b o e => k3 b o (fun z => by rw [z, nx] at e; cases e) (KX1 b o e)) (hn.at fun o e => k3 _ o xL.symm e) (by show 1 + gs.length ≤ 1000; omega) hx3 ?_ (fun h4 tk4 k4 hn4 => ?_)
    · have kl : ∀ y, (if y = f0 then some v0 else none) = ([(f0, v0)] : List (Str × Value)).lookup y := fun y => (look_put f0 y v0 []).symm
      have hn3' := hn3
      simp only [kl] at hn3'
      exact hn3'
    · refine fin h4 tk4 dx (fun b o hb e => ?_) (k4 _ _ dne.symm hx3) dbig dne ?_
      · have bd' : b ≠ dx := Nat.ne_of_lt (Nat.lt_of_lt_of_le (Heap.lt_size e) dbig)
        exact k4 b o bd' (k3 b o hb (k b o e))
      · have e : ((gs.map fun f => (f, val f)).reverse ++ [(f0, v0)]) = ((f0 :: gs).zip (v0 :: vs)).reverse := by rw [hv]; simp
        rw [← e]
        exact hn4
end
end SlX

/-! ### SlE -/
set_option Elab.async false
set_option linter.all false
set_option maxRecDepth 100000
set_option maxHeartbeats 4000000
namespace SlX
open PySem PySem.W PySem.Calls PyProof.Rows PySem.Spec L2
section
variable {prog : Program} {w : World} {A : Around} {E : Value → Shared → Prop} {R : Result → Shared → Prop} {K : Frag} {C fI : Addr} {qual : Str} {st : Stmt} {fs : List Str}
/-- the class called -/
theorem made_run {s : Shared} {us : List Value} {kw : List (Str × Value)} {v0 : Value} {vs : List Value} {f0 : Str} {gs : List Str} (T : EC K C fI qual st (f0 :: gs)) (J : InitTxt st (f0 :: gs)) (B : BindI st qual (f0 :: gs) (fun u => ⟨u :: us, kw⟩) (v0 :: vs))
    (hlen : vs.length = gs.length) (hsz : gs.length ≤ 900) (husz : us.length ≤ sizeLine) (KX : K.In s.heap) (lim : s.heap.NoLimit) (room : A.depth + 1 < recursionLimit)
    (fin : ∀ h2 tk e d, MadeE s.heap h2 e C d (((f0 :: gs).zip (v0 :: vs)).reverse) → R (.ok (.ret (.ref e))) { s with heap := h2, toks := tk }) :
    codeAny (model prog w) A (.call (.ref C) ⟨us, kw⟩) R s := by
  obtain ⟨Bn, newId, initId, bmB, nm, q, N, bs, bm, sn, sub, ab, col, dd, k0, k1, k2, k3, k5, FB, SF, hC, ht⟩ := T.ob
  obtain ⟨hp, g, dr, tk, os⟩ := s
  have kp : ∀ b o, hp.get? b = some o → ((hp.push (W.kdv_tup us)).push (HandSPX.excO C hp.objs.size)).get? b = some o := fun b o e => Heap.get?_push_of_some _ (Heap.get?_push_of_some _ e)
  have got : ((hp.push (W.kdv_tup us)).push (HandSPX.excO C hp.objs.size)).get? (hp.objs.size + 1) = some (HandSPX.excO C hp.objs.size) := by heap_get
  have nx : K.lookup (hp.objs.size + 1) = none := by
    cases e : K.lookup (hp.objs.size + 1) with
    | none => rfl
    | some o =>
      have z : hp.get? (hp.objs.size + 1) = some o := KX _ _ e
      exact absurd (Nat.lt_of_succ_lt (Heap.lt_size z)) (Nat.lt_irrefl _)
  refine callCls_kw FB (fun T => excTail_contains T _ ht) (KX _ _ hC) (looks_findIn KX T.iC) (fun self => bind_fn KX self T.tI) husz ?_
  refine init_run (s := ⟨(hp.push (W.kdv_tup us)).push (HandSPX.excO C hp.objs.size), g, dr, tk, os⟩) (args := fun u => ⟨u :: us, kw⟩) T J B hlen hsz (KX.keeps kp) (lim.keeps kp) got nx ?_ fun h2 tk2 dx k2 hx2 dbig dne hns => ?_
  · have e : (A.under (Code.builtin "type.__call__" ⟨.ref C :: us, kw⟩)).depth = A.depth + 1 := make_depth
    rw [e]
    exact room
  · have z : hp.objs.size + 1 + 1 ≤ dx := by
      first
        | (simpa only [Heap.size_push] using dbig)
        | exact dbig
    refine ⟨rfl, fin h2 tk2 (hp.objs.size + 1) dx ⟨fun b o e => ?_, Nat.le_succ _, ⟨_, _, hx2, rfl, rfl, rfl, rfl, rfl⟩, Nat.le_trans (Nat.le_trans (Nat.le_succ _) (Nat.le_succ _)) z, dne, hns⟩⟩
    exact k2 b o (Nat.ne_of_lt (Nat.lt_succ_of_lt (Heap.lt_size e))) (kp b o e)
end
end SlX
namespace L2.Sl
open PySem PySem.W PySem.Calls PyProof.Rows PySem.Spec SlX
/-! ### over the layer -/
theorem zip_rel : ∀ {fs : List Str} {vs : List V} {us : List Value}, Vals vs us → ∀ y, RelO ((fs.zip vs).reverse.lookup y) ((fs.zip us).reverse.lookup y) := by
  have key : ∀ {fs : List Str} {vs : List V} {us : List Value} {l : List (Str × V)} {m : List (Str × Value)}, Vals vs us → (∀ y, RelO (l.lookup y) (m.lookup y)) → ∀ y, RelO (((fs.zip vs).reverse ++ l).lookup y) (((fs.zip us).reverse ++ m).lookup y) := by
    intro fs
    induction fs with
    | nil => intro vs us l m _ h y; exact h y
    | cons f r ih =>
      intro vs us l m hv h y
      cases hv with
      | nil => exact h y
      | @cons v u vr ur h1 h2 =>
        have e1 : ((f :: r).zip (v :: vr)).reverse ++ l = (r.zip vr).reverse ++ ((f, v) :: l) := by simp
        have e2 : ((f :: r).zip (u :: ur)).reverse ++ m = (r.zip ur).reverse ++ ((f, u) :: m) := by simp
        rw [e1, e2]
        refine ih h2 (fun y => ?_) y
        rw [look_put, look_put]
        by_cases e : y = f
        · rw [if_pos e, if_pos e]
          exact h1
        · rw [if_neg e, if_neg e]
          exact h y
  intro fs vs us hv y
  have q := key (fs := fs) (l := []) (m := []) hv (fun y => by trivial) y
  rw [List.append_nil, List.append_nil] at q
  exact q
/-- C(..), the fields fs stored; g: the arguments in the fields' order -/
def tMkE (C : Addr) (fs : List Str) (gV : List V → List V) (ta : TA) : St → Hp → XK → Prop := fun σ H Q => ta σ H fun vs H1 => (gV vs).length = fs.length ∧ vs.length = fs.length ∧ ∀ d, H1 d = none → Q (.ref C) (some d) (upd H1 d (.xd ((fs.zip (gV vs)).reverse)))
section
variable {X : Cx} {C fI : Addr} {qual : Str} {st : Stmt} {fs : List Str} {x : Str} {p pos : Pos}
/-- behind the class's call -/
theorem mk_back {pins : List (Addr × Obj)} {σ : St} {H1 : Hp} {Q : XK} {hp h2 : Heap} {g : Array GenState} {dr : Drawn} {tk tk2 : Nat} {os : OsState} {e d : Addr} {vs : List V} {us : List Value} (T : EC X.K C fI qual st fs)
    (I1 : Inv X pins σ H1 ⟨hp, g, dr, tk, os⟩) (rv : Vals vs us) (M : MadeE hp h2 e C d ((fs.zip us).reverse)) (q : ∀ d, H1 d = none → Q (.ref C) (some d) (upd H1 d (.xd ((fs.zip vs).reverse)))) : L2N.MkP X pins σ Q (.ref e) ⟨h2, g, dr, tk2, os⟩ := by
  obtain ⟨oe, fv, hoe, hc, hd, hdat, h1, h2c⟩ := M.obj
  have hns := M.ns
  obtain ⟨G, g1, g2⟩ := restrict h2 fun b => decide (b ≠ e)
  have gk : ∀ b, b ≠ e → G.get? b = h2.get? b := fun b hb => g1 b (decide_eq_true hb)
  have ge : G.get? e = none := g2 e (by simp)
  have old : ∀ b o, hp.get? b = some o → G.get? b = some o := fun b o q => (gk b (Nat.ne_of_lt (Nat.lt_of_lt_of_le (Heap.lt_size q) M.new))).trans (M.keep b o q)
  have ob : ObjOk X.prog X.w (upd H1 d (.xd ((fs.zip vs).reverse))) G d (.xd ((fs.zip vs).reverse)) :=
    ⟨_, hns.at (fun o q => (gk d M.dne).trans q), zip_rel rv⟩
  have J : Inv X pins σ (upd H1 d (.xd ((fs.zip vs).reverse))) ⟨G, g, dr, tk2, os⟩ := I1.laid (t' := tk2) old M.dbig ob
  refine ⟨e, oe, fv, ⟨G, g, dr, tk2, os⟩, _, .ref C, some d, rfl, J, fun b o q => ?_, ge, hoe, ⟨hc, hd, fun vs e => by rw [hdat] at e; cases e; exact h2c⟩, hdat, h1, ?_, rfl, I1.bare, raises_own T.exC T.tyC, q d (I1.hok.fresh M.dbig)⟩
  · by_cases hb : b = e
    · have q' : G.get? b = some o := q
      rw [hb, ge] at q'; cases q'
    · exact (gk b hb).symm.trans q
  · rw [upd_ne (Ne.symm M.dne)]
    exact I1.hok.fresh M.new
/-- C(e, ..) -/
theorem pmk_E {a : Expr} {es : List Expr} {ta : TA} {k : Nat} (T : EC X.K C fI qual st fs) (J : InitTxt st fs) (hB : ∀ us : List Value, us.length = fs.length → BindI st qual fs (fun u => ⟨u :: us, []⟩) us) (hne : 0 < fs.length ∧ fs.length ≤ 900) (hr : Room k X.A) (hm : X.mg x = some (.ref C))
    (ha : PA X (a :: es) ta) (hg : Gl X x := by rfl) (hdb : (x == ("__debug__" : Str)) = false := by decide)
    (he : starEach (a :: es) X.env = (false, eval a X.env) :: starEach es X.env := by rfl) (hpl : (backTo pos (starEach es X.env)).any (·.1) = false := by rfl) :
    L2N.PMk X (.Call (.Name x p) (a :: es) [] pos) (tMkE C fs id ta) := by
  intro pins s σ H Q I h
  refine wpAny_Call_Name_kw (ld_glob I hg hm ?_ hdb)
  refine PySem.W.callWith_K (h₀ := X.base) I.ok.mod.kin T.kC (thn (ha.run pos pins s σ H _ I h) fun us s1 hh => ?_) he hpl
  obtain ⟨vs, H1, I1, r1, hl, _, q1⟩ := hh
  refine ⟨I1.kIn, ?_⟩
  show wpAny _ _ (call (.ref C) us) _ _ _
  have lus : us.length = fs.length := r1.length.symm.trans hl
  have lim := I1.nolimit
  obtain ⟨hp, g, dr, tk, os⟩ := s1
  have hB1 := hB us lus
  have husz : us.length ≤ sizeLine := by
    rw [lus, sizeLine_eq]
    omega
  cases fs with
  | nil => exact absurd hne.1 (Nat.lt_irrefl _)
  | cons f0 gs =>
    cases us with
    | nil => cases lus
    | cons u0 ur =>
      have hgs : gs.length ≤ 900 := by
        have z := hne.2
        rw [List.length_cons] at z
        omega
      refine wpAny_call (made_run T J hB1 (by simpa using lus) hgs husz I1.kIn lim (by have := hr.dp; omega) fun h2 tk2 e d M => ?_)
      exact mk_back T I1 r1 M q1
/-- C(k = e, ..) -/
theorem pmk_Ek {kws : List Keyword} {ta : TA} {k : Nat} {ks : List Str} {gV : List V → List V} {gU : List Value → List Value} (T : EC X.K C fI qual st fs) (J : InitTxt st fs) (hrel : ∀ vs us, Vals vs us → vs.length = fs.length → Vals (gV vs) (gU us))
    (hB : ∀ us : List Value, us.length = fs.length → BindI st qual fs (fun u => ⟨[u], ks.zip us⟩) (gU us)) (hne : 0 < fs.length ∧ fs.length ≤ 900) (hr : Room k X.A) (hm : X.mg x = some (.ref C))
    (hkw : PK X kws ta) (hg : Gl X x := by rfl) (hdb : (x == ("__debug__" : Str)) = false := by decide)
    (hall : (backToKw pos (keywordEach kws X.env)).all (·.1.isSome) = true := by rfl) (hks : (backToKw pos (keywordEach kws X.env)).filterMap (·.1) = ks := by rfl)
    (hpl : ((backTo pos (starEach [] X.env)).any (·.1) || (backToKw pos (keywordEach kws X.env)).any (·.1.isNone)) = false := by rfl) :
    L2N.PMk X (.Call (.Name x p) [] kws pos) (tMkE C fs gV ta) := by
  intro pins s σ H Q I h
  refine wpAny_Call_Name_kw (ld_glob I hg hm ?_ hdb)
  refine PySem.W.callWith_KW0 (h₀ := X.base) I.ok.mod.kin T.kC hall (thn (hkw.run pos pins s σ H _ I h) fun us s1 hh => ?_) hpl
  obtain ⟨vs, H1, I1, r1, hl, hl0, q1⟩ := hh
  refine ⟨I1.kIn, ?_⟩
  rw [hks]
  show wpAny _ _ (call (.ref C) [] (ks.zip us)) _ _ _
  have lus : us.length = fs.length := r1.length.symm.trans hl0
  have r2 := hrel vs us r1 hl0
  have lim := I1.nolimit
  obtain ⟨hp, g, dr, tk, os⟩ := s1
  have hB1 := hB us lus
  have lg : (gU us).length = fs.length := r2.length.symm.trans hl
  generalize hG : gU us = gu at hB1 r2 lg
  cases fs with
  | nil => exact absurd hne.1 (Nat.lt_irrefl _)
  | cons f0 gs =>
    cases gu with
    | nil => cases lg
    | cons u0 ur =>
      have hgs : gs.length ≤ 900 := by
        have z := hne.2
        rw [List.length_cons] at z
        omega
      refine wpAny_call (made_run T J hB1 (by simpa using lg) hgs (Nat.zero_le _) I1.kIn lim (by have := hr.dp; omega) fun h2 tk2 e d M => ?_)
      exact mk_back T I1 r2 M q1
/-- C(k = e) -/
theorem pmk_Ek1 {kn : Str} {e : Expr} {kp : Pos} {te : TE} {k : Nat} (T : EC X.K C fI qual st fs) (J : InitTxt st fs) (hB : ∀ us : List Value, us.length = fs.length → BindI st qual fs (fun u => ⟨[u], ([kn] : List Str).zip us⟩) us) (hne : 0 < fs.length ∧ fs.length ≤ 900) (hr : Room k X.A) (hm : X.mg x = some (.ref C))
    (he : PE X e te) (hg : Gl X x := by rfl) (hdb : (x == ("__debug__" : Str)) = false := by decide) : L2N.PMk X (.Call (.Name x p) [] [⟨some kn, e, kp⟩] pos) (tMkE C fs id (tCons te tNil)) :=
  pmk_Ek (gV := id) (gU := id) (ks := [kn]) T J (fun _ _ r _ => r) hB hne hr hm (pk_cons he pk_nil) hg hdb rfl rfl rfl
/-- C(k = e, l = f) -/
theorem pmk_Ek2 {kn kn2 : Str} {e e2 : Expr} {kp kp2 : Pos} {te te2 : TE} {k : Nat} {gV : List V → List V} {gU : List Value → List Value} (T : EC X.K C fI qual st fs) (J : InitTxt st fs) (hrel : ∀ vs us, Vals vs us → vs.length = fs.length → Vals (gV vs) (gU us))
    (hB : ∀ us : List Value, us.length = fs.length → BindI st qual fs (fun u => ⟨[u], ([kn, kn2] : List Str).zip us⟩) (gU us)) (hne : 0 < fs.length ∧ fs.length ≤ 900) (hr : Room k X.A) (hm : X.mg x = some (.ref C))
    (he : PE X e te) (he2 : PE X e2 te2) (hg : Gl X x := by rfl) (hdb : (x == ("__debug__" : Str)) = false := by decide) : L2N.PMk X (.Call (.Name x p) [] [⟨some kn, e, kp⟩, ⟨some kn2, e2, kp2⟩] pos) (tMkE C fs gV (tCons te (tCons te2 tNil))) :=
  pmk_Ek (gV := gV) (gU := gU) (ks := [kn, kn2]) T J hrel hB hne hr hm (pk_cons he (pk_cons he2 pk_nil)) hg hdb rfl rfl rfl
end
end L2.Sl

/-! ### SlF -/
set_option Elab.async false
set_option linter.all false
set_option maxRecDepth 100000
set_option maxHeartbeats 4000000
namespace L2.Sl
open PySem PySem.W PySem.Calls PyProof.Rows PySem.Spec SlX
/-- at a: an exception of the class cls, its dict at d, held as a value -/
def exH (cls : Value) (d : Option Addr) (a : Addr) : HO := .ext fun h => ∃ oe vs, h.get? a = some oe ∧ Zc cls d oe ∧ oe.data = .fields vs
theorem exH_ok {P : Program} {w : World} {H : Hp} {h : Heap} {a : Addr} {cls : Value} {d : Option Addr} {oe : Obj} {vs : Array Value} (e : h.get? a = some oe) (z : Zc cls d oe) (f : oe.data = .fields vs) : ObjOk P w H h a (exH cls d a) :=
  ⟨⟨oe, vs, e, z, f⟩, ⟨oe, e⟩, fun _ _ ⟨o, v, q, r⟩ k => ⟨o, v, k o q, r⟩⟩
theorem exH_at {P : Program} {w : World} {H : Hp} {h : Heap} {a : Addr} {cls : Value} {d : Option Addr} (ok : HOk P w H h) (e : H a = some (exH cls d a)) : ∃ oe vs, h.get? a = some oe ∧ Zc cls d oe ∧ oe.data = .fields vs := by
  have x : ObjOk P w H h a (.ext fun h => ∃ oe vs, h.get? a = some oe ∧ Zc cls d oe ∧ oe.data = .fields vs) := ok a _ e
  exact x.1
section
variable {X : Cx} {pins : List (Addr × Obj)} {σ : L2.St} {H : Hp} {s : Shared} {a : Addr} {cls : Value} {d : Option Addr} {oe : Obj} {vs : Array Value}
/-- an object of ours that nothing tracks: from now on tracked -/
theorem hold (I : Inv X pins σ H s) (new0 : X.s_0.heap.get? a = none) (na : H a = none) (ha : s.heap.get? a = some oe) (hz : Zc cls d oe) (hd : oe.data = .fields vs) (hp : ∀ p ∈ X.pn ++ pins, p.1 ≠ a) (nL : a ≠ X.env.locals) :
    Inv X pins σ (upd H a (exH cls d a)) s := by
  have tr : ∀ {b : Addr} {u : HO}, H b = some u → b ≠ a := fun {b u} e => ne_of_none e na
  have was : ∀ {b : Addr} {o : Obj}, X.s_0.heap.get? b = some o → b ≠ a := fun {b o} e z => by
    rw [z, new0] at e
    cases e
  refine ⟨I.ok, I.os, I.bare, ⟨I.base.keep, I.base.slot, fun b o e n hx => ?_, I.base.there, fun b xs e => ?_, fun b o u e => ?_, fun b ps e => ?_⟩, I.loc, I.cell, ?_, fun y c e => ?_, fun p hq => ?_, fun b u e => ?_, I.len⟩
  · rw [upd_ne (was e)]
    exact I.base.free b o e n hx
  · have q := I.base.tups b xs e
    rw [upd_ne (tr q)]
    exact q
  · have q := I.base.frzs b o u e
    rw [upd_ne (tr q)]
    exact q
  · obtain ⟨m, q⟩ := I.base.tbls b ps e
    exact ⟨m, by rw [upd_ne (tr q)]; exact q⟩
  · rw [upd_ne nL.symm]
    exact I.free
  · have hne : c ≠ a := fun z => by
      obtain ⟨v, o, ho, hdc⟩ := I.cell y c e
      rw [z, ha] at ho
      cases ho
      rw [hd] at hdc
      cases hdc
    rw [upd_ne hne]
    exact I.freeC y c e
  · obtain ⟨e1, e2, e3, e4, e5⟩ := I.pin p hq
    exact ⟨e1, by rw [upd_ne (hp p hq)]; exact e2, e3, e4, e5⟩
  · by_cases hb : b = a
    · subst hb
      rw [upd_same] at e
      cases e
      exact exH_ok ha hz hd
    · rw [upd_ne hb] at e
      exact (I.hok b u e).stay (fun _ _ _ q => q) (fun c q => by rw [upd_ne (tr q)]; exact q) fun c xs q => by rw [upd_ne (tr q)]; exact q
end
/-- an exception that is made, as a value -/
@[irreducible] def tHold (t : L2.St → Hp → XK → Prop) : TE := fun σ H Q => t σ H fun cls d H1 => ∀ a, H1 a = none → Q (.ref a) (upd H1 a (exH cls d a))
theorem pe_mkv {X : Cx} {e : Expr} {t : L2.St → Hp → XK → Prop} (he : L2N.PMk X e t) : PE X e (tHold t) := by
  refine ⟨fun pins s σ H Q I h => ?_⟩
  unfold tHold at h
  refine wpAny_mono (he pins s σ H _ I h) (fun u s2 hu => ?_) fun _ _ z => z
  obtain ⟨a, oe, vs, sI, H1, cls, d, rfl, J, kp, na0, ha, hz, hd, _, na, os, ag, _, q⟩ := hu
  have nw : ∀ {b : Addr} {o : Obj}, sI.heap.get? b = some o → b ≠ a := fun {b o} e z => by
    rw [z, na0] at e
    cases e
  have tr : ∀ {b : Addr} {u : HO}, H1 b = some u → b ≠ a := fun {b u} e => ne_of_none e na
  refine ⟨.ref a, upd H1 a (exH cls d a), J.call' (s' := s2) (ch := []) os ⟨fun b o e n _ _ => kp b o e, fun b o e n _ _ => ⟨o.slots, kp b o e⟩, fun b o e n _ => ?_, fun b o e _ => ⟨o, kp b o e⟩, fun b xs e => ?_, fun b o u e => ?_, fun b ps e => ⟨#[], ?_⟩⟩ (fun b u e => ?_) ag (fun b z => nomatch z), rfl, q a na⟩
  · rw [upd_ne (nw e)]
    exact n
  · rw [upd_ne (tr e)]
    exact e
  · rw [upd_ne (tr e)]
    exact e
  · rw [upd_ne (tr e), e]
    simp
  · by_cases hb : b = a
    · subst hb
      rw [upd_same] at e
      cases e
      exact exH_ok ha hz.zc hd
    · rw [upd_ne hb] at e
      exact (J.hok b u e).stay (fun c o _ q => kp c o q) (fun c q => by rw [upd_ne (tr q)]; exact q) fun c xs q => by rw [upd_ne (tr q)]; exact q
/-! ### e.f -/
/-- what a class must say, so that its instances' fields are read and isinstance asks them rightly -/
structure ExR (K : Frag) (D : Addr) : Prop where
  ga : findIn K (.ref D) "__getattribute__" = some (some (.builtin "BaseException.__getattribute__"))
  gg : findIn K (.ref D) "__getattr__" = some none
  exC : subIn K (.ref D) (.type "BaseException") = some true
  hdC : hasDictIn K D = true
  cl : findIn K (.ref D) "__class__" = some (some (.builtin "object.__class__"))
  sp : specialIn K (.builtin "object.__class__") "__get__" = some (some (.builtin "getset_descriptor.__get__"))
  tk : takesIn K (.builtin "object.__class__") = some true
  mr : mroIn K D (.type "object") = some true
theorem inst_at {P : Program} {w : World} {H : Hp} {h : Heap} {a D dd : Addr} {fs : List (Str × V)} (ok : HOk P w H h) (e : H a = some (exH (.ref D) (some dd) a)) (ed : H dd = some (.xd fs)) :
    ∃ oe od, InstAt h a oe D (some od) ∧ ∀ f v, fs.lookup f = some v → ∃ u, RelV v u ∧ lookIn f od = some (some u) := by
  obtain ⟨oe, vs, ho, hz, hd⟩ := exH_at ok e
  obtain ⟨mA, hns, hr⟩ := (show ObjOk P w H h dd (.xd fs) from ok dd _ ed)
  obtain ⟨od, hod, hl⟩ := lookIn_ns hns
  refine ⟨oe, od, ⟨ho, hz.1, by unfold notCls; rw [hd] <;> rfl, by rw [hz.2]; exact hod⟩, fun f v l => ?_⟩
  obtain ⟨u, hu, ru⟩ := RelO.some_of (v := v) (o := mA f) (by rw [← l]; exact hr f)
  exact ⟨u, ru, by rw [hl, hu]⟩
def tXh (K : Frag) (f : Str) (te : TE) : TE := fun σ H Q => te σ H fun x H1 => ∃ (a D dd : Addr) (fs : List (Str × V)) (v : V), x = .ref a ∧ H1 a = some (exH (.ref D) (some dd) a) ∧ H1 dd = some (.xd fs) ∧ ExR K D ∧ findIn K (.ref D) f = some none ∧ fs.lookup f = some v ∧ Q v H1
theorem pe_xh {X : Cx} {e : Expr} {te : TE} {pos : Pos} {n : Str} (he : PE X e te) (hb : attributeBase e n X.env (eval e X.env) = eval e X.env := by rfl) : PE X (.Attribute e n pos) (tXh X.K n te) := by
  refine ⟨fun pins s σ H Q I h => attr_of hb (thn (he.run pins s σ H _ I h) fun u s1 hh => ?_)⟩
  obtain ⟨x, H1, I1, rx, a, D, dd, fs, v, ex, ea, ed, T, hno, l, q⟩ := hh
  subst ex
  obtain rfl : u = Value.ref a := rx
  obtain ⟨oe, od, J, hl⟩ := inst_at I1.hok ea ed
  obtain ⟨u, ru, hu⟩ := hl n v l
  exact HandSPX.exc_get I1.kIn J T.ga T.gg T.exC (findObj_own T.hdC hno rfl hu) (handed_of ru) ⟨v, H1, I1.tok _, ru, q⟩
end L2.Sl

/-! ### SlG -/
set_option Elab.async false
set_option linter.all false
set_option maxRecDepth 100000
set_option maxHeartbeats 4000000
namespace SlX
open PySem PySem.Spec PySem.Calls PyProof.Rows PySem.W
section
variable {prog : Program} {w : World} {A : Around} {E : Value → Shared → Prop} {s : Shared} {K : Frag} {x D : Addr} {ox : Obj} {od : Option Obj}
theorem found_data {C : Addr} {name : Str} {a g : Value} (hc : (clsIn K C).isSome = true) (ha : findIn K (.ref C) name = some (some a)) (hg : specialIn K a "__get__" = some (some g)) (ht : takesIn K a = some true) : findObj K C od name = some (.bind g a) := by
  obtain ⟨cd, hc'⟩ := Option.isSome_iff_exists.mp hc
  unfold findObj
  rw [hc', Option.bind_some, ha, Option.bind_some]
  simp [hg, ht]
/-- x.__class__ of an exception, with or without its dict -/
theorem classOf_exc {Q : Option Value → Shared → Prop} (T : L2.Sl.ExR K D) (KX : K.In s.heap) (I : InstAt s.heap x ox D od) (fin : Q (some (.ref D)) { s with toks := s.toks + 1 }) : wpAny (model prog w) A (getAttr? (.ref x) "__class__") Q E s := by
  have hf : findObj K D od "__class__" = some (.bind (.builtin "getset_descriptor.__get__") (.builtin "object.__class__")) := found_data (by obtain ⟨cd, hc, _⟩ := any_some T.hdC; rw [hc]; rfl) T.cl T.sp T.tk
  obtain ⟨hp, g, d, t, os⟩ := s
  have K0 := I.type (M := model prog w)
  have K1 := looks_findIn (M := model prog w) KX T.ga
  have K2 := looks_findIn (M := model prog w) KX T.gg
  have K3 := looks_find (M := model prog w) KX I hf
  have isB : Looks (model prog w) hp (isInstance (.ref x) (.type "BaseException")) true := K0.andThen (looks_subIn KX T.exC)
  have z0 : (false && onTheHeap (Value.builtin "BaseException.__getattribute__")) = false := rfl
  have z2 : (Value.builtin "BaseException.__getattribute__" == Value.builtin "object.__getattribute__") = false := by decide +kernel
  have z1 : (onTheHeap (Value.ref D) && Value.builtin "BaseException.__getattribute__" == Value.builtin "object.__getattribute__") = false := by
    rw [z2]
    rfl
  unfold getAttr? getAttrBy? getAttrBy
  refine wpAny_bind (wpAny_mkText (wpAny_bind (wpAny_attempt (wpAny_holding (wpAny_bind (K0.at (wpAny_bind (K1.at ?_))))))))
  show wpAny _ _ (if (onTheHeap (Value.ref D) && Value.builtin "BaseException.__getattribute__" == Value.builtin "object.__getattribute__") = true then _ else _) _ _ _
  rw [z1, if_neg Bool.false_ne_true]
  unfold getAttrByItsOwn hookBefore
  refine wpAny_bind ?_
  rw [if_pos (show onTheHeap (Value.ref D) = true from rfl)]
  refine K2.at (wpAny_bind (wpAny_attempt (wpAny_holding ?_)))
  unfold callGetattribute
  rw [z0, if_neg Bool.false_ne_true]
  unfold boundAndCalled
  rw [PySem.F.excAttr_ValueError.ga.bind (.ref x)]
  refine wpAny_bind (wpAny_pure ?_)
  show wpAny _ _ (call (.builtin "BaseException.__getattribute__") [.ref x, .str "__class__" t]) _ _ _
  refine wpAny_call (codeAny_call_builtin PySem.F.excAttr_ValueError.ga.plain PySem.F.entry_bexc_ga ?_)
  refine @check_slot (model prog w) _ _ ⟨hp, g, d, t + 1, os⟩ "BaseException.__getattribute__" "BaseException" "__getattribute__" (.ref x) [.str "__class__" t] [] _ (by decide +kernel)
    (by decide +kernel) isB (PySem.F.args_bexc_ga (.ref x) (.str "__class__" t)) ?_
  unfold Builtin.«object.__getattribute__»
  refine wpAny_bind (wpAny_of_eq (a := ((Value.ref x : Value), [Value.str "__class__" t])) (by first | rfl | (simp only [slotArgs]; rfl)) (wpAny_bind (wpAny_pure (wpAny_bind (K0.at (wpAny_bind (K3.at ?_)))))))
  show wpAny _ _ (holding [Value.builtin "object.__class__"] (call (.builtin "getset_descriptor.__get__") [.builtin "object.__class__", .ref x, .ref D]) >>= ret) _ _ _
  refine wpAny_bind (wpAny_holding (wpAny_call (class_get (s := ⟨hp, g, d, t + 1, os⟩) (ox := ox) (od := od) KX I T.mr (wpAny_pure ?_))))
  show wpAny _ _ (handedOut (.ref D)) _ _ _
  rw [handedOut_of (v := .ref D) rfl]
  first
    | exact wpAny_pure (wpAny_pure fin)
    | exact wpAny_pure fin
    | exact wpAny_pure (wpAny_bind (wpAny_pure (wpAny_pure fin)))
theorem kit_exc (T : L2.Sl.ExR K D) : KitX K (.ref x) (.ref D) (fun h => InstAt h x ox D od) where
  ty := fun _ _ _ I => I.type
  it := fun _ _ KX _ => by
    obtain ⟨cdD, hcD, _⟩ := any_some T.hdC
    unfold clsIn at hcD
    split at hcD
    · rename_i c' d' cd' sl' ho
      intro A' Q' E' s' k q
      unfold isType loadHead
      exact wpAny_bind (wpAny_loadPart (k _ _ (KX _ _ ho)) (wpAny_pure q))
    · cases hcD
  ne := fun h tp dd its n sl KX htp => by
    obtain ⟨cdD, hcD, _⟩ := any_some T.hdC
    refine Bool.eq_false_iff.mpr fun q => ?_
    have e : D = tp := Value.ref.inj (beq_iff_eq.mp q)
    subst e
    unfold clsIn at hcD
    split at hcD
    · rename_i c' d' cd' sl' ho
      cases (KX _ _ ho).symm.trans htp
    · cases hcD
  ca := fun KX I k => classOf_exc T KX I k
end
end SlX
namespace L2.Sl
open PySem PySem.W PySem.Calls PyProof.Rows PySem.Spec SlX
/-- isinstance(e, c), e a held exception -/
def rIsH (K : Frag) : List V → Hp → VK → Prop := fun xs H Q => ∃ (a D dd : Addr) (fs : List (Str × V)) (c : V) (cv : Value) (b : Bool), xs = [.ref a, c] ∧ H a = some (exH (.ref D) (some dd) a) ∧ H dd = some (.xd fs) ∧ ExR K D ∧ ClsV c cv ∧ kitOne K (.ref D) cv = some b ∧ Q (.bl b) H
theorem call_isH {X : Cx} : CallR X (.builtin "isinstance") (rIsH X.K) := by
  intro pins s σ H xs us Q I r h
  obtain ⟨a, D, dd, fs, c, cv, b, rfl, ea, ed, T, hc, e, q⟩ := h
  obtain ⟨u1, u2, rfl, r1, r2⟩ := vals2 r
  have e2 := hc.eq r2
  subst e2
  cases (show u1 = Value.ref a from r1)
  obtain ⟨oe, od, J, _⟩ := inst_at I.hok ea ed
  exact kia_one (kit_exc T) I.kIn J e (fun z => nomatch z) fun tk => ⟨.bl b, H, I.kept (t' := tk) fun _ _ z => z, rfl, q⟩
end L2.Sl

/-! ### SlH -/
set_option Elab.async false
set_option linter.all false
set_option maxRecDepth 100000
set_option maxHeartbeats 4000000
namespace L2.Sl
open PySem PySem.W PySem.Calls PyProof.Rows PySem.Spec SlX
/-- how a suite ends whose name i held the exception at a: from then on the exception is tracked -/
def kept (D : Ends) (a : Addr) (cls : Value) (d : Option Addr) (i : Nat) : Ends where
  nx := fun σ H => H a = none → D.nx (σ.set i none) (upd H a (exH cls d a))
  rt := fun v H => H a = none → D.rt v (upd H a (exH cls d a))
  bk := fun σ H => H a = none → D.bk (σ.set i none) (upd H a (exH cls d a))
  ct := fun σ H => H a = none → D.ct (σ.set i none) (upd H a (exH cls d a))
abbrev Cl := Value × Nat × (Addr → Value → Option Addr → TS)
/-- what the clauses wish, one after the other -/
def wKeep (K : Frag) (Wout : WX) (D : Ends) : List Cl → WX
  | [] => Wout
  | (c, i, ts) :: r => fun cls d σ H => ∃ b, exmOne K cls c = some b ∧ (b = true → ∀ a, H a = none → ts a cls d (kept D a cls d i) (σ.set i (some (.ref a))) H) ∧ (b = false → wKeep K Wout D r cls d σ H)
inductive ClsOk (X : Cx) : List ExceptHandler → List Cl → Prop
  | nil : ClsOk X [] []
  | cons {x n : Str} {i : Nat} {c : Value} {ts : Addr → Value → Option Addr → TS} {b₀ : Stmt} {suite : List Stmt} {np pos2 : Pos} {hds : List ExceptHandler} {l : List Cl} (hc : Names X x c) (hi : X.N[i]? = some n) (hln : X.env.kindOf n = some .local)
      (hsu : ∀ (a : Addr) (oe : Obj) (cls : Value) (d : Option Addr) (pn : List (Addr × Obj)), L2N.Zn cls d oe → (∃ vs, oe.data = .fields vs) → PSs (X.suite a ((a, oe) :: pn)) (b₀ :: suite) (ts a cls d)) (r : ClsOk X hds l) :
      ClsOk X (.ExceptHandler (some (.Name x np)) (some n) (b₀ :: suite) pos2 :: hds) ((c, i, ts) :: l)
section
variable {X : Cx} {body : List Stmt} {h₀ : ExceptHandler} {hds : List ExceptHandler} {l : List Cl} {pos : Pos} {tb : WX → TS} {Wout : WX}
theorem ps_try_keep (hs : X.stack = X.env :: X.outer) (hf : X.env.frame = some X.env.locals) (hN : X.N.Nodup) (hex : X.ex = []) (tk : L2N.Takes X Wout)
    (hb : ∀ (W : WX) (pn : List (Addr × Obj)) (xe : Value → Shared → Prop), L2N.Takes (X.tr pn xe) W → PassesOwn (model X.prog X.w) X.A X.env xe → PSs (X.tr pn xe) body (tb W))
    (hh : ClsOk X (h₀ :: hds) l) : PS X (.Try body (h₀ :: hds) [] [] pos) (fun D σ H => tb (wKeep X.K Wout D l) D σ H) := by
  refine ⟨fun pins s σ H D I h => ?_⟩
  have okX := I.ok
  have frm : X.A.frames = some (X.env :: X.outer) := by rw [okX.frames, hs]
  refine wpAny_Try_except (wpAny_mono ((hb (wKeep X.K Wout D l) (X.pn ++ pins) (fun e t1 => wpAny (model X.prog X.w) X.A (noteFrame e X.env) (fun _ t2 => wpAny (model X.prog X.w) X.A (setFlight e none) (fun _ t3 =>
    wpAny (model X.prog X.w) X.A (handleBy e X.env (h₀ :: hds)) (SP X pins D) X.xe t3) X.xe t2) X.xe t1) (fun u s2 xx => ?_) PassesOwn.looking).run [] s σ H D (I.toTry _) h) (fun f s1 hsp => ?_) (fun e s1 he => he))
  · obtain ⟨a, B, sI, pins2, σ2, H2, cls, d, rfl, J0, nb, up, sky, na, os, ag, wish⟩ := xx
    have J : Inv X pins σ2 H2 sI := J0.ofTry okX
    have sky2 : Sky B (X.env :: X.outer) a (L2N.Zn cls d) X.env.locals s2.heap := by rw [← hs]; exact sky
    show wpAny (model X.prog X.w) X.A (noteFrame (.ref a) X.env) _ _ _
    refine L2N.Sky.land L2N.Zn.steady frm hf sky2 fun h3 fl3 up3 => ?_
    have J3 : Inv X pins σ2 H2 { s2 with heap := h3 } := J.landed nb fl3.1 (up.trans up3) os ag
    obtain ⟨oe3, vs3, he3, hz3, hd3⟩ := fl3.there
    have offFr : a ∉ frs (X.env :: X.outer) := fun hm => by
      obtain ⟨_, o', e', hnf⟩ := fl3.2.2.1.mem hm
      rw [he3] at e'
      cases e'
      exact hnf _ hd3
    have nL : a ≠ X.env.locals := fun z => offFr (List.mem_filterMap.mpr ⟨X.env, List.mem_cons_self, by rw [hf, z]⟩)
    have nF : a ∉ X.fs := fun hm => by
      obtain ⟨e, he, q⟩ := List.mem_filterMap.mp hm
      exact offFr (List.mem_filterMap.mpr ⟨e, List.mem_cons_of_mem _ he, q⟩)
    -- the exception is none of the objects that were there
    have newI : sI.heap.get? a = none := by
      cases e : sI.heap.get? a with
      | none => rfl
      | some o =>
        have z := nb a o e (by rw [hs]; exact offFr)
        rw [fl3.2.1] at z
        cases z
    have new0 : X.s_0.heap.get? a = none := by
      cases e : X.s_0.heap.get? a with
      | none => rfl
      | some o =>
        obtain ⟨o', z⟩ := J.base.there a o e (by rw [hex]; exact fun z => nomatch z)
        rw [newI] at z
        cases z
    have offPins : ∀ p ∈ X.pn ++ pins, p.1 ≠ a := fun p hp z => by
      have q := (J.pin p hp).1
      rw [z, newI] at q
      cases q
    have S3 := J3.suite he3 hd3 na nL nF
    have go : ∀ {hds2 : List ExceptHandler} {l2 : List Cl}, ClsOk X hds2 l2 → wKeep X.K Wout D l2 cls d σ2 H2 →
        wpAny (model X.prog X.w) X.A (handleBy (.ref a) X.env hds2) (SP X pins D) X.xe { s2 with heap := h3 } := by
      intro hds2 l2 hk
      induction hk with
      | nil =>
        intro wish
        refine wpAny_handleBy_nil ?_
        obtain ⟨k1, k2, k3, oe, vs, T, oT, ts2, he, hz, hd, h1, hr⟩ := id fl3
        unfold PySem.passOn
        refine wpAny_bind (wpAny_field he hd h1 ?_)
        rw [if_neg (show ¬ ((Value.ref T == Value.none) = true) from by simp)]
        have out : wpAny (model X.prog X.w) X.A (setFlight (.ref a) X.env.frame) (fun _ t4 => wpAny (model X.prog X.w) X.A (throw (.ref a) : Sem Flow) (SP X pins D) X.xe t4) X.xe { s2 with heap := h3 } := by
          rw [hf]
          exact HandSPX.setFlight_upZ fl3 fun h4 hh4 up4 => wpAny_throw (tk _ _ ⟨a, B, sI, pins, σ2, H2, cls, d, rfl, J, nb, (up.trans up3).trans up4, .inr (.inr (by rw [hs]; exact hh4)), na, os, ag, wish⟩)
        first
          | exact wpAny_bind (wpAny_pure (wpAny_bind out))
          | exact wpAny_bind out
      | @cons x n i c ts b₀ suite np pos2 hds3 l3 hc hi hln hsu r ih =>
        intro wish
        obtain ⟨b, hb1, yes, no⟩ := wish
        have locn : Loc X.env.scope n := .inl hln
        refine wpAny_handleBy_cons (codeAny_handlers_test ?_) (by intro q; cases q)
        have ty : Looks (model X.prog X.w) h3 (typeOf (.ref a)) cls := fun A Q E s k q => wpAny_typeOf_ref (k _ _ he3) (by rw [hz3.1]; exact q)
        have mt := exm_one (M := model X.prog X.w) (J3.kIn) ty hb1
        have test : ∀ {Q : Value → Shared → Prop} {E : Value → Shared → Prop}, Q c { s2 with heap := h3 } → wpAny (model X.prog X.w) (X.A.mark (some (.ref a))) (eval (.Name x np) X.env) Q E { s2 with heap := h3 } := fun {Q E} q => by
          obtain ⟨hg, hdbg, hm | ⟨hm, hv, hnn⟩⟩ := hc
          · exact ld_glob (X := X.suite a ((a, oe3) :: (X.pn ++ pins))) S3 hg hm q hdbg
          · exact ld_blt (X := X.suite a ((a, oe3) :: (X.pn ++ pins))) S3 hg hm hv q hnn hdbg
        refine test (mt.here ?_)
        cases b with
        | false =>
          show wpAny _ X.A (handleBy (.ref a) X.env hds3) _ _ _
          exact ih (no rfl)
        | true =>
          refine codeAny_handlers_suite_as (HandSPX.lands_againZ fl3 fun h4 fl4 up4 => ?_)
          have J4 : Inv X pins σ2 H2 { s2 with heap := h4 } := J.landed nb fl4.1 ((up.trans up3).trans up4) os ag
          obtain ⟨oe4, vs4, he4, hz4, hd4⟩ := fl4.there
          have S4 := J4.suite he4 hd4 na nL nF
          refine store_ok (X := X.suite a ((a, oe4) :: (X.pn ++ pins))) (v := .ref a) S4 hN hi locn rfl (fun s5 S5 => ?_) (.inr hln)
          refine wpAny_mono ((hsu a oe4 cls d (X.pn ++ pins) hz4 ⟨_, hd4⟩).run [] s5 _ H2 _ S5 (yes rfl a na)) (fun f s6 hsp => ?_) (fun _ _ z => False.elim z)
          have fin : ∀ {σ6 : L2.St} {H6 : Hp} {Q : Shared → Prop}, Inv (X.suite a ((a, oe4) :: (X.pn ++ pins))) [] σ6 H6 s6 → (H6 a = none → ∀ s7, Inv X pins (σ6.set i none) (upd H6 a (exH cls d a)) s7 → Q s7) →
              wpAny (model X.prog X.w) X.A (do bindName X.env n .none; unbindBehindTheSuite X.env n pos2) (fun _ s7 => Q s7) X.xe s6 := fun {σ6 H6 Q} S6 hq => by
            obtain ⟨e1, e2, e3, e4, e5⟩ := S6.pin (a, oe4) (List.mem_append_left _ List.mem_cons_self)
            exact gone_ok (hold (S6.unsuite okX) new0 e2 e1 hz4.zc hd4 offPins nL) hN hi hln fun s7 J7 => hq e2 s7 J7
          cases f with
          | next =>
            obtain ⟨σ6, H6, S6, q6⟩ := hsp
            exact fin S6 fun n6 s7 J7 => ⟨_, _, J7, q6 n6⟩
          | brk =>
            obtain ⟨σ6, H6, S6, q6⟩ := hsp
            exact fin S6 fun n6 s7 J7 => ⟨_, _, J7, q6 n6⟩
          | cont =>
            obtain ⟨σ6, H6, S6, q6⟩ := hsp
            exact fin S6 fun n6 s7 J7 => ⟨_, _, J7, q6 n6⟩
          | ret u =>
            obtain ⟨v6, σ6, H6, S6, r6, q6⟩ := hsp
            exact fin S6 fun n6 s7 J7 => ⟨_, _, _, J7, r6, q6 n6⟩
    exact go hh wish
  · cases f with
    | next =>
      obtain ⟨σ2, H2, J2, q⟩ := hsp
      exact wpAny_execs_nil ⟨σ2, H2, J2.ofTry okX, q⟩
    | brk =>
      obtain ⟨σ2, H2, J2, q⟩ := hsp
      exact ⟨σ2, H2, J2.ofTry okX, q⟩
    | cont =>
      obtain ⟨σ2, H2, J2, q⟩ := hsp
      exact ⟨σ2, H2, J2.ofTry okX, q⟩
    | ret u =>
      obtain ⟨v, σ2, H2, J2, r, q⟩ := hsp
      exact ⟨v, σ2, H2, J2.ofTry okX, r, q⟩
end
end L2.Sl

/-! ### SlI -/
set_option Elab.async false
set_option linter.all false
set_option maxRecDepth 100000
set_option maxHeartbeats 4000000
namespace L2.Sl
open PySem PySem.Spec PyProof.Rows
/-- as FnOk, where nothing is being shown by repr around the call -/
structure FnG (P : Program) (w : World) (K : PySem.W.Frag) (mg : Str → Option Value) (base : Heap) (CX : CXT) (k : Nat) (f : Addr) (fd : FuncData) (ps : List Str) (sp : Sp) : Prop where
  len : ∀ vs H Q E, sp vs H Q E → vs.length = ps.length
  run : ∀ (A : Around) (outer : List Env) (s : Shared) (H : Hp) (args : Args) (us : List Value) (vs : List V) (Q : VK) (E : XK), A.guards = some [] → Room k A → Env0 P w K mg base A outer s H → BindsTo s fd args (ps.zip us) → Vals vs us →
    sp vs H Q E → codeAny (model P w) A (.call (.ref f) args) (CR CX outer P w H s Q E) s
section
variable {P : Program} {w : World} {K : PySem.W.Frag} {mg : Str → Option Value} {base : Heap} {CX : CXT}
theorem FnG.of {k : Nat} {f : Addr} {fd : FuncData} {ps : List Str} {sp : Sp} (F : FnOk P w K mg base CX k f fd ps sp) : FnG P w K mg base CX k f fd ps sp := ⟨F.len, fun A outer s H args us vs Q E _ => F.run A outer s H args us vs Q E⟩
theorem FnG.mono {j k : Nat} {f : Addr} {fd : FuncData} {ps : List Str} {sp : Sp} (F : FnG P w K mg base CX j f fd ps sp) (h : j ≤ k) : FnG P w K mg base CX k f fd ps sp :=
  ⟨F.len, fun A outer s H args us vs Q E hg hr => F.run A outer s H args us vs Q E hg (hr.mono h)⟩
theorem fnG_of {k : Nat} {f : Addr} {name qual : Str} {params : Arguments} {body : List Stmt} {scope : Scope} {dV kV doc pm cdv ct oc : Value} {an od : Option Addr} {osl : Array (Option Value)} {N ps : List Str} {sp : Sp}
    (lk : K.lookup f = some ⟨oc, od, .func (PySem.W.fnOf name qual params body scope dV kV doc pm an cdv ct), osl⟩) (hcd : PySem.W.codeIn K cdv qual = true) (S : FnScope N ps scope) (len : ∀ vs H Q E, sp vs H Q E → vs.length = ps.length)
    (bodyOk : ∀ (A : Around) (outer : List Env) (s : Shared) (H : Hp) (vs : List V) (Q : VK) (E : XK), A.guards = some [] → Room k (A.deeper (envOfC qual scope s.heap.objs.size f cdv)) → sp vs H Q E →
      ∃ t, PSs (cxOf CX P w K mg base N qual scope f cdv A outer s H E) body t ∧ t { nx := fun _ H2 => Q .non H2, rt := Q } (start N vs) H) :
    FnG P w K mg base CX (k + 1) f (PySem.W.fnOf name qual params body scope dV kV doc pm an cdv ct) ps sp := by
  refine ⟨len, fun A outer s H args us vs Q E hgu hro en bi rv hsp => ?_⟩
  have lvs := len _ _ _ _ hsp
  have KIn : K.In s.heap := en.mod.kin.keeps fun b o e => (en.bs b o e).1
  have noLim : s.heap.NoLimit := en.mod.nolimit.keeps fun b o e => (en.bs b o e).1
  have kinds : ∀ y ∈ ps.zip us, scope.names.lookup y.1 = some .local ∨ (scope.names.lookup y.1 = some .cell ∧ ((cellsFrom (s.heap.objs.size + 1) scope.names []).lookup y.1).isSome = true) := by
    rintro ⟨n, v⟩ hy
    rcases S.par n (List.of_mem_zip hy).1 with q | q
    · exact .inl q
    · exact .inr ⟨q, PySem.W.cellsFrom_some _ _ _ (.inl q)⟩
  refine codeAny_call_function hro.depth (KIn _ _ lk) rfl S.co S.gen rfl (PySem.W.codeRec_of KIn hcd) (bi _ _ _ _ (wpAny_newFunctionEnv_cells S.kind kinds fun env he s1 x => ?_))
  subst he
  refine ⟨noLim.keeps x.toInCall.keep, codeAny_func ?_⟩
  obtain ⟨t, ht, hq⟩ := bodyOk A outer s H vs Q E hgu (hro.deeper _) hsp
  have I := inv_start (CX := CX) (E := E) S hro.hd en lvs rv x
  refine wpAny_mono (ht.run [] s1 (start N vs) H _ I hq) (fun fl s2 hs => ?_) fun e s2 hs => hs
  have endd : ∀ {σ2 : L2.St} {H2 : Hp} {v : V} {u : Value}, Inv (cxOf CX P w K mg base N qual scope f cdv A outer s H E) [] σ2 H2 s2 → RelV v u → Q v H2 → CE outer P w H s Q u s2 := fun J r q => ⟨_, _, J.os, J.bare, J.base, J.hok, r, q⟩
  cases fl with
  | ret u =>
    obtain ⟨v, σ2, H2, J, r, q⟩ := hs
    exact endd J r q
  | next =>
    obtain ⟨σ2, H2, J, q⟩ := hs
    exact endd (v := V.non) (u := Value.none) J rfl q
  | brk =>
    obtain ⟨_, _, _, q⟩ := hs
    exact q.elim
  | cont =>
    obtain ⟨_, _, _, q⟩ := hs
    exact q.elim
/-- the body of a def, where nothing leaves it but by its return -/
theorem okG {x qual : Str} {st : Stmt} {f : Addr} {fd : FuncData} {N ps : List Str} {k : Nat} {sp : Sp} (F : Fun K x qual st f fd) (S : FnScope N ps (defScope st)) (len : ∀ vs H Q E, sp vs H Q E → vs.length = ps.length)
    (bodyOk : ∀ (cdv : Value) (A : Around) (outer : List Env) (s : Shared) (H : Hp) (vs : List V) (Q : VK) (E : XK), A.guards = some [] → Room k (A.deeper (envOfC qual (defScope st) s.heap.objs.size f cdv)) → sp vs H Q E →
      ∃ t, PSs (cxOf CX0 P w K mg base N qual (defScope st) f cdv A outer s H E).nox (defBody st) t ∧ t { nx := fun _ H2 => Q .non H2, rt := Q } (start N vs) H) : FnG P w K mg base CX0 (k + 1) f fd ps sp := by
  obtain ⟨oc, od, kV, doc, pm, an, cdv, ct, osl, rfl, lk, hcd⟩ := F.ex
  refine fnG_of lk hcd S len fun A outer s H vs Q E hg hr hsp => ?_
  obtain ⟨t, h, q⟩ := bodyOk cdv A outer s H vs Q E hg hr hsp
  exact ⟨t, h.nox, q⟩
end
section
variable {X : Cx} {CX : CXT} {k : Nat} {f : Addr} {fd : FuncData} {ps : List Str} {sp : Sp} {dvs : List V} {ds : List Value} {E : XK} {x : Str} {p pos : Pos} {e : Expr} {es : List Expr} {t : TA}
theorem run_fnG {pins : List (Addr × Obj)} {σ : L2.St} {H : Hp} {s : Shared} {Q : VK} {us : List Value} {vs : List V} (F : FnG X.prog X.w X.K X.mg X.base CX k f fd ps sp) (hgu : X.A.guards = some []) (hr : Room k X.A) (hb : Binds X.K fd ps ds) (hd : Vals dvs ds) (hx : Passes CX X E)
    (I : Inv X pins σ H s) (r : Vals vs us) (h : sp (vs ++ dvs) H Q E) : wpAny (model X.prog X.w) X.A (call (.ref f) us) (EP X pins σ Q) X.xe s := by
  have r2 := r.append hd
  have lus : (us ++ ds).length = ps.length := r2.length.symm.trans (F.len _ _ _ _ h)
  refine wpAny_call (codeAny_mono (F.run X.A X.stack s H ⟨us, []⟩ (us ++ ds) (vs ++ dvs) Q E hgu hr I.env0 (hb s us I.kIn lus) r2 h) fun r s2 hq => ?_)
  rcases r with er | fl
  · exact hx pins σ H s er s2 I hq
  · cases fl with
    | ret u => exact I.after hq
    | next => exact (hq : False).elim
    | brk => exact (hq : False).elim
    | cont => exact (hq : False).elim
theorem pe_callG (F : FnG X.prog X.w X.K X.mg X.base CX k f fd ps sp) (hgu : X.A.guards = some []) (hr : Room k X.A) (hg : Gl X x) (hm : X.mg x = some (.ref f)) (hk : PySem.W.keepIn X.K (.ref f) = true) (hb : Binds X.K fd ps ds) (hd : Vals dvs ds) (hx : Passes CX X E)
    (ha : PA X (e :: es) t) (hdb : (x == ("__debug__" : Str)) = false := by decide) (he : starEach (e :: es) X.env = (false, eval e X.env) :: starEach es X.env := by rfl) (hpl : (backTo pos (starEach es X.env)).any (·.1) = false := by rfl) :
    PE X (.Call (.Name x p) (e :: es) [] pos) (tCall sp dvs E t) :=
  ⟨fun pins s σ H Q I h => wpAny_Call_Name_kw (ld_glob I hg hm (PySem.W.callWith_K (h₀ := X.base) I.ok.mod.kin hk (thn (ha.run pos pins s σ H _ I h) fun us s1 ⟨vs, H1, I1, r, q⟩ => ⟨I1.kIn, run_fnG F hgu hr hb hd hx I1 r q⟩) he hpl) hdb)⟩
end
/-! ### repr of data -/
/-- repr(x): x data whose text fits -/
def rRepr (K : PySem.W.Frag) : List V → Hp → VK → Prop := fun xs H Q => ∃ (x : V) (d : PyData), xs = [x] ∧ Dp K H x d ∧ (∃ a, x = .ref a) ∧ d.showable = true ∧ d.hasDict = false ∧ d.depth ≤ 60 ∧ d.shown.length ≤ sizeLine ∧ Q (.str d.shown) H
theorem call_repr {X : Cx} (hgu : X.A.guards = some []) {k : Nat} (hr : Room k X.A) : CallR X (.builtin "repr") (rRepr X.K) := by
  intro pins s σ H xs us Q I r h
  obtain ⟨x, d, rfl, hd, ⟨a, rfl⟩, hs, hh, hdep, hz, q⟩ := h
  obtain ⟨u, rfl, ru⟩ : ∃ u, us = [u] ∧ RelV (.ref a) u := by
    cases r with
    | cons r1 r2 =>
      cases r2
      exact ⟨_, rfl, r1⟩
  cases (show u = Value.ref a from ru)
  obtain ⟨as, rd⟩ := Dp.reads I d (.ref a) (.ref a) hd rfl
  have hu := hr.units
  exact repr_of_reads' rd hs (fun e => by rw [hh] at e; cases e) hgu (by omega) (fun _ _ e => e) (fun h2 u tk kk => ⟨.str d.shown, H, I.kept (t' := tk) kk, ⟨u, rfl⟩, q⟩) hz
end L2.Sl

/-! ### SlJ -/
set_option Elab.async false
set_option linter.all false
set_option maxRecDepth 100000
set_option maxHeartbeats 4000000
namespace L2.Sl
open PySem PySem.Spec PyProof.Rows
/-- the law's call, its promise held where nothing is being shown -/
theorem top_call {P : Program} {w : World} {K : PySem.W.Frag} {mg mb : Str → Option Value} {CX : CXT} {k : Nat} {fa a : Addr} {fd : FuncData} {x : Str} {sp : Sp} {s₁ : Shared} {vs : List Value} {ns : List Int}
    (KIn : K.In s₁.heap) (nsM : s₁.heap.Ns mainGlobals mg) (nsB : s₁.heap.Ns builtinsNs mb) (bb : ∀ x : Str, x ≠ "__name__" → mb x = bootBuiltins x) (lim : s₁.heap.NoLimit) (gens0 : s₁.gens = #[])
    (atA : s₁.heap.get? a = some { cls := .type "list", data := .seq vs.toArray }) (hints : IntsAre vs ns) (sz : ns.length ≤ sizeLine) (room : Room k callerA)
    (F : ∀ base : Heap, K.In base → base.Ns mainGlobals mg → FnG P w K mg base CX k fa fd [x] sp) (bind : ∀ (s : Shared) (u : Value), BindsTo s fd ⟨[u], []⟩ [(x, u)])
    (hsp : ∀ H : Hp, Only H → SqL K H a (ns.map V.int) → sp [.ref a] H (fun v _ => v = .bl true) fun _ _ _ => False) (noX : ∀ H e s2, CX [] H s₁ (fun _ _ _ => False) e s2 → False) :
    codeAny (model P w) callerA (.call (.ref fa) ⟨[.ref a], []⟩) (fun r s2 => r = .ok (.ret (.bool true)) ∧ OldK s₁.heap s2.heap ∧ s2.os = s₁.os ∧ AllBare s2.gens) s₁ := by
  have rvs := vals_ints hints
  have lv := hints.length
  have main : ∀ H : Hp, Only H → SqL K H a (ns.map V.int) → HOk P w H s₁.heap → (∀ b, H b ≠ none → b = a) → (H a ≠ none → K.lookup a = none) →
      codeAny (model P w) callerA (.call (.ref fa) ⟨[.ref a], []⟩) (fun r s2 => r = .ok (.ret (.bool true)) ∧ OldK s₁.heap s2.heap ∧ s2.os = s₁.os ∧ AllBare s2.gens) s₁ := by
    intro H only hS ok onlyA notK
    have lay : ∀ {b : Addr} {o : Obj}, s₁.heap.get? b = some o → H b = none → (hidT s₁.heap H).get? b = some o := fun e n => hidT_get e n
    have dictFree : ∀ {b : Addr} {o : Obj} {es : Array DictEntry} {ep : Nat}, s₁.heap.get? b = some o → o.data = .dict es ep → H b = none := fun {b o es ep} e d => by
      cases q : H b with
      | none => rfl
      | some u =>
        have z : b = a := onlyA b (by rw [q]; simp)
        rw [z, atA] at e
        cases e
        have d2 : Data.seq vs.toArray _ = Data.dict es ep := d
        cases d2
    have nsOf : ∀ {b : Addr} {m : Str → Option Value}, s₁.heap.Ns b m → (hidT s₁.heap H).Ns b m := fun {b m} ⟨o, es, ep, e, d, r⟩ => ⟨o, es, ep, lay e (dictFree e d), d, r⟩
    have KB : K.In (hidT s₁.heap H) := fun b o e => lay (KIn b o e) (by
      cases q : H b with
      | none => rfl
      | some u =>
        have z : b = a := onlyA b (by rw [q]; simp)
        rw [z, notK (by rw [← z, q]; simp)] at e
        cases e)
    obtain ⟨mc, lim1, lim2⟩ := lim
    have MB : Mod K mg (hidT s₁.heap H) := ⟨KB, nsOf nsM, ⟨mb, nsOf nsB, bb⟩, ⟨mc, nsOf lim1, lim2⟩⟩
    have en : Env0 P w K mg (hidT s₁.heap H) callerA [] s₁ H := ⟨rfl, MB, fun b o e => of_hidT e, Nat.le_of_eq (hidT_size _ _), trivial, (fun b hb => absurd (show b ∈ ([] : List Addr) from hb) (by simp)), ok, .of_eq gens0⟩
    refine codeAny_mono ((F _ KB (nsOf nsM)).run callerA [] s₁ H ⟨[.ref a], []⟩ [.ref a] [.ref a] _ _ rfl room en (bind s₁ (.ref a)) (.cons rfl .nil) (hsp H only hS)) fun r s2 h => ?_
    rcases r with e | fl
    · exact (noX H e s2 h).elim
    · cases fl with
      | next => exact (h : False).elim
      | brk => exact (h : False).elim
      | cont => exact (h : False).elim
      | ret u =>
        obtain ⟨v, H2, os, bare, un, ok2, r, rfl⟩ := h
        obtain rfl : u = Value.bool true := r
        refine ⟨rfl, OldK.of_keep fun b o e => ?_, os, bare⟩
        cases q : H b with
        | none => exact un.keep b o e q (fun z => nomatch z) (by simp)
        | some u =>
          rcases only b with z | ⟨ob, xs, z⟩
          · rw [q] at z
            cases z
          · obtain ⟨e1, _⟩ := ok b _ z
            obtain ⟨e2, _⟩ := ok2 b _ (un.frzs b ob _ z)
            rw [e] at e1
            cases e1
            exact e2
  cases hk : K.lookup a with
  | some o =>
    have e := KIn a o hk
    rw [atA] at e
    cases e
    exact main (fun _ => none) (fun _ => .inl rfl) (.inr ⟨_, vs.toArray, _, hk, rfl, rfl, rfl, by rw [List.size_toArray, lv]; exact sz, by simpa using rvs⟩) (fun b u z => nomatch (show (none : Option HO) = some u from z)) (fun b z => absurd rfl z) fun z => absurd rfl z
  | none =>
    obtain ⟨H, hH⟩ : ∃ H : Hp, H = fun b => if b = a then some (.frz { cls := .type "list", data := .seq vs.toArray } (.lst (ns.map V.int))) else none := ⟨_, rfl⟩
    have h1 : H a = some (.frz { cls := .type "list", data := .seq vs.toArray } (.lst (ns.map V.int))) := by rw [hH]; exact if_pos rfl
    have h2 : ∀ {b}, b ≠ a → H b = none := fun {b} z => by rw [hH]; exact if_neg z
    refine main H (fun b => ?_) (.inl (.inr ⟨_, h1⟩)) (fun b u z => ?_) (fun b z => ?_) fun _ => hk
    · by_cases hb : b = a
      · exact .inr ⟨_, _, by rw [hb]; exact h1⟩
      · exact .inl (h2 hb)
    · by_cases hb : b = a
      · subst hb
        rw [h1] at z
        cases z
        exact ⟨atA, by rw [List.length_map]; exact sz, vs, _, rvs, atA⟩
      · rw [h2 hb] at z
        cases z
    · by_cases hb : b = a
      · exact hb
      · exact absurd (h2 hb) z
/-- as walk_of -/
theorem walk_G {l : PySem.W.OpenLaw} {n k : Nat} {q : Program} {loose : List Str} {XP : (Str → Option Value) → Heap → Prop} {YP : World → Heap → Prop} {d : DefRec} {K : Params → PySem.W.Frag} {CX : World → CXT} {sp : World → Sp} {x : Str}
    (hn : l.most = some n) (hn2 : n ≤ sizeLine) (hdf : d.params.defaults = []) (hr : Room k callerA) (hY : ∀ (w : World) (h : Heap), YP w h → (K w.params).In h)
    (F : ∀ (w : World) (mg : Str → Option Value) (fa : Addr) (h : Heap), (K w.params).In h → h.Ns mainGlobals mg → mg d.name = some (.ref fa) →
      ∃ fd : FuncData, (∀ (s : Shared) (u : Value), BindsTo s fd ⟨[u], []⟩ [(x, u)]) ∧ ∀ base : Heap, (K w.params).In base → base.Ns mainGlobals mg → FnG l.prog w (K w.params) mg base (CX w) k fa fd [x] (sp w))
    (hsp : ∀ (w : World) (H : Hp) (a : Addr) (ns : List Int), ns.length ≤ n → Only H → SqL (K w.params) H a (ns.map V.int) → sp w [.ref a] H (fun v _ => v = .bl true) fun _ _ _ => False)
    (noX : ∀ (w : World) (H : Hp) (s : Shared) (e : Value) (s2 : Shared), CX w [] H s (fun _ _ _ => False) e s2 → False) : PySem.W.WalkO q loose XP YP l.row.toRowW d [] (fun f vs => PySem.call f vs) :=
  Att.attach_call hn hdf fun w s₀ s₁ mg mb fa o pm cd doc a vs ns G Y ho hd hcd hmg hobj hints hlen hg => by
    have KIn := hY w _ Y
    obtain ⟨fd, hb, hF⟩ := F w mg fa _ KIn G.T.g hmg
    exact top_call KIn G.T.g G.T.b G.T.builtins G.T.nolimit hg hobj hints (Nat.le_trans hlen hn2) hr hF hb (fun H hO hS => hsp w H a ns hlen hO hS) fun H e s2 => noX w H s₁ e s2
end L2.Sl

/-! ### SlK -/
set_option Elab.async false
set_option linter.all false
set_option maxRecDepth 100000
set_option maxHeartbeats 4000000
namespace L2.Sl
open PySem PySem.Spec PyProof.Rows
/-! ### how long the text of data is, at the most -/
mutual
def psz : PyData → Nat
  | .none => 4
  | .bool _ => 5
  | .int _ => 1921
  | .str x => (reprText x).length
  | .list xs => pszAll xs + 2
  | .tuple xs => pszAll xs + 2
  | .dict _ => 0
def pszAll : List PyData → Nat
  | [] => 0
  | x :: xs => psz x + 2 + pszAll xs
end
theorem list_text (ts : List Str) : (listText ts).length ≤ piled ts + 2 := by
  have key : ∀ (ts : List Str) (n : Nat) (a : Str), (textFrom n a ts).length ≤ a.length + piled ts := by
    intro ts
    induction ts with
    | nil => intro n a; exact Nat.le_refl _
    | cons t r ih =>
      intro n a
      unfold textFrom
      refine Nat.le_trans (ih _ _) ?_
      rw [piled_cons]
      split <;> simp only [strLen_append] <;> (have e : ((", " : String) : Str).length = 2 := rfl) <;> (have e0 : (("" : String) : Str).length = 0 := rfl) <;> omega
  have h := key ts 0 "["
  have e1 : ((("[" : String) : Str)).length = 1 := rfl
  have e2 : ((("]" : String) : Str)).length = 1 := rfl
  unfold listText
  rw [strLen_append]
  omega
mutual
theorem psz_le : ∀ d : PyData, d.showable = true → d.hasDict = false → d.shown.length ≤ psz d
  | .none, _, _ => by decide +kernel
  | .bool b, _, _ => by cases b <;> decide +kernel
  | .int i, h, _ => by
    have h2 : i.natAbs.log2 < 1920 := by simpa [PyData.showable] using h
    exact int_text_len_1921 h2
  | .str x, _, _ => by simp only [PyData.shown, psz]; exact Nat.le_refl _
  | .list xs, h, g => by
    have z := psz_leAll xs (by simpa [PyData.showable] using h) (by simpa [PyData.hasDict] using g)
    have t := list_text (PyData.shownAll xs)
    simp only [PyData.shown, psz]
    omega
  | .tuple xs, h, g => by
    have z := psz_leAll xs (by simpa [PyData.showable] using h) (by simpa [PyData.hasDict] using g)
    have t := fmt_text (PyData.shownAll xs)
    simp only [PyData.shown, psz]
    omega
  | .dict _, _, g => by simp [PyData.hasDict] at g
theorem psz_leAll : ∀ ds : List PyData, PyData.showableAll ds = true → PyData.hasDictAll ds = false → piled (PyData.shownAll ds) ≤ pszAll ds
  | [], _, _ => Nat.le_refl _
  | d :: r, h, g => by
    have h2 : d.showable = true ∧ PyData.showableAll r = true := by simpa [PyData.showableAll] using h
    have g2 : d.hasDict = false ∧ PyData.hasDictAll r = false := by simpa [PyData.hasDictAll] using g
    have z1 := psz_le d h2.1 g2.1
    have z2 := psz_leAll r h2.2 g2.2
    simp only [PyData.shownAll, pszAll]
    rw [piled_cons]
    omega
end
/-! ### data of tuples alone: it stands as long as the tuples stand -/
mutual
inductive Th (H : Hp) : V → PyData → Prop
  | non : Th H .non .none
  | bl (b : Bool) : Th H (.bl b) (.bool b)
  | int (i : Int) : Th H (.int i) (.int i)
  | str (x : Str) : Th H (.str x) (.str x)
  | tup {a : Addr} {xs : List V} {ds : List PyData} : H a = some (.tup xs) → ThAll H xs ds → Th H (.ref a) (.tuple ds)
inductive ThAll (H : Hp) : List V → List PyData → Prop
  | nil : ThAll H [] []
  | cons {v : V} {vs : List V} {d : PyData} {ds : List PyData} : Th H v d → ThAll H vs ds → ThAll H (v :: vs) (d :: ds)
end
/-- the tuples stand -/
def Tups (H H2 : Hp) : Prop := ∀ a xs, H a = some (.tup xs) → H2 a = some (.tup xs)
theorem Tups.of {H H2 : Hp} (s : Same H H2) : Tups H H2 := fun a xs e => s a _ e
theorem Tups.trans {H H1 H2 : Hp} (a : Tups H H1) (b : Tups H1 H2) : Tups H H2 := fun c xs e => b c xs (a c xs e)
mutual
theorem Th.mono {H H2 : Hp} (t : Tups H H2) : ∀ {v : V} {d : PyData}, Th H v d → Th H2 v d
  | _, _, .non => .non
  | _, _, .bl b => .bl b
  | _, _, .int i => .int i
  | _, _, .str x => .str x
  | _, _, .tup e r => .tup (t _ _ e) (ThAll.mono t r)
theorem ThAll.mono {H H2 : Hp} (t : Tups H H2) : ∀ {vs : List V} {ds : List PyData}, ThAll H vs ds → ThAll H2 vs ds
  | _, _, .nil => .nil
  | _, _, .cons h r => .cons (Th.mono t h) (ThAll.mono t r)
end
mutual
theorem Th.dp {K : PySem.W.Frag} {H : Hp} : ∀ {v : V} {d : PyData}, Th H v d → Dp K H v d
  | _, _, .non => .non
  | _, _, .bl b => .bl b
  | _, _, .int i => .int i
  | _, _, .str x => .str x
  | _, _, .tup e r => .tup (SqT.of e) (ThAll.dp r)
theorem ThAll.dp {K : PySem.W.Frag} {H : Hp} : ∀ {vs : List V} {ds : List PyData}, ThAll H vs ds → DpAll K H vs ds
  | _, _, .nil => .nil
  | _, _, .cons h r => .cons (Th.dp h) (ThAll.dp r)
end
end L2.Sl

/-! ### SlL -/
set_option Elab.async false
set_option linter.all false
set_option maxRecDepth 100000
set_option maxHeartbeats 4000000
namespace SlX
open PySem PySem.Spec PyProof.Rows HotX
section
variable {prog : Program} {w : World} {A : Around} {E : Value → Shared → Prop} {s : Shared}
/-- a tuple's end, asked while an exception is handled -/
theorem tuple_end_hot {x1 it t : Addr} {i : Nat} {items : Array Value} {Q : Option Value → Shared → Prop} (hot : HotAt A x1 s.heap) (hx1 : x1 ≠ it) (hit : IsTupIter s.heap it t i) (ht : IsTup s.heap t items) (hx : items[i]? = none)
    (fin : ∀ h2, Heap.ExtBut it s.heap h2 → Q none { s with heap := h2 }) : wpAny (model prog w) A (pyNext (.ref it)) Q E s := by
  obtain ⟨o, ho, hc, hd⟩ := id hit
  obtain ⟨ol, hol, _, nl, hdl⟩ := ht
  obtain ⟨hh, o1, vs1, h1, d1, c1⟩ := hot
  unfold pyNext
  refine wpAny_bind (wpAny_attempt (wpAny_callSpecial?_slot (name := Str.ofString "__next__") hit.typeIs slot_tupleiter_next (wpAny_call_entry slot_tupleiter_next hit.typeIs entry_tupleiter_next ?_ (args_tupleiter_next _))))
  show wpAny _ _ (field (.ref it) 0 >>= _) _ _ s
  refine wpAny_bind (wpAny_field ho hd (x := .ref t) rfl ?_)
  show wpAny _ _ (if (Value.ref t == Value.none) = true then _ else _) _ _ s
  rw [if_neg (show ¬ ((Value.ref t == Value.none) = true) from Bool.false_ne_true)]
  show wpAny _ _ (field (.ref it) 1 >>= _) _ _ s
  refine wpAny_bind (wpAny_field ho hd (x := .int i 0) rfl ?_)
  show wpAny _ _ (seqItems? (.ref t) >>= _) _ _ s
  refine wpAny_bind (wpAny_seqItems hol hdl ?_)
  simp only [Int.toNat_natCast, hx]
  refine wpAny_bind (wpAny_rule (wpAny_bind (wpAny_setField ho hd (by simp) ?_)))
  show wpAny _ _ (newExc (.type "StopIteration") [] >>= _) _ _ _
  refine wpAny_bind ?_
  simp only [newExc, newTuple]
  refine wpAny_bind (wpAny_newObj_type ?_ (by size_fits))
  refine wpAny_bind (m := firstArgMember _ _) (wpAny_of_eq (a := Value.none) (by first | rfl | (simp only [firstArgMember]; rfl)) (wpAny_newObj_type ?_ (by size_fits)))
  have g1 : ∀ f o2 o3, (((s.heap.update it f).push o2).push o3).get? x1 = some o1 := fun f o2 o3 => by
    refine Heap.get?_push_of_some _ (Heap.get?_push_of_some _ ?_)
    rw [Heap.get?_update_ne _ _ _ _ hx1]
    exact h1
  refine raiseNew_hot ⟨hh, o1, vs1, g1 _ _ _, d1, c1⟩ ?_ (Heap.get?_push_size _ rfl) rfl (by first | (simp; done) | (simp; omega) | (simp only [Array.size_append]; simp; omega)) ?_
  · refine Nat.ne_of_lt (Nat.lt_of_lt_of_le (Heap.lt_size h1) ?_)
    simp only [Heap.size_push, Heap.size_update]
    omega
  · refine wpAny_bind (wpAny_isInstance (T := "StopIteration") (b := true) ⟨_, Heap.get?_update_self _ (Heap.get?_push_size _ rfl) rfl, rfl⟩ isSubtype_stop ?_)
    refine wpAny_pure (fin _ fun b ob hb e => ?_)
    have e2 := (Heap.get?_update_ne s.heap b it (Obj.mapFields (·.setIfInBounds 0 .none)) hb).trans e
    rw [Heap.get?_update_other _ _ (Nat.ne_of_gt (Heap.lt_size (Heap.get?_push_of_some _ e2)))]
    exact Heap.get?_push_of_some _ (Heap.get?_push_of_some _ e2)
theorem unpack_hot {x1 t : Addr} {items : Array Value} {Q : List Value → Shared → Prop} (hot : HotAt A x1 s.heap) (ht : IsTup s.heap t items) (fin : ∀ h2, Heap.ExtBut s.heap.objs.size s.heap h2 → Q items.toList { s with heap := h2 }) :
    wpAny (model prog w) A (unpackItems (.ref t) items.size none) Q E s := by
  have hlt : t ≠ s.heap.objs.size := by
    obtain ⟨o, ho, _⟩ := ht
    exact Nat.ne_of_lt (Heap.lt_size ho)
  obtain ⟨hh, o1, vs1, h1, d1, c1⟩ := hot
  have hx1 : x1 ≠ s.heap.objs.size := Nat.ne_of_lt (Heap.lt_size h1)
  unfold unpackItems notIterableAtAll
  refine wpAny_bind (wpAny_bind (wpAny_specialOf ht.typeIs slot_tuple_iter.lookup (wpAny_pure ?_)))
  simp only [Bool.false_eq_true, if_false]
  refine wpAny_bind (wpAny_holding (iter_tuple ht ?_))
  refine wpAny_bind (wpAny_holding (draw_tuple hlt items.size 0 _ _ ⟨_, Heap.get?_push_size _ rfl, rfl, rfl⟩ (ht.push _) (by omega) fun h2 hit2 sb2 => ?_))
  have all : List.take items.size (List.drop 0 items.toList) = items.toList := by
    rw [List.drop_zero]
    exact List.take_of_length_le (by simp)
  rw [all, if_neg (by simp)]
  have ht2 : IsTup h2 t items := (ht.push _).extBut sb2.extBut hlt
  have k2 : h2.get? x1 = some o1 := sb2.extBut _ _ hx1 (Heap.get?_push_of_some _ h1)
  refine wpAny_bind (wpAny_holding (tuple_end_hot ⟨hh, o1, vs1, k2, d1, c1⟩ hx1 hit2 ht2 (by simp) fun h3 e3 => ?_))
  simp only [Option.isSome_none, Bool.false_eq_true, if_false]
  exact wpAny_pure (fin h3 fun b o hb e => e3 b o hb (sb2.extBut b o hb (Heap.get?_push_of_some _ e)))
end
end SlX
namespace L2.Sl
open PySem PySem.W PySem.Calls PyProof.Rows PySem.Spec SlX
/-- a, b = x, y with plain local names, in a suite that holds an exception without context -/
theorem ps_parH {X : Cx} {i j : Nat} {x y : Str} {a b : Expr} {ta : TA} {px py pt pos : Pos} {kt k2 pt2} (hc : L2H.HotC X) (hN : X.N.Nodup) (hi : X.N[i]? = some x) (hj : X.N[j]? = some y) (hij : i ≠ j) (hx : X.env.scope.names.lookup x = some .local) (hy : X.env.scope.names.lookup y = some .local)
    (ha : PA X [a, b] ta) (hw : swappedStores [.Tuple [.Name x px, .Name y py] kt pt] (.Tuple [a, b] k2 pt2) X.env = pure (some [x, y])) (hs : swapsWithSole [.Tuple [.Name x px, .Name y py] kt pt] (.Tuple [a, b] k2 pt2) pos.line X.env = pure false := by rfl) :
    PS X (.Assign [.Tuple [.Name x px, .Name y py] kt pt] (.Tuple [a, b] k2 pt2) pos) (tPar i j ta) := by
  refine ⟨fun pins s σ H D I h => ?_⟩
  rw [exec_Assign_arm]
  refine wpAny_bind (wpAny_standAt ?_)
  rw [hs]
  refine wpAny_bind (wpAny_pure ?_)
  rw [if_neg (by decide)]
  refine wpAny_bind (Tuple_ (thn (ha.run _ pins s σ H _ I h) fun us t1 ⟨vs, H1, I1, r1, hq⟩ => ?_))
  obtain ⟨v1, v2, rfl, q1⟩ := hq
  obtain ⟨u1, u2, rfl, rv, rz⟩ := vals2 r1
  refine wpAny_newObj_type ?_ (by show 2 ≤ sizeLine; decide)
  have J2 : Inv X pins σ H1 { t1 with heap := t1.heap.push { cls := .type "tuple", data := .seq [u1, u2].toArray } } := I1.kept (t' := t1.toks) fun b o e => Heap.get?_push_of_some _ e
  rw [hw]
  refine wpAny_bind (wpAny_pure ?_)
  show wpAny (model X.prog X.w) X.A (do rule "assign.swapped-stores"; let items ← unpackItems (.ref t1.heap.objs.size) 2 none; assignInOrder [fun v => bindName X.env y v, fun v => bindName X.env x v] items.reverse; pure Flow.next) _ _ _
  obtain ⟨x1, hot⟩ := hc.at J2
  refine wpAny_bind (wpAny_rule (wpAny_bind (unpack_hot (items := #[u1, u2]) hot (IsTup.new t1.heap _) fun h2 ex2 => ?_)))
  have J3 := J2.kept (h' := h2) (t' := t1.toks) fun b o e => ex2 b o (Nat.ne_of_lt (Heap.lt_size e)) e
  show wpAny _ _ (assignInOrder [fun v => bindName X.env y v, fun v => bindName X.env x v] [u2, u1] >>= fun _ => pure Flow.next) _ _ _
  refine wpAny_bind (assignInOrder_cons (wpAny_bindName (store_ok J3 hN hj (.inl hy) rz (fun s2 J4 => ?_) (.inr hy))))
  refine assignInOrder_cons (wpAny_bindName (store_ok J4 hN hi (.inl hx) rv (fun s3 J5 => assignInOrder_nil (wpAny_pure ?_)) (.inr hx)))
  rw [List.set_comm _ _ (Ne.symm hij)] at J5
  exact ⟨_, H1, J5, q1⟩
/-- the suite's exception is held without context -/
theorem hot_suite {X : Cx} {a : Addr} {oe : Obj} {cls : Value} {d : Option Addr} {pn : List (Addr × Obj)} (hz : L2N.Zn cls d oe) (hf : ∃ vs, oe.data = .fields vs) : L2H.HotC (X.suite a ((a, oe) :: pn)) := by
  obtain ⟨vs, hd⟩ := hf
  exact ⟨(a, oe), ⟨rfl, vs, hd, hz.2.2 vs hd⟩, List.mem_cons_self⟩
section
variable {P : Program} {w : World} {K : PySem.W.Frag} {mg : Str → Option Value} {base : Heap}
/-- a def that may raise where nothing is handled -/
theorem okN {x qual : Str} {st : Stmt} {f : Addr} {fd : FuncData} {N ps : List Str} {k : Nat} {sp : Sp} (F : Fun K x qual st f fd) (S : FnScope N ps (defScope st)) (len : ∀ vs H Q E, sp vs H Q E → vs.length = ps.length)
    (bodyOk : ∀ (cdv : Value) (A : Around) (outer : List Env) (s : Shared) (H : Hp) (vs : List V) (Q : VK) (E : XK), Room k (A.deeper (envOfC qual (defScope st) s.heap.objs.size f cdv)) → sp vs H Q E →
      ∃ t, PSs (cxOf (L2N.CX P w) P w K mg base N qual (defScope st) f cdv A outer s H E) (defBody st) t ∧ t { nx := fun _ H2 => Q .non H2, rt := Q } (start N vs) H) : FnOk P w K mg base (L2N.CX P w) (k + 1) f fd ps sp := by
  obtain ⟨oc, od, kV, doc, pm, an, cdv, ct, osl, rfl, lk, hcd⟩ := F.ex
  exact fn_of lk hcd S len fun A outer s H vs Q E hr hsp => bodyOk cdv A outer s H vs Q E hr hsp
theorem takesN0 {X : Cx} : L2N.Takes X (fun _ _ _ _ => False) := fun _ _ x => by
  obtain ⟨_, _, _, _, _, _, _, _, _, _, _, _, _, _, _, _, z⟩ := x
  exact z.elim
end
end L2.Sl

/-! ### K1a -/
set_option Elab.async false
set_option linter.all false
set_option maxRecDepth 100000
set_option maxHeartbeats 4000000
namespace L2.K1
open PySem PySem.Spec PyProof.Rows L2.Sl
def topS (i : Nat) : Stmt := PySem.Challenge.pw_slotsure_k01_three_families.main.body.getD i (.Pass ⟨0, 0, 0, 0⟩)
/-! ### what all is drawn by -/
/-- the dict of a draw: its great cells' list at gl, the mixed number, how many were drawn -/
def dr (gl : Addr) (z k : Int) : List (Key × V) := [(Sum.inr "great", .ref gl), (Sum.inr "small", .int z), (Sum.inr "at", .int k)]
structure Drw (H : Hp) (m gl : Addr) : Prop where
  d : ∃ z k, H m = some (.dK (dr gl z k))
  l : ∃ ns : List Int, H gl = some (.lst (ns.map V.int)) ∧ ns.length ≤ 63
  ne : m ≠ gl
/-- all but the draw's two objects is as it was -/
def But (m gl : Addr) (H H2 : Hp) : Prop := ∀ b o, b ≠ m → b ≠ gl → H b = some o → H2 b = some o
theorem But.refl {m gl : Addr} {H : Hp} : But m gl H H := fun _ _ _ _ e => e
theorem But.trans {m gl : Addr} {H H1 H2 : Hp} (a : But m gl H H1) (b : But m gl H1 H2) : But m gl H H2 := fun c o h1 h2 e => b c o h1 h2 (a c o h1 h2 e)
theorem But.same {m gl : Addr} {H H2 : Hp} (s : Same H H2) : But m gl H H2 := fun b o _ _ e => s b o e
def spBegun (K : PySem.W.Frag) : Sp := fun vs H Q _ => ∃ (a : Addr) (ns : List Int), vs = [.ref a] ∧ SqL K H a (ns.map V.int) ∧ ns.length ≤ 63 ∧ ∀ H2 m gl, Same H H2 → H m = none → H gl = none → Drw H2 m gl → Q (.ref m) H2
def spDraw : Sp := fun vs H Q _ => ∃ (m gl : Addr) (many : Int), vs = [.ref m, .int many] ∧ Drw H m gl ∧ 0 < many ∧ many < 1073741824 ∧ ∀ H2 (r : Int), 0 ≤ r → r < many → Drw H2 m gl → But m gl H H2 → Q (.int r) H2
abbrev s_law_begun : Stmt := topS 32
abbrev N_law_begun : List Str := ["script", "m", "cell"]
theorem sc_law_begun : FnScope N_law_begun ["script"] (defScope s_law_begun) := ⟨rfl, rfl, rfl, by decide +kernel, rfl, by decide +kernel, by decide +kernel⟩
section
variable {P : Program} {w : World} {K : PySem.W.Frag} {mg : Str → Option Value} {base : Heap}
theorem same_new {H : Hp} {p : Addr} {o : HO} (h : H p = none) : Same H (upd H p o) := fun b x e => by
  rw [upd_ne (ne_of_none e h)]
  exact e
theorem same_in {H H2 : Hp} {p : Addr} {o : HO} (s : Same H H2) (h : H2 p = none) : Same H (upd H2 p o) := fun b x e => by
  have q := s b x e
  rw [upd_ne (ne_of_none q h)]
  exact q
theorem same_put {H H2 : Hp} {p : Addr} {o : HO} (s : Same H H2) (h : H p = none) : Same H (upd H2 p o) := fun b x e => by
  rw [upd_ne (ne_of_none e h)]
  exact s b x e
theorem ints_at {ns : List Int} {i : Nat} {x : V} (h : (ns.map V.int)[i]? = some x) : ∃ n, ns[i]? = some n ∧ x = V.int n := by
  rw [List.getElem?_map] at h
  cases e : ns[i]? with
  | none =>
    rw [e] at h
    cases h
  | some n =>
    rw [e] at h
    exact ⟨n, rfl, (Option.some.inj h).symm⟩
theorem get_small {H : Hp} {m gl : Addr} {z k : Int} (e : H m = some (.dK (dr gl z k))) : DGet H m (.str "small") (some (.int z)) := DGet.k (k := Sum.inr "small") e
theorem get_great {H : Hp} {m gl : Addr} {z k : Int} (e : H m = some (.dK (dr gl z k))) : DGet H m (.str "great") (some (.ref gl)) := DGet.k (k := Sum.inr "great") e
theorem get_at {H : Hp} {m gl : Addr} {z k : Int} (e : H m = some (.dK (dr gl z k))) : DGet H m (.str "at") (some (.int k)) := DGet.k (k := Sum.inr "at") e
theorem put_small {H : Hp} {m gl : Addr} {z k y : Int} (e : H m = some (.dK (dr gl z k))) : DPut H m (.str "small") (.int y) (upd H m (.dK (dr gl y k))) := DPut.k (k := Sum.inr "small") e (show 3 < sizeLine by decide)
theorem put_at {H : Hp} {m gl : Addr} {z k y : Int} (e : H m = some (.dK (dr gl z k))) : DPut H m (.str "at") (.int y) (upd H m (.dK (dr gl z y))) := DPut.k (k := Sum.inr "at") e (show 3 < sizeLine by decide)
theorem shaped_ints (ns : List Int) : SeqAt.shaped (.list (ns.map PyData.int)) = true := by
  have h1 : ∀ ns : List Int, PyData.canLayAll0 (ns.map PyData.int) = true := fun ns => by
    induction ns with
    | nil => rfl
    | cons n r ih => simp only [List.map_cons, PyData.canLayAll0, PyData.canLay0, ih, Bool.and_self]
  have h2 : ∀ ns : List Int, PyData.depthAll (ns.map PyData.int) = 0 := fun ns => by
    induction ns with
    | nil => rfl
    | cons n r ih => simp only [List.map_cons, PyData.depthAll, PyData.depth, ih, Nat.max_self]
  unfold SeqAt.shaped
  simp only [PyData.canLay0, PyData.depth, h1, h2]
  decide
abbrev primes : List V := [V.int 2147483647, V.int 2147483629, V.int 2147483587, V.int 2147483579, V.int 2147483563, V.int 2147483549, V.int 2147483543, V.int 2147483497]
theorem prime_at (k : Int) : ∃ p : Int, atI primes (k % 8) = some (.int p) ∧ 0 < p ∧ p ≤ 2147483647 := by
  have h0 := Int.emod_nonneg k (show (8 : Int) ≠ 0 by decide)
  have h1 := Int.emod_lt_of_pos k (show (0 : Int) < 8 by decide)
  obtain ⟨j, hj⟩ : ∃ j : Nat, k % 8 = (j : Int) := ⟨(k % 8).toNat, by omega⟩
  have hj8 : j < 8 := by omega
  match j, hj8, hj with
  | 0, _, e => exact ⟨_, at_of e rfl, by decide, by decide⟩
  | 1, _, e => exact ⟨_, at_of e rfl, by decide, by decide⟩
  | 2, _, e => exact ⟨_, at_of e rfl, by decide, by decide⟩
  | 3, _, e => exact ⟨_, at_of e rfl, by decide, by decide⟩
  | 4, _, e => exact ⟨_, at_of e rfl, by decide, by decide⟩
  | 5, _, e => exact ⟨_, at_of e rfl, by decide, by decide⟩
  | 6, _, e => exact ⟨_, at_of e rfl, by decide, by decide⟩
  | 7, _, e => exact ⟨_, at_of e rfl, by decide, by decide⟩
theorem ixN_nat {n j : Nat} (h : j < n) : ixN n (j : Int) = some j := by
  unfold ixN
  rw [if_pos (by omega), if_pos (by omega)]
  simp
theorem great_at (ns : List Int) (k : Int) (h : (0 : Int) < ((ns.map V.int).length : Int)) : ∃ (j : Nat) (c : Int), k % ((ns.map V.int).length : Int) = (j : Int) ∧ j < (ns.map V.int).length ∧ (ns.map V.int)[j]? = some (.int c) := by
  have h0 := Int.emod_nonneg k (show ((ns.map V.int).length : Int) ≠ 0 by omega)
  have h1 := Int.emod_lt_of_pos k h
  obtain ⟨j, hj⟩ : ∃ j : Nat, k % ((ns.map V.int).length : Int) = (j : Int) := ⟨(k % ((ns.map V.int).length : Int)).toNat, by omega⟩
  have hlt : j < (ns.map V.int).length := by omega
  have hl : j < ns.length := by rw [List.length_map] at hlt; exact hlt
  exact ⟨j, ns[j], hj, hlt, by rw [List.getElem?_map, List.getElem?_eq_getElem hl]; rfl⟩
theorem ok_begun {f : Addr} {fd : FuncData} {k : Nat} (F : Fun K "_law_begun" "_law_begun" s_law_begun f fd) : FnOk P w K mg base CX0 (k + 1) f fd ["script"] (spBegun K) := by
  refine F.ok sc_law_begun (fun vs H Q E h => ?_) (fun cdv A outer s H vs Q E hr h => ?_)
  · obtain ⟨a, ns, rfl, _⟩ := h
    rfl
  · obtain ⟨a, ns, rfl, hS, hlen, q⟩ := h
    have hu := hu_of hr
    refine ⟨_, (pss_cons (ps_set (i := 1) sc_law_begun.nd rfl (.inl rfl) (pe_disp (pps_cons pe_str (pe_lc (own := [("cell", 2)]) (by rfl) sc_law_begun.nd (pi_list (pv 0)) (blkOk_by (own := [("cell", 2)]) (N := N_law_begun) (sc := defScope s_law_begun) (by decide +kernel)) (fun _ _ _ _ _ => (pg_name (i := 2) sc_law_begun.nd rfl (.inl rfl))) (fun _ _ _ _ _ => (pts_one (pt_cmpR op_ge (pv 2) (pe_op op_pow pe_int pe_int) (nomark _)))) (fun _ _ _ _ _ => (pv 2))) (pps_cons pe_str pe_int (pps_cons pe_str pe_int pps_nil))) (by rfl) (by rfl) (fun z => by cases z) (by decide)))
      (pss_cons (ps_for PassesOwn.never rfl (pi_list (pv 0)) (pg_name (i := 2) sc_law_begun.nd rfl (.inl rfl))
        (pss_one (ps_if (pt_cmpR op_lt (pv 2) (pe_op op_pow pe_int pe_int) (nomark _))
          (pss_cons (ps_dput hu (pv 1) pe_str (pe_op op_add (pe_op op_add (pe_op op_mul (pe_dget hu (pv 1) pe_str (fun _ _ => rfl)) (pe_op op_pow pe_int pe_int)) (pe_op op_mod (pv 2) (pe_op op_pow pe_int pe_int))) pe_int) rfl)
          (pss_one (ps_dput hu (pv 1) pe_str (pe_op op_mod (pe_dget hu (pv 1) pe_str (fun _ _ => rfl)) (pe_op op_mul (pe_op op_sub (pe_op op_pow pe_int pe_int) pe_int) (pe_op op_sub (pe_op op_pow pe_int pe_int) pe_int))) rfl)))
          pss_nil)))
      (pss_one (ps_ret (pv 1))))), ?_⟩
    -- the dict
    intro m hm
    have s1 : Same H (upd H m (.dK [])) := same_new hm
    refine ⟨.ref a, rfl, a, rfl, ⟨_, s1.seq hS⟩, fun gl hgl => ?_⟩
    have nG : H gl = none := s1.free hgl
    have nmg : m ≠ gl := ne_of_none upd_same hgl
    refine lc_list (K := K) (a := a) (xs := ns.map V.int) (fun i H2 => Same H H2 ∧ H2 m = some (.dK []) ∧ ∃ ys : List Int, H2 gl = some (.lst (ys.map V.int)) ∧ ys.length ≤ i) ?_ (fun i H2 _ hp => hp.1.seq hS) ?_ ?_
    · exact ⟨same_in s1 hgl, by rw [upd_ne nmg, upd_same], [], upd_same, Nat.le_refl _⟩
    · rintro i x H2 hx ⟨s2, e2, ys, eg, ly⟩
      obtain ⟨n, hn, rfl⟩ : ∃ n, ns[i]? = some n ∧ x = V.int n := ints_at hx
      have li : i < 63 := Nat.lt_of_lt_of_le (List.getElem?_eq_some_iff.mp hn).1 hlen
      refine ⟨rfl, _, rfl, _, _, rfl, rfl, ⟨by decide, by decide, by decide⟩, _, _, rfl, rfl, _, rfl, ?_⟩
      refine ite2 (fun c => ⟨_, rfl, _, eg, ?_, same_put s2 nG, by rw [upd_ne nmg]; exact e2, ys ++ [n], ?_, ?_⟩) (fun c => ⟨s2, e2, ys, eg, Nat.le_succ_of_le ly⟩)
      · rw [List.length_map]
        exact Nat.lt_of_le_of_lt ly (Nat.lt_trans li (by decide))
      · rw [upd_same, List.map_append]
        rfl
      · rw [List.length_append]
        exact Nat.succ_le_succ ly
    · rintro H2 ⟨s2, e2, ys, eg, ly⟩
      rw [List.length_map] at ly
      refine ⟨e2, dr gl 0 0, rfl, (show 3 ≤ 15 by decide), ?_⟩
      rw [show mergeK [] (dr gl 0 0) = dr gl 0 0 from rfl]
      have s3 : Same H (upd H2 m (.dK (dr gl 0 0))) := same_put s2 hm
      refine ⟨.ref a, rfl, a, rfl, ⟨_, s3.seq hS⟩, for_list (K := K) (a := a) (xs := ns.map V.int) (fun i σ H3 => ∃ (c : Option V) (z : Int), σ = [some (.ref a), some (.ref m), c] ∧ Same H H3 ∧ H3 m = some (.dK (dr gl z 0)) ∧ H3 gl = some (.lst (ys.map V.int)))
        ⟨_, _, rfl, s3, upd_same, by rw [upd_ne nmg.symm]; exact eg⟩ (fun i σ H3 _ hp => by obtain ⟨_, _, _, s, _⟩ := hp; exact s.seq hS) ?_ ?_⟩
      · rintro i x σ H3 hx ⟨c, z, rfl, s4, em, el⟩
        obtain ⟨n, hn, rfl⟩ : ∃ n, ns[i]? = some n ∧ x = V.int n := ints_at hx
        refine ⟨_, rfl, _, _, rfl, rfl, ⟨by decide, by decide, by decide⟩, _, _, rfl, rfl, _, rfl, ?_⟩
        refine ite2 (fun c => ?_) (fun c => ⟨_, _, rfl, s4, em, el⟩)
        refine ⟨_, rfl, m, _, rfl, get_small em, _, _, rfl, rfl, ⟨by decide, by decide, by decide⟩, _, _, rfl, rfl, .inr ⟨by decide, by decide⟩, _, rfl, _, _, rfl, rfl, ⟨by decide, by decide, by decide⟩, _, _, rfl, rfl, ?p1, _, _, rfl, rfl, _, _, rfl, rfl, _, rfl, m, _, rfl, put_small em, ?_⟩
        case p1 => show (0 : Int) < 10 ^ 18; decide
        refine ⟨_, rfl, m, _, rfl, get_small upd_same, _, _, rfl, rfl, ⟨by decide, by decide, by decide⟩, _, _, rfl, rfl, _, _, rfl, rfl, ⟨by decide, by decide, by decide⟩, _, _, rfl, rfl, _, _, rfl, rfl, .inl ⟨by decide, by decide⟩, _, _, rfl, rfl, ?p2, _, rfl, m, _, rfl, put_small upd_same, ?_⟩
        case p2 => show (0 : Int) < (2 ^ 61 - 1) * (2 ^ 31 - 1); decide
        refine ⟨_, _, rfl, same_put (same_put s4 hm) hm, upd_same, ?_⟩
        rw [upd_ne nmg.symm, upd_ne nmg.symm]
        exact el
      · rintro σ H3 ⟨c, z, rfl, s4, em, el⟩
        refine ⟨_, rfl, ?_⟩
        exact q _ m gl s4 hm nG ⟨⟨z, 0, em⟩, ⟨ys, el, Nat.le_trans ly hlen⟩, nmg⟩
theorem hu64 {A : Around} {k : Nat} (hr : Room k A) : A.units + 64 < cLine := hr.units
/-- a list of ints as data -/
theorem dp_ints {H : Hp} : ∀ {ns : List Int}, DpAll K H (ns.map V.int) (ns.map PyData.int)
  | [] => .nil
  | n :: r => .cons (.int n) dp_ints
abbrev s_law_draw : Stmt := topS 33
abbrev N_law_draw : List Str := ["m", "many", "k", "at", "cell", "primes", "mixed"]
theorem sc_law_draw : FnScope N_law_draw ["m", "many"] (defScope s_law_draw) := ⟨rfl, rfl, rfl, by decide +kernel, rfl, by decide +kernel, by decide +kernel⟩
theorem ok_draw {f : Addr} {fd : FuncData} {k : Nat} (F : Fun K "_law_draw" "_law_draw" s_law_draw f fd) (n_len : mg "len" = none) : FnOk P w K mg base CX0 (k + 1) f fd ["m", "many"] spDraw := by
  refine F.ok sc_law_draw (fun vs H Q E h => ?_) (fun cdv A outer s H vs Q E hr h => ?_)
  · obtain ⟨m, gl, many, rfl, _⟩ := h
    rfl
  · obtain ⟨m, gl, many, rfl, ⟨⟨z, k, em⟩, ⟨ns, el, ln⟩, ne⟩, h0, h1, q⟩ := h
    have hu := hu_of hr
    refine ⟨_, (pss_cons (ps_set (i := 2) sc_law_draw.nd rfl (.inl rfl) (pe_dget hu (pv 0) pe_str (fun _ _ => rfl)))
      (pss_cons (ps_dput hu (pv 0) pe_str (pe_op op_add (pv 2) pe_int) rfl)
      (pss_cons (ps_if (pt_cmpR (op_neD (hu64 hr)) (pe_dget hu (pv 0) pe_str (fun _ _ => rfl)) (pe_lst pa_nil) (nomark _))
        (pss_cons (ps_set (i := 3) sc_law_draw.nd rfl (.inl rfl) (pe_op op_mod (pv 2) (pe_callB call_len_seq (by rfl) n_len (by decide +kernel) (pa_cons (pe_dget hu (pv 0) pe_str (fun _ _ => rfl)) pa_nil))))
        (pss_cons (ps_set (i := 4) sc_law_draw.nd rfl (.inl rfl) (pe_ix ix_list (pe_dget hu (pv 0) pe_str (fun _ _ => rfl)) (pv 3) (fun _ _ => rfl)))
        (pss_one (ps_if (pt_cmpR op_gt (pv 4) pe_int (nomark _))
          (pss_cons (ps_asg (pe_op op_fdiv (pv 4) (pv 1)) (pg_sub (pe_dget hu (pv 0) pe_str (fun _ _ => rfl)) (pv 3) set_list))
          (pss_one (ps_ret (pe_op op_mod (pv 4) (pv 1)))))
          pss_nil))))
        pss_nil)
      (pss_cons (ps_set (i := 5) sc_law_draw.nd rfl (.inl rfl) (pe_lst (pa_cons pe_int (pa_cons pe_int (pa_cons pe_int (pa_cons pe_int (pa_cons pe_int (pa_cons pe_int (pa_cons pe_int (pa_cons pe_int pa_nil))))))))))
      (pss_cons (ps_set (i := 6) sc_law_draw.nd rfl (.inl rfl) (pe_op op_mod (pe_op op_add (pe_op op_add (pe_dget hu (pv 0) pe_str (fun _ _ => rfl)) (pe_op op_mul pe_int (pv 2))) pe_int) (pe_ix ix_list (pv 5) (pe_op op_mod (pv 2) pe_int) (fun _ _ => rfl))))
      (pss_cons (ps_set (i := 6) sc_law_draw.nd rfl (.inl rfl) (pe_op op_mod (pe_op op_add (pe_op op_mul (pv 6) (pe_op op_add pe_int (pe_op op_mul pe_int (pv 2)))) (pe_op op_mul pe_int (pv 2))) (pe_ix ix_list (pv 5) (pe_op op_mod (pv 2) pe_int) (fun _ _ => rfl))))
      (pss_one (ps_ret (pe_op op_mod (pe_op op_fdiv (pe_op op_mod (pe_op op_mul (pe_op op_mul (pv 6) (pv 6)) (pv 6)) (pe_ix ix_list (pv 5) (pe_op op_mod (pv 2) pe_int) (fun _ _ => rfl))) pe_int) (pv 1)))))))))), ?_⟩
    -- k = m["at"]; m["at"] = k + 1
    refine ⟨_, rfl, m, _, rfl, get_at em, _, rfl, _, _, rfl, rfl, _, rfl, m, _, rfl, put_at em, ?_⟩
    obtain ⟨H1, eH1⟩ : ∃ H1, H1 = upd H m (.dK (dr gl z (k + 1))) := ⟨_, rfl⟩
    have e1 : H1 m = some (.dK (dr gl z (k + 1))) := by rw [eH1, upd_same]
    have l1 : H1 gl = some (.lst (ns.map V.int)) := by rw [eH1, upd_ne ne.symm]; exact el
    have b1 : But m gl H H1 := fun b o hb _ e => by rw [eH1, upd_ne hb]; exact e
    rw [← eH1]
    clear eH1
    -- if m["great"] != []
    refine ⟨_, rfl, m, _, rfl, get_great e1, Nat.zero_le _, fun t ht => ?_⟩
    have t1 : Same H1 (upd H1 t (.lst [])) := same_new ht
    have e2 := t1 _ _ e1
    have l2 := t1 _ _ l1
    have b2 : But m gl H (upd H1 t (.lst [])) := b1.trans (.same t1)
    generalize hH2 : upd H1 t (.lst []) = H2 at t1 e2 l2 b2
    have lt : H2 t = some (.lst []) := by rw [← hH2, upd_same]
    refine ⟨.list (ns.map PyData.int), .list [], .lst (SqL.of l2) dp_ints, .lst (SqL.of lt) .nil, shaped_ints ns, rfl, _, rfl, ?_⟩
    have rest : ∀ (y3 y4 : Option V), tSeq (tAsg (tLst (tCons (tC (.int 2147483647)) (tCons (tC (.int 2147483629)) (tCons (tC (.int 2147483587)) (tCons (tC (.int 2147483579)) (tCons (tC (.int 2147483563)) (tCons (tC (.int 2147483549)) (tCons (tC (.int 2147483543)) (tCons (tC (.int 2147483497)) tNil)))))))))
                            (gName 5)) (tSeq (tAsg
                              (tOp (rI (fun x j => 0 < j) fun i j => V.int (i % j)) (tOp (rI0 fun i j => V.int (i + j)) (tOp (rI0 fun i j => V.int (i + j)) (tDGet (tVar 0) (tC (V.str (Str.ofString "small"))))
                                    (tOp (rI CMul fun i j => V.int (i * j)) (tC (V.int 7919)) (tVar 2))) (tC (V.int 17)))
                                (tOp (rIxL K) (tVar 5) (tOp (rI (fun x j => 0 < j) fun i j => V.int (i % j)) (tVar 2) (tC (V.int 8))))) (gName 6))
                            (tSeq (tAsg (tOp (rI (fun x j => 0 < j) fun i j => V.int (i % j)) (tOp (rI0 fun i j => V.int (i + j)) (tOp (rI CMul fun i j => V.int (i * j)) (tVar 6)
                                      (tOp (rI0 fun i j => V.int (i + j)) (tC (V.int 48271)) (tOp (rI CMul fun i j => V.int (i * j)) (tC (V.int 2)) (tVar 2))))
                                    (tOp (rI CMul fun i j => V.int (i * j)) (tC (V.int 104729)) (tVar 2)))
                                  (tOp (rIxL K) (tVar 5) (tOp (rI (fun x j => 0 < j) fun i j => V.int (i % j)) (tVar 2) (tC (V.int 8))))) (gName 6))
                              (tRet (tOp (rI (fun x j => 0 < j) fun i j => V.int (i % j)) (tOp (rI CDiv fun i j => V.int (i / j)) (tOp (rI (fun x j => 0 < j) fun i j => V.int (i % j)) (tOp (rI CMul fun i j => V.int (i * j)) (tOp (rI CMul fun i j => V.int (i * j)) (tVar 6) (tVar 6)) (tVar 6))
                                (tOp (rIxL K) (tVar 5) (tOp (rI (fun x j => 0 < j) fun i j => V.int (i % j)) (tVar 2) (tC (V.int 8))))) (tC (V.int 7))) (tVar 1)))))
        { nx := fun x H' => Q V.non H', rt := Q } [some (.ref m), some (.int many), some (.int k), y3, y4, none, none] H2 := by
      intro y3 y4
      refine ⟨(show 8 ≤ sizeLine by decide), fun p hp => ?_⟩
      have t3 := same_new (o := .lst primes) hp
      have e3 := t3 _ _ e2
      have l3 := t3 _ _ l2
      have b3 := b2.trans (.same (m := m) (gl := gl) t3)
      obtain ⟨pr, hpr, p0, p1⟩ := prime_at k
      generalize hH3 : upd H2 p (.lst primes) = H3 at t3 e3 l3 b3
      have lp : H3 p = some (.lst primes) := by rw [← hH3]; exact upd_same
      have b8 : (0 : Int) < 8 := by decide
      refine ⟨_, rfl, m, _, rfl, get_small e3, _, rfl, _, _, rfl, rfl, .inl ⟨by decide, by decide⟩, _, _, rfl, rfl, _, _, rfl, rfl, _, rfl, _, rfl, _, _, rfl, rfl, b8, p, primes, _, _, rfl, rfl, SqL.of lp, hpr, _, _, rfl, rfl, p0, ?_⟩
      have g0 : ∀ x : Int, -(2 ^ 64) < x % pr ∧ x % pr < 2 ^ 64 := fun x => by
        have h1 := Int.emod_nonneg x (show pr ≠ 0 by omega)
        have h2 := Int.emod_lt_of_pos x p0
        exact ⟨by omega, by omega⟩
      refine ⟨_, rfl, _, rfl, _, _, rfl, rfl, .inl ⟨by decide, by decide⟩, _, _, rfl, rfl, _, _, rfl, rfl, .inl (g0 _), _, rfl, _, _, rfl, rfl, .inl ⟨by decide, by decide⟩, _, _, rfl, rfl, _, rfl, _, rfl, _, _, rfl, rfl, b8, p, primes, _, _, rfl, rfl, SqL.of lp, hpr, _, _, rfl, rfl, p0, ?_⟩
      refine ⟨_, rfl, _, rfl, _, _, rfl, rfl, .inl (g0 _), _, rfl, _, _, rfl, rfl, .inr (g0 _), _, rfl, _, rfl, _, _, rfl, rfl, b8, p, primes, _, _, rfl, rfl, SqL.of lp, hpr, _, _, rfl, rfl, p0, _, _, rfl, rfl, ⟨by decide, by decide⟩, _, rfl, _, _, rfl, rfl, h0, ?_⟩
      exact q _ _ (Int.emod_nonneg _ (by omega)) (Int.emod_lt_of_pos _ h0) ⟨⟨z, k + 1, e3⟩, ⟨ns, l3, ln⟩, ne⟩ b3
    cases ns with
    | nil => exact iteF (rest _ _)
    | cons n r =>
      refine iteT ?_
      -- at = k % len(great); cell = great[at]
      have lpos : (0 : Int) < (((n :: r).map V.int).length : Int) := by
        rw [List.length_map, List.length_cons]
        omega
      refine ⟨_, rfl, _, rfl, m, _, rfl, get_great e2, gl, _, rfl, .inl (SqL.of l2), _, _, rfl, rfl, lpos, ?_⟩
      obtain ⟨j, c, hj, hlt, hc⟩ := great_at (n :: r) k lpos
      refine ⟨_, rfl, m, _, rfl, get_great e2, _, rfl, gl, _, _, _, rfl, rfl, SqL.of l2, at_of hj hc, ?_⟩
      refine ⟨_, rfl, _, _, rfl, rfl, _, rfl, ite2 (fun c0 => ?_) (fun c0 => rest _ _)⟩
      refine ⟨_, rfl, _, rfl, _, _, rfl, rfl, ⟨h0, h1⟩, _, rfl, m, _, rfl, get_great e2, _, rfl, gl, _, _, j, rfl, rfl, l2, ?_, ?_⟩
      · rw [hj]
        exact ixN_nat hlt
      · refine ⟨_, rfl, _, rfl, _, _, rfl, rfl, h0, ?_⟩
        refine q _ _ (Int.emod_nonneg _ (by omega)) (Int.emod_lt_of_pos _ h0) ⟨⟨z, k + 1, by rw [upd_ne ne]; exact e2⟩, ⟨(n :: r).set j (c / many), ?_, by rw [List.length_set]; exact ln⟩, ne⟩ ?_
        · rw [upd_same, List.map_set]
        · exact b2.trans fun b o _ hb e => by rw [upd_ne hb]; exact e
end
end L2.K1

/-! ### K1b -/
set_option Elab.async false
set_option linter.all false
set_option maxRecDepth 100000
set_option maxHeartbeats 4000000
namespace L2.K1
open PySem PySem.Spec PyProof.Rows L2.Sl
/-- data that is drawn: small -/
structure Small (d : PyData) : Prop where
  sh : SeqAt.shaped d = true
  sw : d.showable = true
  hd : d.hasDict = false
  dp : d.depth ≤ 2
  sz : psz d ≤ 20000
def spThing : Sp := fun vs H Q _ => ∃ (m gl : Addr), vs = [.ref m] ∧ Drw H m gl ∧ ∀ H2 v d, Drw H2 m gl → But m gl H H2 → Th H2 v d → Small d → Q v H2
theorem But.tups {m gl : Addr} {H H2 : Hp} (D : Drw H m gl) (b : But m gl H H2) : Tups H H2 := fun a xs e => by
  obtain ⟨z, k, em⟩ := D.d
  obtain ⟨ns, el, _⟩ := D.l
  exact b a _ (ne_of e em (by intro q; cases q)) (ne_of e el (by intro q; cases q)) e
theorem Drw.same {H H2 : Hp} {m gl : Addr} (D : Drw H m gl) (s : Same H H2) : Drw H2 m gl := by
  obtain ⟨⟨z, k, em⟩, ⟨ns, el, ln⟩, ne⟩ := D
  exact ⟨⟨z, k, s _ _ em⟩, ⟨ns, s _ _ el, ln⟩, ne⟩
theorem But.keep {m gl a : Addr} {H H2 : Hp} {o : HO} (D : Drw H m gl) (b : But m gl H H2) (e : H a = some o) (h1 : ∀ l, o ≠ .dK l) (h2 : ∀ l, o = .lst l → a ≠ gl) : H2 a = some o := by
  obtain ⟨z, k, em⟩ := D.d
  refine b a _ (ne_of e em (h1 _)) (fun z2 => ?_) e
  obtain ⟨ns, el, _⟩ := D.l
  have e2 := e
  rw [z2, el] at e2
  exact h2 _ (Option.some.inj e2).symm z2
section
variable {P : Program} {w : World} {K : PySem.W.Frag} {mg : Str → Option Value} {base : Heap}
abbrev s_law_thing : Stmt := topS 42
abbrev N_law_thing : List Str := ["m", "far"]
theorem sc_law_thing : FnScope N_law_thing ["m"] (defScope s_law_thing) := ⟨rfl, rfl, rfl, by decide +kernel, rfl, by decide +kernel, by decide +kernel⟩
theorem small_int {i : Int} (h : i.natAbs < 2 ^ 60) : Small (.int i) := by
  have hs : PyData.showable (.int i) = true := by
    have q : i.natAbs.log2 < 1920 := by
      by_cases z : i.natAbs = 0
      · rw [z]; decide
      · exact Nat.lt_of_lt_of_le ((Nat.log2_lt z).mpr h) (by decide)
    simpa [PyData.showable] using q
  exact ⟨rfl, hs, rfl, Nat.zero_le _, (by decide : 1921 ≤ 20000)⟩
theorem ok_thing {f fD : Addr} {fd fdD : FuncData} {k : Nat} (F : Fun K "_law_thing" "_law_thing" s_law_thing f fd) (F_law_draw : Fun K "_law_draw" "_law_draw" s_law_draw fD fdD) (b_law_draw : Binds K fdD ["m", "many"] []) (g_law_draw : mg "_law_draw" = some (.ref fD)) (n_len : mg "len" = none) :
    FnOk P w K mg base CX0 (k + 2) f fd ["m"] spThing := by
  have G_law_draw : FnOk P w K mg base CX0 (k + 1) fD fdD ["m", "many"] spDraw := ok_draw F_law_draw n_len
  refine F.ok sc_law_thing (fun vs H Q E h => ?_) (fun cdv A outer s H vs Q E hr h => ?_)
  · obtain ⟨m, gl, rfl, _⟩ := h
    rfl
  · obtain ⟨m, gl, rfl, D, q⟩ := h
    refine ⟨_, (pss_cons (ps_set (i := 1) sc_law_thing.nd rfl (.inl rfl) (pe_call G_law_draw hr (by rfl) g_law_draw F_law_draw.kp b_law_draw .nil pass0 (pa_cons (pv 0) (pa_cons (pe_op op_pow pe_int pe_int) pa_nil))))
      (pss_one (ps_ret (pe_ix ix_list (pe_lst (pa_cons pe_str (pa_cons pe_str (pa_cons pe_non (pa_cons pe_int (pa_cons (pv 1) (pa_cons (pe_op op_sub pe_int (pv 1)) (pa_cons (pe_tup (pa_cons pe_str (pa_cons pe_str pa_nil))) (pa_cons (pe_tup pa_nil) (pa_cons pe_bl (pa_cons (pe_tup (pa_cons (pe_tup (pa_cons pe_int (pa_cons pe_int pa_nil))) (pa_cons pe_int pa_nil))) pa_nil))))))))))) (pe_call G_law_draw hr (by rfl) g_law_draw F_law_draw.kp b_law_draw .nil pass0 (pa_cons (pv 0) (pa_cons pe_int pa_nil))) (fun _ _ => rfl))))), ?_⟩
    refine ⟨_, rfl, _, _, rfl, rfl, ⟨by decide, by decide, by decide⟩, m, gl, _, rfl, D, by decide, by decide, fun H1 r r0 r1 D1 B1 => ?_⟩
    have r2 : r < 1000000 := r1
    refine ⟨_, rfl, _, rfl, _, _, rfl, rfl, (show 2 ≤ sizeLine by decide), fun t1 n1 => ⟨(show 0 ≤ sizeLine by decide), fun t2 n2 => ⟨(show 2 ≤ sizeLine by decide), fun t3 n3 => ⟨(show 2 ≤ sizeLine by decide), fun t4 n4 => ⟨(show 10 ≤ sizeLine by decide), fun p np => ?_⟩⟩⟩⟩⟩
    obtain ⟨A1, hA1⟩ : ∃ A1, A1 = upd H1 t1 (HO.tup [V.str (Str.ofString "a"), V.str (Str.ofString "b")]) := ⟨_, rfl⟩
    rw [← hA1] at n2 n3 n4 np ⊢
    obtain ⟨A2, hA2⟩ : ∃ A2, A2 = upd A1 t2 (HO.tup []) := ⟨_, rfl⟩
    rw [← hA2] at n3 n4 np ⊢
    obtain ⟨A3, hA3⟩ : ∃ A3, A3 = upd A2 t3 (HO.tup [V.int 0, V.int 1]) := ⟨_, rfl⟩
    rw [← hA3] at n4 np ⊢
    obtain ⟨A4, hA4⟩ : ∃ A4, A4 = upd A3 t4 (HO.tup [V.ref t3, V.int 1]) := ⟨_, rfl⟩
    rw [← hA4] at np ⊢
    have S1 : Same H1 A1 := hA1 ▸ same_new n1
    have S2 : Same A1 A2 := hA2 ▸ same_new n2
    have S3 : Same A2 A3 := hA3 ▸ same_new n3
    have S4 : Same A3 A4 := hA4 ▸ same_new n4
    have c1 : A4 t1 = some (.tup [.str "a", .str "b"]) := S4 _ _ (S3 _ _ (S2 _ _ (by rw [hA1]; exact upd_same)))
    have c2 : A4 t2 = some (.tup []) := S4 _ _ (S3 _ _ (by rw [hA2]; exact upd_same))
    have c3 : A4 t3 = some (.tup [.int 0, .int 1]) := S4 _ _ (by rw [hA3]; exact upd_same)
    have c4 : A4 t4 = some (.tup [.ref t3, .int 1]) := by rw [hA4]; exact upd_same
    have S5 : Same H1 A4 := S1.trans (S2.trans (S3.trans S4))
    have S6 := same_new (o := .lst [V.str (Str.ofString ""), V.str (Str.ofString "box"), V.non, V.int 0, V.int r, V.int (0 - r), V.ref t1, V.ref t2, V.bl true, V.ref t4]) np
    have D6 := (D1.same S5).same S6
    have lp : upd A4 p (.lst [V.str (Str.ofString ""), V.str (Str.ofString "box"), V.non, V.int 0, V.int r, V.int (0 - r), V.ref t1, V.ref t2, V.bl true, V.ref t4]) p = some (.lst _) := upd_same
    have pg : p ≠ gl := by
      obtain ⟨ns, el, _⟩ := (D1.same S5).l
      exact (ne_of_none el np).symm
    refine ⟨_, rfl, m, gl, 10, rfl, D6, by decide, by decide, fun H2 j j0 j1 D2 B2 => ?_⟩
    have lp2 := B2.keep D6 lp (fun _ z => nomatch z) (fun _ _ => pg)
    have T2 : Tups A4 H2 := (Tups.of S6).trans (B2.tups D6)
    have d1 := T2 _ _ c1
    have d2 := T2 _ _ c2
    have d3 := T2 _ _ c3
    have d4 := T2 _ _ c4
    have B3 : But m gl H H2 := B1.trans ((But.same S5).trans ((But.same S6).trans B2))
    have go : ∀ (v : V) (d : PyData), atI [V.str (Str.ofString ""), V.str (Str.ofString "box"), V.non, V.int 0, V.int r, V.int (0 - r), V.ref t1, V.ref t2, V.bl true, V.ref t4] j = some v → Th H2 v d → Small d →
        rIxL K (V.ref p) (V.int j) H2 Q := fun v d e t sm => ⟨p, _, j, v, rfl, rfl, SqL.of lp2, e, q H2 v d D2 B3 t sm⟩
    obtain ⟨i, hi⟩ : ∃ i : Nat, j = (i : Int) := ⟨j.toNat, by omega⟩
    have hi10 : i < 10 := by omega
    match i, hi10, hi with
    | 0, _, e => exact go _ _ (at_of e rfl) (.str _) ⟨by decide +kernel, rfl, rfl, Nat.zero_le _, by decide +kernel⟩
    | 1, _, e => exact go _ _ (at_of e rfl) (.str _) ⟨by decide +kernel, rfl, rfl, Nat.zero_le _, by decide +kernel⟩
    | 2, _, e => exact go _ _ (at_of e rfl) .non ⟨rfl, rfl, rfl, Nat.zero_le _, by decide +kernel⟩
    | 3, _, e => exact go _ _ (at_of e rfl) (.int _) (small_int (by decide))
    | 4, _, e => exact go _ _ (at_of e rfl) (.int _) (small_int (by omega))
    | 5, _, e => exact go _ _ (at_of e rfl) (.int _) (small_int (by omega))
    | 6, _, e => exact go _ _ (at_of e rfl) (.tup d1 (.cons (.str _) (.cons (.str _) .nil))) ⟨by decide +kernel, by decide +kernel, by decide +kernel, by decide, by decide +kernel⟩
    | 7, _, e => exact go _ _ (at_of e rfl) (.tup d2 .nil) ⟨rfl, rfl, rfl, by decide, by decide +kernel⟩
    | 8, _, e => exact go _ _ (at_of e rfl) (.bl _) ⟨rfl, rfl, rfl, Nat.zero_le _, by decide +kernel⟩
    | 9, _, e => exact go _ _ (at_of e rfl) (.tup d4 (.cons (.tup d3 (.cons (.int _) (.cons (.int _) .nil))) (.cons (.int _) .nil))) ⟨by decide +kernel, by decide +kernel, by decide +kernel, by decide +kernel, by decide +kernel⟩
end
end L2.K1

/-! ### K1c -/
set_option Elab.async false
set_option linter.all false
set_option maxRecDepth 100000
set_option maxHeartbeats 4000000
namespace L2.K1
open PySem PySem.W PySem.Spec PyProof.Rows L2.Sl SlX
/-! ### the twenty classes -/
def nm : Nat → Str
  | 0 => "BadGear"
  | 1 => "BadTerm"
  | 2 => "BadSum"
  | 3 => "BadSizes"
  | 4 => "BadArrays"
  | 5 => "BadNumber"
  | 6 => "BadName"
  | 7 => "BadPlan"
  | 8 => "BadDefinition"
  | 9 => "BadDeed"
  | 10 => "BadStep"
  | 11 => "BadLine"
  | 12 => "NoBox"
  | 13 => "NoName"
  | 14 => "NotDefined"
  | 15 => "Unfit"
  | 16 => "Ring"
  | 17 => "NotSo"
  | 18 => "TooGreat"
  | 19 => "Full"
  | _ => ""
def fl : Nat → List Str
  | 0 => ["why"]
  | 1 => ["why"]
  | 2 => ["why"]
  | 3 => ["why"]
  | 4 => ["why"]
  | 5 => ["why"]
  | 6 => ["why"]
  | 7 => ["why"]
  | 8 => ["why"]
  | 9 => ["why"]
  | 10 => ["number"]
  | 11 => ["line"]
  | 12 => ["name"]
  | 13 => ["name"]
  | 14 => ["name"]
  | 15 => ["others"]
  | 16 => ["boxes"]
  | 17 => ["box", "number"]
  | 18 => ["most"]
  | 19 => ["most"]
  | _ => []
def qn : Nat → Str
  | 0 => "BadGear.__init__"
  | 1 => "BadTerm.__init__"
  | 2 => "BadSum.__init__"
  | 3 => "BadSizes.__init__"
  | 4 => "BadArrays.__init__"
  | 5 => "BadNumber.__init__"
  | 6 => "BadName.__init__"
  | 7 => "BadPlan.__init__"
  | 8 => "BadDefinition.__init__"
  | 9 => "BadDeed.__init__"
  | 10 => "BadStep.__init__"
  | 11 => "BadLine.__init__"
  | 12 => "NoBox.__init__"
  | 13 => "NoName.__init__"
  | 14 => "NotDefined.__init__"
  | 15 => "Unfit.__init__"
  | 16 => "Ring.__init__"
  | 17 => "NotSo.__init__"
  | 18 => "TooGreat.__init__"
  | 19 => "Full.__init__"
  | _ => ""
def at_ : Nat → Nat
  | 0 => 4
  | 1 => 5
  | 2 => 6
  | 3 => 7
  | 4 => 8
  | 5 => 9
  | 6 => 10
  | 7 => 11
  | 8 => 12
  | 9 => 13
  | 10 => 14
  | 11 => 15
  | 12 => 16
  | 13 => 17
  | 14 => 18
  | 15 => 19
  | 16 => 20
  | 17 => 21
  | 18 => 22
  | 19 => 23
  | _ => 0
abbrev ini (i : Nat) : Stmt := inClass (topS (at_ i)) 0
theorem it_0 : InitTxt (ini 0) (fl 0) := ⟨(.cons _ _ _ _ .nil : Inits (defBody (ini 0)) (fl 0)), by decide +kernel, by decide +kernel, rfl, rfl, rfl⟩
theorem bi_0 : ∀ us : List Value, us.length = (fl 0).length → BindI (ini 0) (qn 0) (fl 0) (fun u => ⟨u :: us, []⟩) us := fun us h => match us, h with | [_], _ => fun _ _ _ _ _ _ _ _ => .of_eq rfl
theorem bk_0 : ∀ us : List Value, us.length = (fl 0).length → BindI (ini 0) (qn 0) (fl 0) (fun u => ⟨[u], (fl 0).zip us⟩) us := fun us h => match us, h with | [_], _ => fun _ _ _ _ _ _ _ _ => .of_eq rfl
theorem it_1 : InitTxt (ini 1) (fl 1) := ⟨(.cons _ _ _ _ .nil : Inits (defBody (ini 1)) (fl 1)), by decide +kernel, by decide +kernel, rfl, rfl, rfl⟩
theorem bi_1 : ∀ us : List Value, us.length = (fl 1).length → BindI (ini 1) (qn 1) (fl 1) (fun u => ⟨u :: us, []⟩) us := fun us h => match us, h with | [_], _ => fun _ _ _ _ _ _ _ _ => .of_eq rfl
theorem bk_1 : ∀ us : List Value, us.length = (fl 1).length → BindI (ini 1) (qn 1) (fl 1) (fun u => ⟨[u], (fl 1).zip us⟩) us := fun us h => match us, h with | [_], _ => fun _ _ _ _ _ _ _ _ => .of_eq rfl
theorem it_2 : InitTxt (ini 2) (fl 2) := ⟨(.cons _ _ _ _ .nil : Inits (defBody (ini 2)) (fl 2)), by decide +kernel, by decide +kernel, rfl, rfl, rfl⟩
theorem bi_2 : ∀ us : List Value, us.length = (fl 2).length → BindI (ini 2) (qn 2) (fl 2) (fun u => ⟨u :: us, []⟩) us := fun us h => match us, h with | [_], _ => fun _ _ _ _ _ _ _ _ => .of_eq rfl
theorem bk_2 : ∀ us : List Value, us.length = (fl 2).length → BindI (ini 2) (qn 2) (fl 2) (fun u => ⟨[u], (fl 2).zip us⟩) us := fun us h => match us, h with | [_], _ => fun _ _ _ _ _ _ _ _ => .of_eq rfl
theorem it_3 : InitTxt (ini 3) (fl 3) := ⟨(.cons _ _ _ _ .nil : Inits (defBody (ini 3)) (fl 3)), by decide +kernel, by decide +kernel, rfl, rfl, rfl⟩
theorem bi_3 : ∀ us : List Value, us.length = (fl 3).length → BindI (ini 3) (qn 3) (fl 3) (fun u => ⟨u :: us, []⟩) us := fun us h => match us, h with | [_], _ => fun _ _ _ _ _ _ _ _ => .of_eq rfl
theorem bk_3 : ∀ us : List Value, us.length = (fl 3).length → BindI (ini 3) (qn 3) (fl 3) (fun u => ⟨[u], (fl 3).zip us⟩) us := fun us h => match us, h with | [_], _ => fun _ _ _ _ _ _ _ _ => .of_eq rfl
theorem it_4 : InitTxt (ini 4) (fl 4) := ⟨(.cons _ _ _ _ .nil : Inits (defBody (ini 4)) (fl 4)), by decide +kernel, by decide +kernel, rfl, rfl, rfl⟩
theorem bi_4 : ∀ us : List Value, us.length = (fl 4).length → BindI (ini 4) (qn 4) (fl 4) (fun u => ⟨u :: us, []⟩) us := fun us h => match us, h with | [_], _ => fun _ _ _ _ _ _ _ _ => .of_eq rfl
theorem bk_4 : ∀ us : List Value, us.length = (fl 4).length → BindI (ini 4) (qn 4) (fl 4) (fun u => ⟨[u], (fl 4).zip us⟩) us := fun us h => match us, h with | [_], _ => fun _ _ _ _ _ _ _ _ => .of_eq rfl
theorem it_5 : InitTxt (ini 5) (fl 5) := ⟨(.cons _ _ _ _ .nil : Inits (defBody (ini 5)) (fl 5)), by decide +kernel, by decide +kernel, rfl, rfl, rfl⟩
theorem bi_5 : ∀ us : List Value, us.length = (fl 5).length → BindI (ini 5) (qn 5) (fl 5) (fun u => ⟨u :: us, []⟩) us := fun us h => match us, h with | [_], _ => fun _ _ _ _ _ _ _ _ => .of_eq rfl
theorem bk_5 : ∀ us : List Value, us.length = (fl 5).length → BindI (ini 5) (qn 5) (fl 5) (fun u => ⟨[u], (fl 5).zip us⟩) us := fun us h => match us, h with | [_], _ => fun _ _ _ _ _ _ _ _ => .of_eq rfl
theorem it_6 : InitTxt (ini 6) (fl 6) := ⟨(.cons _ _ _ _ .nil : Inits (defBody (ini 6)) (fl 6)), by decide +kernel, by decide +kernel, rfl, rfl, rfl⟩
theorem bi_6 : ∀ us : List Value, us.length = (fl 6).length → BindI (ini 6) (qn 6) (fl 6) (fun u => ⟨u :: us, []⟩) us := fun us h => match us, h with | [_], _ => fun _ _ _ _ _ _ _ _ => .of_eq rfl
theorem bk_6 : ∀ us : List Value, us.length = (fl 6).length → BindI (ini 6) (qn 6) (fl 6) (fun u => ⟨[u], (fl 6).zip us⟩) us := fun us h => match us, h with | [_], _ => fun _ _ _ _ _ _ _ _ => .of_eq rfl
theorem it_7 : InitTxt (ini 7) (fl 7) := ⟨(.cons _ _ _ _ .nil : Inits (defBody (ini 7)) (fl 7)), by decide +kernel, by decide +kernel, rfl, rfl, rfl⟩
theorem bi_7 : ∀ us : List Value, us.length = (fl 7).length → BindI (ini 7) (qn 7) (fl 7) (fun u => ⟨u :: us, []⟩) us := fun us h => match us, h with | [_], _ => fun _ _ _ _ _ _ _ _ => .of_eq rfl
theorem bk_7 : ∀ us : List Value, us.length = (fl 7).length → BindI (ini 7) (qn 7) (fl 7) (fun u => ⟨[u], (fl 7).zip us⟩) us := fun us h => match us, h with | [_], _ => fun _ _ _ _ _ _ _ _ => .of_eq rfl
theorem it_8 : InitTxt (ini 8) (fl 8) := ⟨(.cons _ _ _ _ .nil : Inits (defBody (ini 8)) (fl 8)), by decide +kernel, by decide +kernel, rfl, rfl, rfl⟩
theorem bi_8 : ∀ us : List Value, us.length = (fl 8).length → BindI (ini 8) (qn 8) (fl 8) (fun u => ⟨u :: us, []⟩) us := fun us h => match us, h with | [_], _ => fun _ _ _ _ _ _ _ _ => .of_eq rfl
theorem bk_8 : ∀ us : List Value, us.length = (fl 8).length → BindI (ini 8) (qn 8) (fl 8) (fun u => ⟨[u], (fl 8).zip us⟩) us := fun us h => match us, h with | [_], _ => fun _ _ _ _ _ _ _ _ => .of_eq rfl
theorem it_9 : InitTxt (ini 9) (fl 9) := ⟨(.cons _ _ _ _ .nil : Inits (defBody (ini 9)) (fl 9)), by decide +kernel, by decide +kernel, rfl, rfl, rfl⟩
theorem bi_9 : ∀ us : List Value, us.length = (fl 9).length → BindI (ini 9) (qn 9) (fl 9) (fun u => ⟨u :: us, []⟩) us := fun us h => match us, h with | [_], _ => fun _ _ _ _ _ _ _ _ => .of_eq rfl
theorem bk_9 : ∀ us : List Value, us.length = (fl 9).length → BindI (ini 9) (qn 9) (fl 9) (fun u => ⟨[u], (fl 9).zip us⟩) us := fun us h => match us, h with | [_], _ => fun _ _ _ _ _ _ _ _ => .of_eq rfl
theorem it_10 : InitTxt (ini 10) (fl 10) := ⟨(.cons _ _ _ _ .nil : Inits (defBody (ini 10)) (fl 10)), by decide +kernel, by decide +kernel, rfl, rfl, rfl⟩
theorem bi_10 : ∀ us : List Value, us.length = (fl 10).length → BindI (ini 10) (qn 10) (fl 10) (fun u => ⟨u :: us, []⟩) us := fun us h => match us, h with | [_], _ => fun _ _ _ _ _ _ _ _ => .of_eq rfl
theorem bk_10 : ∀ us : List Value, us.length = (fl 10).length → BindI (ini 10) (qn 10) (fl 10) (fun u => ⟨[u], (fl 10).zip us⟩) us := fun us h => match us, h with | [_], _ => fun _ _ _ _ _ _ _ _ => .of_eq rfl
theorem it_11 : InitTxt (ini 11) (fl 11) := ⟨(.cons _ _ _ _ .nil : Inits (defBody (ini 11)) (fl 11)), by decide +kernel, by decide +kernel, rfl, rfl, rfl⟩
theorem bi_11 : ∀ us : List Value, us.length = (fl 11).length → BindI (ini 11) (qn 11) (fl 11) (fun u => ⟨u :: us, []⟩) us := fun us h => match us, h with | [_], _ => fun _ _ _ _ _ _ _ _ => .of_eq rfl
theorem bk_11 : ∀ us : List Value, us.length = (fl 11).length → BindI (ini 11) (qn 11) (fl 11) (fun u => ⟨[u], (fl 11).zip us⟩) us := fun us h => match us, h with | [_], _ => fun _ _ _ _ _ _ _ _ => .of_eq rfl
theorem it_12 : InitTxt (ini 12) (fl 12) := ⟨(.cons _ _ _ _ .nil : Inits (defBody (ini 12)) (fl 12)), by decide +kernel, by decide +kernel, rfl, rfl, rfl⟩
theorem bi_12 : ∀ us : List Value, us.length = (fl 12).length → BindI (ini 12) (qn 12) (fl 12) (fun u => ⟨u :: us, []⟩) us := fun us h => match us, h with | [_], _ => fun _ _ _ _ _ _ _ _ => .of_eq rfl
theorem bk_12 : ∀ us : List Value, us.length = (fl 12).length → BindI (ini 12) (qn 12) (fl 12) (fun u => ⟨[u], (fl 12).zip us⟩) us := fun us h => match us, h with | [_], _ => fun _ _ _ _ _ _ _ _ => .of_eq rfl
theorem it_13 : InitTxt (ini 13) (fl 13) := ⟨(.cons _ _ _ _ .nil : Inits (defBody (ini 13)) (fl 13)), by decide +kernel, by decide +kernel, rfl, rfl, rfl⟩
theorem bi_13 : ∀ us : List Value, us.length = (fl 13).length → BindI (ini 13) (qn 13) (fl 13) (fun u => ⟨u :: us, []⟩) us := fun us h => match us, h with | [_], _ => fun _ _ _ _ _ _ _ _ => .of_eq rfl
theorem bk_13 : ∀ us : List Value, us.length = (fl 13).length → BindI (ini 13) (qn 13) (fl 13) (fun u => ⟨[u], (fl 13).zip us⟩) us := fun us h => match us, h with | [_], _ => fun _ _ _ _ _ _ _ _ => .of_eq rfl
theorem it_14 : InitTxt (ini 14) (fl 14) := ⟨(.cons _ _ _ _ .nil : Inits (defBody (ini 14)) (fl 14)), by decide +kernel, by decide +kernel, rfl, rfl, rfl⟩
theorem bi_14 : ∀ us : List Value, us.length = (fl 14).length → BindI (ini 14) (qn 14) (fl 14) (fun u => ⟨u :: us, []⟩) us := fun us h => match us, h with | [_], _ => fun _ _ _ _ _ _ _ _ => .of_eq rfl
theorem bk_14 : ∀ us : List Value, us.length = (fl 14).length → BindI (ini 14) (qn 14) (fl 14) (fun u => ⟨[u], (fl 14).zip us⟩) us := fun us h => match us, h with | [_], _ => fun _ _ _ _ _ _ _ _ => .of_eq rfl
theorem it_15 : InitTxt (ini 15) (fl 15) := ⟨(.cons _ _ _ _ .nil : Inits (defBody (ini 15)) (fl 15)), by decide +kernel, by decide +kernel, rfl, rfl, rfl⟩
theorem bi_15 : ∀ us : List Value, us.length = (fl 15).length → BindI (ini 15) (qn 15) (fl 15) (fun u => ⟨u :: us, []⟩) us := fun us h => match us, h with | [_], _ => fun _ _ _ _ _ _ _ _ => .of_eq rfl
theorem bk_15 : ∀ us : List Value, us.length = (fl 15).length → BindI (ini 15) (qn 15) (fl 15) (fun u => ⟨[u], (fl 15).zip us⟩) us := fun us h => match us, h with | [_], _ => fun _ _ _ _ _ _ _ _ => .of_eq rfl
theorem it_16 : InitTxt (ini 16) (fl 16) := ⟨(.cons _ _ _ _ .nil : Inits (defBody (ini 16)) (fl 16)), by decide +kernel, by decide +kernel, rfl, rfl, rfl⟩
theorem bi_16 : ∀ us : List Value, us.length = (fl 16).length → BindI (ini 16) (qn 16) (fl 16) (fun u => ⟨u :: us, []⟩) us := fun us h => match us, h with | [_], _ => fun _ _ _ _ _ _ _ _ => .of_eq rfl
theorem bk_16 : ∀ us : List Value, us.length = (fl 16).length → BindI (ini 16) (qn 16) (fl 16) (fun u => ⟨[u], (fl 16).zip us⟩) us := fun us h => match us, h with | [_], _ => fun _ _ _ _ _ _ _ _ => .of_eq rfl
theorem it_17 : InitTxt (ini 17) (fl 17) := ⟨(.cons _ _ _ _ (.cons _ _ _ _ .nil) : Inits (defBody (ini 17)) (fl 17)), by decide +kernel, by decide +kernel, rfl, rfl, rfl⟩
theorem bi_17 : ∀ us : List Value, us.length = (fl 17).length → BindI (ini 17) (qn 17) (fl 17) (fun u => ⟨u :: us, []⟩) us := fun us h => match us, h with | [_, _], _ => fun _ _ _ _ _ _ _ _ => .of_eq rfl
theorem bk_17 : ∀ us : List Value, us.length = (fl 17).length → BindI (ini 17) (qn 17) (fl 17) (fun u => ⟨[u], (["number", "box"] : List Str).zip us⟩) us.reverse := fun us h => match us, h with | [_, _], _ => fun _ _ _ _ _ _ _ _ => .of_eq rfl
theorem it_18 : InitTxt (ini 18) (fl 18) := ⟨(.cons _ _ _ _ .nil : Inits (defBody (ini 18)) (fl 18)), by decide +kernel, by decide +kernel, rfl, rfl, rfl⟩
theorem bi_18 : ∀ us : List Value, us.length = (fl 18).length → BindI (ini 18) (qn 18) (fl 18) (fun u => ⟨u :: us, []⟩) us := fun us h => match us, h with | [_], _ => fun _ _ _ _ _ _ _ _ => .of_eq rfl
theorem bk_18 : ∀ us : List Value, us.length = (fl 18).length → BindI (ini 18) (qn 18) (fl 18) (fun u => ⟨[u], (fl 18).zip us⟩) us := fun us h => match us, h with | [_], _ => fun _ _ _ _ _ _ _ _ => .of_eq rfl
theorem it_19 : InitTxt (ini 19) (fl 19) := ⟨(.cons _ _ _ _ .nil : Inits (defBody (ini 19)) (fl 19)), by decide +kernel, by decide +kernel, rfl, rfl, rfl⟩
theorem bi_19 : ∀ us : List Value, us.length = (fl 19).length → BindI (ini 19) (qn 19) (fl 19) (fun u => ⟨u :: us, []⟩) us := fun us h => match us, h with | [_], _ => fun _ _ _ _ _ _ _ _ => .of_eq rfl
theorem bk_19 : ∀ us : List Value, us.length = (fl 19).length → BindI (ini 19) (qn 19) (fl 19) (fun u => ⟨[u], (fl 19).zip us⟩) us := fun us h => match us, h with | [_], _ => fun _ _ _ _ _ _ _ _ => .of_eq rfl
end L2.K1

/-! ### K1d -/
set_option Elab.async false
set_option linter.all false
set_option maxRecDepth 100000
set_option maxHeartbeats 4000000
namespace L2.K1
open PySem PySem.W PySem.Spec PyProof.Rows L2.Sl SlX
def home (i : Nat) : Nat := if i < 12 then 0 else if i < 18 then 1 else 2
def fam : Nat → Str
  | 0 => "Refused"
  | 1 => "Barred"
  | _ => "Beyond"
def famT : Nat → Str
  | 0 => "refused"
  | 1 => "barred"
  | _ => "beyond"
/-- what the top has written of the classes -/
structure Txt (K : Frag) (mg : Str → Option Value) (C Fi Fm : Nat → Addr) : Prop where
  cls : ∀ i, i < 20 → EC K (C i) (Fi i) (qn i) (ini i) (fl i)
  g : ∀ i, i < 20 → mg (nm i) = some (.ref (C i))
  gF : ∀ j, j < 3 → mg (fam j) = some (.ref (Fm j))
  xr : ∀ i, i < 20 → ExR K (C i)
  mat : ∀ i j, i < 20 → j < 20 → kitOne K (.ref (C i)) (.ref (C j)) = some (decide (i = j))
  fmk : ∀ i j, i < 20 → j < 3 → kitOne K (.ref (C i)) (.ref (Fm j)) = some (decide (home i = j))
  fme : ∀ i j, i < 20 → j < 3 → exmOne K (.ref (C i)) (.ref (Fm j)) = some (decide (home i = j))
  blt : ∀ i j, i < 20 → j < 7 → kitOne K (.ref (C i)) (.type (["ValueError", "LookupError", "ArithmeticError", "KeyError", "IndexError", "ZeroDivisionError", "OverflowError"].getD j "")) = some (decide (home i = j))
/-- the fields of a made one -/
def fv (i : Nat) (one far : V) : List (Str × V) := ((fl i).zip (if i = 17 then [one, far] else [one])).reverse
theorem fv_eq {i : Nat} (h : i < 20) (h17 : i ≠ 17) (one far : V) : fv i one far = ((fl i).zip [one]).reverse := by unfold fv; rw [if_neg h17]
/-- raised: an exception of the class i, its fields in a new dict -/
def spRR (C : Nat → Addr) (lo hi : Nat) (two : Bool) : Sp := fun vs H _ E => ∃ (i : Nat) (one far : V), vs = (if two then [.int i, one, far] else [.int i, one]) ∧ lo ≤ i ∧ i < hi ∧ ∀ d, H d = none → E (.ref (C i)) (some d) (upd H d (.xd (fv i one far)))
section
variable {P : Program} {w : World} {K : PySem.W.Frag} {mg : Str → Option Value} {base : Heap} {C Fi Fm : Nat → Addr}
theorem way_eq {i k : Nat} (c : decide (V.int (i : Int) = V.int (k : Int)) = true) : i = k := by
  have e := V.int.inj (of_decide_eq_true c)
  exact Int.ofNat.inj e
theorem way_ne {i k : Nat} (c : ¬ decide (V.int (i : Int) = V.int (k : Int)) = true) : i ≠ k := fun e => c (decide_eq_true (by rw [e]))
abbrev s_rr : Stmt := topS 34
abbrev N_rr : List Str := ["way", "one"]
theorem sc_rr : FnScope N_rr ["way", "one"] (defScope s_rr) := ⟨rfl, rfl, rfl, by decide +kernel, rfl, by decide +kernel, by decide +kernel⟩
theorem ok_rr {f : Addr} {fd : FuncData} {k : Nat} (T : Txt K mg C Fi Fm) (F : Fun K "_law_raise_refused" "_law_raise_refused" s_rr f fd) : FnOk P w K mg base (L2N.CX P w) (k + 1) f fd ["way", "one"] (spRR C 0 12 false) := by
  refine okN F sc_rr (fun vs H Q E h => ?_) (fun cdv A outer s H vs Q E hr h => ?_)
  · obtain ⟨i, one, far, rfl, _⟩ := h
    rfl
  · obtain ⟨i, one, far, rfl, _, hi, q⟩ := h
    refine ⟨_, (pss_cons (ps_if (pt_cmpR op_eq (pv 0) pe_int (nomark _)) (pss_one (L2N.ps_raise rfl (L2N.takes_of rfl rfl rfl rfl) (pmk_E (T.cls 0 (by decide)) it_0 bi_0 ⟨by decide, by decide⟩ hr (T.g 0 (by decide)) (pa_cons (pv 1) pa_nil)))) pss_nil)
      (pss_cons (ps_if (pt_cmpR op_eq (pv 0) pe_int (nomark _)) (pss_one (L2N.ps_raise rfl (L2N.takes_of rfl rfl rfl rfl) (pmk_E (T.cls 1 (by decide)) it_1 bi_1 ⟨by decide, by decide⟩ hr (T.g 1 (by decide)) (pa_cons (pv 1) pa_nil)))) pss_nil)
      (pss_cons (ps_if (pt_cmpR op_eq (pv 0) pe_int (nomark _)) (pss_one (L2N.ps_raise rfl (L2N.takes_of rfl rfl rfl rfl) (pmk_E (T.cls 2 (by decide)) it_2 bi_2 ⟨by decide, by decide⟩ hr (T.g 2 (by decide)) (pa_cons (pv 1) pa_nil)))) pss_nil)
      (pss_cons (ps_if (pt_cmpR op_eq (pv 0) pe_int (nomark _)) (pss_one (L2N.ps_raise rfl (L2N.takes_of rfl rfl rfl rfl) (pmk_E (T.cls 3 (by decide)) it_3 bi_3 ⟨by decide, by decide⟩ hr (T.g 3 (by decide)) (pa_cons (pv 1) pa_nil)))) pss_nil)
      (pss_cons (ps_if (pt_cmpR op_eq (pv 0) pe_int (nomark _)) (pss_one (L2N.ps_raise rfl (L2N.takes_of rfl rfl rfl rfl) (pmk_E (T.cls 4 (by decide)) it_4 bi_4 ⟨by decide, by decide⟩ hr (T.g 4 (by decide)) (pa_cons (pv 1) pa_nil)))) pss_nil)
      (pss_cons (ps_if (pt_cmpR op_eq (pv 0) pe_int (nomark _)) (pss_one (L2N.ps_raise rfl (L2N.takes_of rfl rfl rfl rfl) (pmk_E (T.cls 5 (by decide)) it_5 bi_5 ⟨by decide, by decide⟩ hr (T.g 5 (by decide)) (pa_cons (pv 1) pa_nil)))) pss_nil)
      (pss_cons (ps_if (pt_cmpR op_eq (pv 0) pe_int (nomark _)) (pss_one (L2N.ps_raise rfl (L2N.takes_of rfl rfl rfl rfl) (pmk_E (T.cls 6 (by decide)) it_6 bi_6 ⟨by decide, by decide⟩ hr (T.g 6 (by decide)) (pa_cons (pv 1) pa_nil)))) pss_nil)
      (pss_cons (ps_if (pt_cmpR op_eq (pv 0) pe_int (nomark _)) (pss_one (L2N.ps_raise rfl (L2N.takes_of rfl rfl rfl rfl) (pmk_E (T.cls 7 (by decide)) it_7 bi_7 ⟨by decide, by decide⟩ hr (T.g 7 (by decide)) (pa_cons (pv 1) pa_nil)))) pss_nil)
      (pss_cons (ps_if (pt_cmpR op_eq (pv 0) pe_int (nomark _)) (pss_one (L2N.ps_raise rfl (L2N.takes_of rfl rfl rfl rfl) (pmk_E (T.cls 8 (by decide)) it_8 bi_8 ⟨by decide, by decide⟩ hr (T.g 8 (by decide)) (pa_cons (pv 1) pa_nil)))) pss_nil)
      (pss_cons (ps_if (pt_cmpR op_eq (pv 0) pe_int (nomark _)) (pss_one (L2N.ps_raise rfl (L2N.takes_of rfl rfl rfl rfl) (pmk_E (T.cls 9 (by decide)) it_9 bi_9 ⟨by decide, by decide⟩ hr (T.g 9 (by decide)) (pa_cons (pv 1) pa_nil)))) pss_nil)
      (pss_cons (ps_if (pt_cmpR op_eq (pv 0) pe_int (nomark _)) (pss_one (L2N.ps_raise rfl (L2N.takes_of rfl rfl rfl rfl) (pmk_E (T.cls 10 (by decide)) it_10 bi_10 ⟨by decide, by decide⟩ hr (T.g 10 (by decide)) (pa_cons (pv 1) pa_nil)))) pss_nil)
        (pss_one (L2N.ps_raise rfl (L2N.takes_of rfl rfl rfl rfl) (pmk_E (T.cls 11 (by decide)) it_11 bi_11 ⟨by decide, by decide⟩ hr (T.g 11 (by decide)) (pa_cons (pv 1) pa_nil))))))))))))))), ?_⟩
    have step : ∀ (k : Nat) {A B : Prop}, (i = k → A) → (i ≠ k → B) → (if decide (V.int (i : Int) = V.int (k : Int)) = true then A else B) := fun k A B h1 h2 => ite2 (fun c => h1 (way_eq c)) (fun c => h2 (way_ne c))
    refine ⟨_, rfl, rfl, _, rfl, step 0 (fun e => by subst e; exact ⟨_, rfl, rfl, rfl, fun d hd => q d hd⟩) (fun n0 => ?_)⟩
    refine ⟨_, rfl, rfl, _, rfl, step 1 (fun e => by subst e; exact ⟨_, rfl, rfl, rfl, fun d hd => q d hd⟩) (fun n1 => ?_)⟩
    refine ⟨_, rfl, rfl, _, rfl, step 2 (fun e => by subst e; exact ⟨_, rfl, rfl, rfl, fun d hd => q d hd⟩) (fun n2 => ?_)⟩
    refine ⟨_, rfl, rfl, _, rfl, step 3 (fun e => by subst e; exact ⟨_, rfl, rfl, rfl, fun d hd => q d hd⟩) (fun n3 => ?_)⟩
    refine ⟨_, rfl, rfl, _, rfl, step 4 (fun e => by subst e; exact ⟨_, rfl, rfl, rfl, fun d hd => q d hd⟩) (fun n4 => ?_)⟩
    refine ⟨_, rfl, rfl, _, rfl, step 5 (fun e => by subst e; exact ⟨_, rfl, rfl, rfl, fun d hd => q d hd⟩) (fun n5 => ?_)⟩
    refine ⟨_, rfl, rfl, _, rfl, step 6 (fun e => by subst e; exact ⟨_, rfl, rfl, rfl, fun d hd => q d hd⟩) (fun n6 => ?_)⟩
    refine ⟨_, rfl, rfl, _, rfl, step 7 (fun e => by subst e; exact ⟨_, rfl, rfl, rfl, fun d hd => q d hd⟩) (fun n7 => ?_)⟩
    refine ⟨_, rfl, rfl, _, rfl, step 8 (fun e => by subst e; exact ⟨_, rfl, rfl, rfl, fun d hd => q d hd⟩) (fun n8 => ?_)⟩
    refine ⟨_, rfl, rfl, _, rfl, step 9 (fun e => by subst e; exact ⟨_, rfl, rfl, rfl, fun d hd => q d hd⟩) (fun n9 => ?_)⟩
    refine ⟨_, rfl, rfl, _, rfl, step 10 (fun e => by subst e; exact ⟨_, rfl, rfl, rfl, fun d hd => q d hd⟩) (fun n10 => ?_)⟩
    have e : i = 11 := by omega
    subst e
    exact ⟨_, rfl, rfl, rfl, fun d hd => q d hd⟩
abbrev s_ro : Stmt := topS 35
abbrev N_ro : List Str := ["way", "one", "far"]
theorem sc_ro : FnScope N_ro ["way", "one", "far"] (defScope s_ro) := ⟨rfl, rfl, rfl, by decide +kernel, rfl, by decide +kernel, by decide +kernel⟩
theorem ok_ro {f : Addr} {fd : FuncData} {k : Nat} (T : Txt K mg C Fi Fm) (F : Fun K "_law_raise_other" "_law_raise_other" s_ro f fd) : FnOk P w K mg base (L2N.CX P w) (k + 1) f fd ["way", "one", "far"] (spRR C 12 20 true) := by
  refine okN F sc_ro (fun vs H Q E h => ?_) (fun cdv A outer s H vs Q E hr h => ?_)
  · obtain ⟨i, one, far, rfl, _⟩ := h
    rfl
  · obtain ⟨i, one, far, rfl, lo, hi, q⟩ := h
    refine ⟨_, (pss_cons (ps_if (pt_cmpR op_eq (pv 0) pe_int (nomark _)) (pss_one (L2N.ps_raise rfl (L2N.takes_of rfl rfl rfl rfl) (pmk_E (T.cls 12 (by decide)) it_12 bi_12 ⟨by decide, by decide⟩ hr (T.g 12 (by decide)) (pa_cons (pv 1) pa_nil)))) pss_nil)
      (pss_cons (ps_if (pt_cmpR op_eq (pv 0) pe_int (nomark _)) (pss_one (L2N.ps_raise rfl (L2N.takes_of rfl rfl rfl rfl) (pmk_E (T.cls 13 (by decide)) it_13 bi_13 ⟨by decide, by decide⟩ hr (T.g 13 (by decide)) (pa_cons (pv 1) pa_nil)))) pss_nil)
      (pss_cons (ps_if (pt_cmpR op_eq (pv 0) pe_int (nomark _)) (pss_one (L2N.ps_raise rfl (L2N.takes_of rfl rfl rfl rfl) (pmk_E (T.cls 14 (by decide)) it_14 bi_14 ⟨by decide, by decide⟩ hr (T.g 14 (by decide)) (pa_cons (pv 1) pa_nil)))) pss_nil)
      (pss_cons (ps_if (pt_cmpR op_eq (pv 0) pe_int (nomark _)) (pss_one (L2N.ps_raise rfl (L2N.takes_of rfl rfl rfl rfl) (pmk_E (T.cls 15 (by decide)) it_15 bi_15 ⟨by decide, by decide⟩ hr (T.g 15 (by decide)) (pa_cons (pv 1) pa_nil)))) pss_nil)
      (pss_cons (ps_if (pt_cmpR op_eq (pv 0) pe_int (nomark _)) (pss_one (L2N.ps_raise rfl (L2N.takes_of rfl rfl rfl rfl) (pmk_E (T.cls 16 (by decide)) it_16 bi_16 ⟨by decide, by decide⟩ hr (T.g 16 (by decide)) (pa_cons (pv 1) pa_nil)))) pss_nil)
      (pss_cons (ps_if (pt_cmpR op_eq (pv 0) pe_int (nomark _)) (pss_one (L2N.ps_raise rfl (L2N.takes_of rfl rfl rfl rfl) (pmk_E (T.cls 17 (by decide)) it_17 bi_17 ⟨by decide, by decide⟩ hr (T.g 17 (by decide)) (pa_cons (pv 1) (pa_cons (pv 2) pa_nil))))) pss_nil)
      (pss_cons (ps_if (pt_cmpR op_eq (pv 0) pe_int (nomark _)) (pss_one (L2N.ps_raise rfl (L2N.takes_of rfl rfl rfl rfl) (pmk_E (T.cls 18 (by decide)) it_18 bi_18 ⟨by decide, by decide⟩ hr (T.g 18 (by decide)) (pa_cons (pv 1) pa_nil)))) pss_nil)
      (pss_one (L2N.ps_raise rfl (L2N.takes_of rfl rfl rfl rfl) (pmk_E (T.cls 19 (by decide)) it_19 bi_19 ⟨by decide, by decide⟩ hr (T.g 19 (by decide)) (pa_cons (pv 1) pa_nil))))))))))), ?_⟩
    have step : ∀ (k : Nat) {A B : Prop}, (i = k → A) → (i ≠ k → B) → (if decide (V.int (i : Int) = V.int (k : Int)) = true then A else B) := fun k A B h1 h2 => ite2 (fun c => h1 (way_eq c)) (fun c => h2 (way_ne c))
    refine ⟨_, rfl, rfl, _, rfl, step 12 (fun e => by subst e; exact ⟨_, rfl, rfl, rfl, fun d hd => q d hd⟩) (fun n12 => ?_)⟩
    refine ⟨_, rfl, rfl, _, rfl, step 13 (fun e => by subst e; exact ⟨_, rfl, rfl, rfl, fun d hd => q d hd⟩) (fun n13 => ?_)⟩
    refine ⟨_, rfl, rfl, _, rfl, step 14 (fun e => by subst e; exact ⟨_, rfl, rfl, rfl, fun d hd => q d hd⟩) (fun n14 => ?_)⟩
    refine ⟨_, rfl, rfl, _, rfl, step 15 (fun e => by subst e; exact ⟨_, rfl, rfl, rfl, fun d hd => q d hd⟩) (fun n15 => ?_)⟩
    refine ⟨_, rfl, rfl, _, rfl, step 16 (fun e => by subst e; exact ⟨_, rfl, rfl, rfl, fun d hd => q d hd⟩) (fun n16 => ?_)⟩
    refine ⟨_, rfl, rfl, _, rfl, step 17 (fun e => by subst e; exact ⟨_, rfl, _, rfl, rfl, rfl, fun d hd => q d hd⟩) (fun n17 => ?_)⟩
    refine ⟨_, rfl, rfl, _, rfl, step 18 (fun e => by subst e; exact ⟨_, rfl, rfl, rfl, fun d hd => q d hd⟩) (fun n18 => ?_)⟩
    have e : i = 19 := by omega
    subst e
    exact ⟨_, rfl, rfl, rfl, fun d hd => q d hd⟩
end
end L2.K1

/-! ### K1e -/
set_option Elab.async false
set_option linter.all false
set_option maxRecDepth 100000
set_option maxHeartbeats 4000000
namespace L2.K1
open PySem PySem.W PySem.Spec PyProof.Rows L2.Sl SlX
theorem mkG {H : Hp} {p : Addr} (o : HO) (n : H p = none) : ∃ G, G = upd H p o ∧ Same H G ∧ G p = some o := ⟨_, rfl, same_new n, upd_same⟩
/-- at e: an exception of the class i, made of these -/
structure Held (C : Nat → Addr) (i : Nat) (one far : V) (e : Addr) (H : Hp) : Prop where
  x : ∃ d, H e = some (exH (.ref (C i)) (some d) e) ∧ H d = some (.xd (fv i one far))
theorem Held.same {C : Nat → Addr} {i : Nat} {one far : V} {e : Addr} {H H2 : Hp} (h : Held C i one far e H) (s : Same H H2) : Held C i one far e H2 := by
  obtain ⟨d, a, b⟩ := h
  exact ⟨d, s _ _ a, s _ _ b⟩
def spRaised (C : Nat → Addr) : Sp := fun vs H Q _ => ∃ (i : Nat) (one far : V), vs = [.int i, one, far] ∧ i < 20 ∧ ∀ H2 p e, Same H H2 → H p = none → H2 p = some (.tup [.ref e, .str (famT (home i))]) → Held C i one far e H2 → Q (.ref p) H2
section
variable {P : Program} {w : World} {K : PySem.W.Frag} {mg : Str → Option Value} {base : Heap} {C Fi Fm : Nat → Addr}
abbrev s_rd : Stmt := topS 36
abbrev N_rd : List Str := ["way", "one", "far", "caught", "family", "e"]
theorem sc_rd : FnScope N_rd ["way", "one", "far"] (defScope s_rd) := ⟨rfl, rfl, rfl, by decide +kernel, rfl, by decide +kernel, by decide +kernel⟩
theorem ok_raised {f fR fO : Addr} {fd fdR fdO : FuncData} {k : Nat} (T : Txt K mg C Fi Fm) (F : Fun K "_law_raised" "_law_raised" s_rd f fd) (F_rr : Fun K "_law_raise_refused" "_law_raise_refused" s_rr fR fdR) (b_rr : Binds K fdR ["way", "one"] []) (g_rr : mg "_law_raise_refused" = some (.ref fR))
    (F_ro : Fun K "_law_raise_other" "_law_raise_other" s_ro fO fdO) (b_ro : Binds K fdO ["way", "one", "far"] []) (g_ro : mg "_law_raise_other" = some (.ref fO)) : FnOk P w K mg base CX0 (k + 2) f fd ["way", "one", "far"] (spRaised C) := by
  have G_rr : FnOk P w K mg base (L2N.CX P w) (k + 1) fR fdR ["way", "one"] (spRR C 0 12 false) := ok_rr T F_rr
  have G_ro : FnOk P w K mg base (L2N.CX P w) (k + 1) fO fdO ["way", "one", "far"] (spRR C 12 20 true) := ok_ro T F_ro
  refine F.ok sc_rd (fun vs H Q E h => ?_) (fun cdv A outer s H vs Q E hr h => ?_)
  · obtain ⟨i, one, far, rfl, _⟩ := h
    rfl
  · obtain ⟨i, one, far, rfl, hi, q⟩ := h
    refine ⟨_, (pss_cons (ps_asg (pe_tup (pa_cons pe_non (pa_cons pe_str pa_nil))) (pg_tup rfl (pgs_cons (pg_name (i := 3) sc_rd.nd rfl (.inl rfl)) (pgs_cons (pg_name (i := 4) sc_rd.nd rfl (.inl rfl)) pgs_nil))))
      (pss_cons (ps_try_keep rfl rfl sc_rd.nd rfl takesN0
          (fun W pn xe tk _ => (pss_one (ps_if (pt_cmpR op_lt (pv 0) pe_int (nomark _))
            (pss_one (ps_expr (pe_callS G_rr hr (by rfl) g_rr F_rr.kp b_rr (fun σ => L2N.passAt tk σ) (pa_cons (pv 0) (pa_cons (pv 1) pa_nil)))))
            (pss_one (ps_expr (pe_callS G_ro hr (by rfl) g_ro F_ro.kp b_ro (fun σ => L2N.passAt tk σ) (pa_cons (pv 0) (pa_cons (pv 1) (pa_cons (pv 2) pa_nil)))))))))
          (.cons (i := 5) ⟨rfl, by decide, .inl (T.gF 0 (by decide))⟩ rfl rfl (fun a oe cls d pn hz hf => (pss_one (ps_parH (i := 3) (j := 4) (hot_suite hz hf) sc_rd.nd rfl rfl (by decide) rfl rfl (pa_cons (pv 5) (pa_cons pe_str pa_nil)) (by rfl))))
          (.cons (i := 5) ⟨rfl, by decide, .inl (T.gF 1 (by decide))⟩ rfl rfl (fun a oe cls d pn hz hf => (pss_one (ps_parH (i := 3) (j := 4) (hot_suite hz hf) sc_rd.nd rfl rfl (by decide) rfl rfl (pa_cons (pv 5) (pa_cons pe_str pa_nil)) (by rfl))))
          (.cons (i := 5) ⟨rfl, by decide, .inl (T.gF 2 (by decide))⟩ rfl rfl (fun a oe cls d pn hz hf => (pss_one (ps_parH (i := 3) (j := 4) (hot_suite hz hf) sc_rd.nd rfl rfl (by decide) rfl rfl (pa_cons (pv 5) (pa_cons pe_str pa_nil)) (by rfl)))) .nil))))
      (pss_one (ps_ret (pe_tup (pa_cons (pv 3) (pa_cons (pv 4) pa_nil))))))), ?_⟩
    refine ⟨(show 2 ≤ sizeLine by decide), fun t0 h0 => ⟨t0, _, rfl, SqT.of upd_same, rfl, _, _, rfl, _, _, rfl, rfl, ?_⟩⟩
    have s0 : Same H (upd H t0 (.tup [V.non, V.str (Str.ofString "")])) := same_new h0
    generalize hG : upd H t0 (.tup [V.non, V.str (Str.ofString "")]) = G at s0
    have fin : ∀ d a (n : Nat), n = home i → G d = none → upd G d (.xd (fv i one far)) a = none → ∀ H2, H2 = upd (upd G d (.xd (fv i one far))) a (exH (.ref (C i)) (some d) a) →
        tRet (tTup (tCons (tVar 3) (tCons (tVar 4) tNil))) { nx := fun _ H' => Q V.non H', rt := Q } [some (.int i), some one, some far, some (.ref a), some (.str (famT n)), none] H2 := fun d a n en hd ha H2 e2 => by
      subst en
      refine ⟨_, rfl, _, rfl, (show 2 ≤ sizeLine by decide), fun p hp => ?_⟩
      have s1 : Same G (upd G d (.xd (fv i one far))) := same_new hd
      have s2 : Same (upd G d (.xd (fv i one far))) H2 := e2 ▸ same_new ha
      have s3 := same_new (o := .tup [.ref a, .str (famT (home i))]) hp
      exact q _ p a (s0.trans (s1.trans (s2.trans s3))) (s0.free (s1.free (s2.free hp))) upd_same ⟨d, s3 _ _ (by rw [e2]; exact upd_same), s3 _ _ (s2 _ _ upd_same)⟩
    have cl : ∀ d a n, G d = none → upd G d (.xd (fv i one far)) a = none → n = home i → tPar 3 4 (tCons (tVar 5) (tCons (tC (.str (famT n))) tNil)) (kept { nx := fun σ H' => tRet (tTup (tCons (tVar 3) (tCons (tVar 4) tNil))) { nx := fun _ H' => Q V.non H', rt := Q } σ H', rt := Q } a (.ref (C i)) (some d) 5)
        [some (.int i), some one, some far, some .non, some (.str ""), some (.ref a)] (upd G d (.xd (fv i one far))) := fun d a n hd ha en => ⟨_, rfl, _, _, rfl, fun _ => fin d a n en hd ha _ rfl⟩
    have wish : ∀ d, G d = none → wKeep K (fun _ _ _ _ => False) { nx := fun σ H' => tRet (tTup (tCons (tVar 3) (tCons (tVar 4) tNil))) { nx := fun _ H' => Q V.non H', rt := Q } σ H', rt := Q }
        [(Value.ref (Fm 0), 5, fun a cls d => tPar 3 4 (tCons (tVar 5) (tCons (tC (V.str (Str.ofString "refused"))) tNil))), (Value.ref (Fm 1), 5, fun a cls d => tPar 3 4 (tCons (tVar 5) (tCons (tC (V.str (Str.ofString "barred"))) tNil))),
          (Value.ref (Fm 2), 5, fun a cls d => tPar 3 4 (tCons (tVar 5) (tCons (tC (V.str (Str.ofString "beyond"))) tNil)))] (.ref (C i)) (some d) [some (.int i), some one, some far, some .non, some (.str ""), none] (upd G d (.xd (fv i one far))) := fun d hd => by
      refine ⟨_, T.fme i 0 hi (by decide), fun z a ha => cl d a 0 hd ha (of_decide_eq_true z).symm, fun z0 => ?_⟩
      refine ⟨_, T.fme i 1 hi (by decide), fun z a ha => cl d a 1 hd ha (of_decide_eq_true z).symm, fun z1 => ?_⟩
      refine ⟨_, T.fme i 2 hi (by decide), fun z a ha => cl d a 2 hd ha (of_decide_eq_true z).symm, fun z2 => ?_⟩
      have h0 := of_decide_eq_false z0
      have h1 := of_decide_eq_false z1
      have h2 := of_decide_eq_false z2
      unfold home at h0 h1 h2
      split at h0
      · exact h0 rfl
      · rename_i n12
        rw [if_neg n12] at h1 h2
        split at h1
        · exact h1 rfl
        · rename_i n18
          rw [if_neg n18] at h2
          exact h2 rfl
    refine ⟨_, rfl, _, _, rfl, rfl, _, rfl, ite2 (fun c => ?_) (fun c => ?_)⟩
    · have c1 := of_decide_eq_true c
      exact ⟨_, rfl, _, rfl, i, one, far, rfl, Nat.zero_le _, by omega, fun d hd => wish d hd⟩
    · have c1 : ¬ (i : Int) < 12 := fun z => c (decide_eq_true z)
      exact ⟨_, rfl, _, rfl, _, rfl, i, one, far, rfl, by omega, hi, fun d hd => wish d hd⟩
end
end L2.K1

/-! ### K1f -/
set_option Elab.async false
set_option linter.all false
set_option maxRecDepth 100000
set_option maxHeartbeats 8000000
namespace L2.K1
open PySem PySem.W PySem.Spec PyProof.Rows L2.Sl SlX
theorem rel_id {n : Nat} : ∀ (vs : List V) (us : List Value), Vals vs us → vs.length = n → Vals (id vs) (id us) := fun _ _ r _ => r
theorem rev_rel : ∀ {vs : List V} {us : List Value}, Vals vs us → Vals vs.reverse us.reverse
  | _, _, .nil => .nil
  | _, _, .cons h t => by
    rw [List.reverse_cons, List.reverse_cons]
    exact (rev_rel t).append (.cons h .nil)
theorem rel_rev {n : Nat} : ∀ (vs : List V) (us : List Value), Vals vs us → vs.length = n → Vals vs.reverse us.reverse := fun _ _ r _ => rev_rel r
/-- made so far: the i-th is of the class i -/
structure Acc (C : Nat → Addr) (one far : V) (H0 H : Hp) (es : List Addr) : Prop where
  s : Same H0 H
  h : ∀ i e, es[i]? = some e → Held C i one far e H
theorem Acc.snoc {C : Nat → Addr} {one far : V} {H0 H H2 : Hp} {es : List Addr} {e : Addr} (a : Acc C one far H0 H es) (s : Same H H2) (h : Held C es.length one far e H2) : Acc C one far H0 H2 (es ++ [e]) :=
  ⟨a.s.trans s, fun i x hx => by
    by_cases hi : i < es.length
    · rw [List.getElem?_append_left hi] at hx
      exact (a.h i x hx).same s
    · rw [List.getElem?_append_right (by omega)] at hx
      have z : i - es.length = 0 := by
        cases hj : i - es.length with
        | zero => rfl
        | succ j =>
          rw [hj] at hx
          simp at hx
      rw [z] at hx
      have e1 : e = x := Option.some.inj hx
      rw [← e1, show i = es.length by omega]
      exact h⟩
theorem Acc.same {C : Nat → Addr} {one far : V} {H0 H H2 : Hp} {es : List Addr} (a : Acc C one far H0 H es) (s : Same H H2) : Acc C one far H0 H2 es := ⟨a.s.trans s, fun i e h => (a.h i e h).same s⟩
theorem made1 {C : Nat → Addr} {i : Nat} {one far : V} {σ : L2.St} {H : Hp} {Q : VK} {gV : List V → List V} {ta : TA} (ht : ∀ R : List V → Hp → Prop, (∀ vs, gV vs = (if i = 17 then [one, far] else [one]) → vs.length = (fl i).length → (gV vs).length = (fl i).length → R vs H) → ta σ H R)
    (q : ∀ H2 a, Same H H2 → Held C i one far a H2 → Q (.ref a) H2) : tHold (tMkE (C i) (fl i) gV ta) σ H Q := by
  unfold tHold tMkE
  refine ht _ fun vs e l1 l2 => ⟨l2, l1, fun d hd a ha => ?_⟩
  have s1 : Same H (upd H d (.xd ((fl i).zip (gV vs)).reverse)) := same_new hd
  refine q _ a (s1.trans (same_new ha)) ⟨d, upd_same, ?_⟩
  have s2 := same_new (o := exH (.ref (C i)) (some d) a) ha
  refine s2 _ _ ?_
  rw [upd_same]
  unfold fv
  rw [e]
theorem upd_at {H : Hp} {p : Addr} {o : HO} (_ : H p = none) : upd H p o p = some o := upd_same
def spNames (C : Nat → Addr) : Sp := fun vs H Q _ => ∃ (one far : V), vs = [one, far] ∧ ∀ H2 p es, Acc C one far H H2 es → es.length = 20 → H2 p = some (.lst (es.map V.ref)) → Q (.ref p) H2
section
variable {P : Program} {w : World} {K : PySem.W.Frag} {mg : Str → Option Value} {base : Heap} {C Fi Fm : Nat → Addr}
abbrev s_bn : Stmt := topS 37
abbrev N_bn : List Str := ["one", "far", "some"]
theorem sc_bn : FnScope N_bn ["one", "far"] (defScope s_bn) := ⟨rfl, rfl, rfl, by decide +kernel, rfl, by decide +kernel, by decide +kernel⟩
theorem ok_names {f : Addr} {fd : FuncData} {k : Nat} (T : Txt K mg C Fi Fm) (F : Fun K "_law_by_names" "_law_by_names" s_bn f fd) : FnOk P w K mg base CX0 (k + 1) f fd ["one", "far"] (spNames C) := by
  refine F.ok sc_bn (fun vs H Q E h => ?_) (fun cdv A outer s H vs Q E hr h => ?_)
  · obtain ⟨one, far, rfl, _⟩ := h
    rfl
  · obtain ⟨one, far, rfl, q⟩ := h
    refine ⟨_, (pss_cons (ps_set (i := 2) sc_bn.nd rfl (.inl rfl) (pe_lst (pa_cons (pe_mkv (pmk_Ek1 (T.cls 0 (by decide)) it_0 bk_0 ⟨by decide, by decide⟩ hr (T.g 0 (by decide)) (pv 0))) (pa_cons (pe_mkv (pmk_Ek1 (T.cls 1 (by decide)) it_1 bk_1 ⟨by decide, by decide⟩ hr (T.g 1 (by decide)) (pv 0))) (pa_cons (pe_mkv (pmk_Ek1 (T.cls 2 (by decide)) it_2 bk_2 ⟨by decide, by decide⟩ hr (T.g 2 (by decide)) (pv 0))) (pa_cons (pe_mkv (pmk_Ek1 (T.cls 3 (by decide)) it_3 bk_3 ⟨by decide, by decide⟩ hr (T.g 3 (by decide)) (pv 0))) (pa_cons (pe_mkv (pmk_Ek1 (T.cls 4 (by decide)) it_4 bk_4 ⟨by decide, by decide⟩ hr (T.g 4 (by decide)) (pv 0))) pa_nil)))))))
      (pss_cons (ps_set (i := 2) sc_bn.nd rfl (.inl rfl) (pe_op op_cat (pv 2) (pe_lst (pa_cons (pe_mkv (pmk_Ek1 (T.cls 5 (by decide)) it_5 bk_5 ⟨by decide, by decide⟩ hr (T.g 5 (by decide)) (pv 0))) (pa_cons (pe_mkv (pmk_Ek1 (T.cls 6 (by decide)) it_6 bk_6 ⟨by decide, by decide⟩ hr (T.g 6 (by decide)) (pv 0))) (pa_cons (pe_mkv (pmk_Ek1 (T.cls 7 (by decide)) it_7 bk_7 ⟨by decide, by decide⟩ hr (T.g 7 (by decide)) (pv 0))) (pa_cons (pe_mkv (pmk_Ek1 (T.cls 8 (by decide)) it_8 bk_8 ⟨by decide, by decide⟩ hr (T.g 8 (by decide)) (pv 0))) (pa_cons (pe_mkv (pmk_Ek1 (T.cls 9 (by decide)) it_9 bk_9 ⟨by decide, by decide⟩ hr (T.g 9 (by decide)) (pv 0))) pa_nil))))))))
      (pss_cons (ps_set (i := 2) sc_bn.nd rfl (.inl rfl) (pe_op op_cat (pv 2) (pe_lst (pa_cons (pe_mkv (pmk_Ek1 (T.cls 10 (by decide)) it_10 bk_10 ⟨by decide, by decide⟩ hr (T.g 10 (by decide)) (pv 0))) (pa_cons (pe_mkv (pmk_Ek1 (T.cls 11 (by decide)) it_11 bk_11 ⟨by decide, by decide⟩ hr (T.g 11 (by decide)) (pv 0))) (pa_cons (pe_mkv (pmk_Ek1 (T.cls 12 (by decide)) it_12 bk_12 ⟨by decide, by decide⟩ hr (T.g 12 (by decide)) (pv 0))) (pa_cons (pe_mkv (pmk_Ek1 (T.cls 13 (by decide)) it_13 bk_13 ⟨by decide, by decide⟩ hr (T.g 13 (by decide)) (pv 0))) (pa_cons (pe_mkv (pmk_Ek1 (T.cls 14 (by decide)) it_14 bk_14 ⟨by decide, by decide⟩ hr (T.g 14 (by decide)) (pv 0))) pa_nil))))))))
      (pss_cons (ps_set (i := 2) sc_bn.nd rfl (.inl rfl) (pe_op op_cat (pv 2) (pe_lst (pa_cons (pe_mkv (pmk_Ek1 (T.cls 15 (by decide)) it_15 bk_15 ⟨by decide, by decide⟩ hr (T.g 15 (by decide)) (pv 0))) (pa_cons (pe_mkv (pmk_Ek1 (T.cls 16 (by decide)) it_16 bk_16 ⟨by decide, by decide⟩ hr (T.g 16 (by decide)) (pv 0))) (pa_cons (pe_mkv (pmk_Ek2 (gV := List.reverse) (gU := List.reverse) (T.cls 17 (by decide)) it_17 rel_rev bk_17 ⟨by decide, by decide⟩ hr (T.g 17 (by decide)) (pv 1) (pv 0))) pa_nil))))))
      (pss_one (ps_ret (pe_op op_cat (pv 2) (pe_lst (pa_cons (pe_mkv (pmk_Ek1 (T.cls 18 (by decide)) it_18 bk_18 ⟨by decide, by decide⟩ hr (T.g 18 (by decide)) (pv 0))) (pa_cons (pe_mkv (pmk_Ek1 (T.cls 19 (by decide)) it_19 bk_19 ⟨by decide, by decide⟩ hr (T.g 19 (by decide)) (pv 0))) pa_nil)))))))))), ?_⟩
    have acc : Acc C one far H H [] := ⟨Same.refl H, fun i e h => by simp at h⟩
    refine made1 (C := C) (i := 0) (gV := id) (ta := tCons (tVar 0) tNil) (one := one) (far := far) ?_ (fun H0 e0 s0 h0 => ?_)
    · exact fun R r => ⟨_, rfl, r _ rfl rfl rfl⟩
    replace acc := acc.snoc s0 h0
    simp only [List.nil_append, List.cons_append] at acc
    refine made1 (C := C) (i := 1) (gV := id) (ta := tCons (tVar 0) tNil) (one := one) (far := far) ?_ (fun H1 e1 s1 h1 => ?_)
    · exact fun R r => ⟨_, rfl, r _ rfl rfl rfl⟩
    replace acc := acc.snoc s1 h1
    simp only [List.nil_append, List.cons_append] at acc
    refine made1 (C := C) (i := 2) (gV := id) (ta := tCons (tVar 0) tNil) (one := one) (far := far) ?_ (fun H2 e2 s2 h2 => ?_)
    · exact fun R r => ⟨_, rfl, r _ rfl rfl rfl⟩
    replace acc := acc.snoc s2 h2
    simp only [List.nil_append, List.cons_append] at acc
    refine made1 (C := C) (i := 3) (gV := id) (ta := tCons (tVar 0) tNil) (one := one) (far := far) ?_ (fun H3 e3 s3 h3 => ?_)
    · exact fun R r => ⟨_, rfl, r _ rfl rfl rfl⟩
    replace acc := acc.snoc s3 h3
    simp only [List.nil_append, List.cons_append] at acc
    refine made1 (C := C) (i := 4) (gV := id) (ta := tCons (tVar 0) tNil) (one := one) (far := far) ?_ (fun H4 e4 s4 h4 => ?_)
    · exact fun R r => ⟨_, rfl, r _ rfl rfl rfl⟩
    replace acc := acc.snoc s4 h4
    simp only [List.nil_append, List.cons_append] at acc
    refine ⟨(show 5 ≤ sizeLine by decide), fun q0 nq0 => ?_⟩
    obtain ⟨G0, hG0, sG0, eG0⟩ := mkG (.lst [.ref e0, .ref e1, .ref e2, .ref e3, .ref e4]) nq0
    rw [← hG0]
    replace acc := acc.same sG0
    have pl := eG0
    refine ⟨_, rfl, ?_⟩
    refine made1 (C := C) (i := 5) (gV := id) (ta := tCons (tVar 0) tNil) (one := one) (far := far) ?_ (fun H5 e5 s5 h5 => ?_)
    · exact fun R r => ⟨_, rfl, r _ rfl rfl rfl⟩
    replace acc := acc.snoc s5 h5
    simp only [List.nil_append, List.cons_append] at acc
    replace pl := s5 _ _ pl
    refine made1 (C := C) (i := 6) (gV := id) (ta := tCons (tVar 0) tNil) (one := one) (far := far) ?_ (fun H6 e6 s6 h6 => ?_)
    · exact fun R r => ⟨_, rfl, r _ rfl rfl rfl⟩
    replace acc := acc.snoc s6 h6
    simp only [List.nil_append, List.cons_append] at acc
    replace pl := s6 _ _ pl
    refine made1 (C := C) (i := 7) (gV := id) (ta := tCons (tVar 0) tNil) (one := one) (far := far) ?_ (fun H7 e7 s7 h7 => ?_)
    · exact fun R r => ⟨_, rfl, r _ rfl rfl rfl⟩
    replace acc := acc.snoc s7 h7
    simp only [List.nil_append, List.cons_append] at acc
    replace pl := s7 _ _ pl
    refine made1 (C := C) (i := 8) (gV := id) (ta := tCons (tVar 0) tNil) (one := one) (far := far) ?_ (fun H8 e8 s8 h8 => ?_)
    · exact fun R r => ⟨_, rfl, r _ rfl rfl rfl⟩
    replace acc := acc.snoc s8 h8
    simp only [List.nil_append, List.cons_append] at acc
    replace pl := s8 _ _ pl
    refine made1 (C := C) (i := 9) (gV := id) (ta := tCons (tVar 0) tNil) (one := one) (far := far) ?_ (fun H9 e9 s9 h9 => ?_)
    · exact fun R r => ⟨_, rfl, r _ rfl rfl rfl⟩
    replace acc := acc.snoc s9 h9
    simp only [List.nil_append, List.cons_append] at acc
    replace pl := s9 _ _ pl
    refine ⟨(show 5 ≤ sizeLine by decide), fun q1 nq1 => ?_⟩
    obtain ⟨G1, hG1, sG1, eG1⟩ := mkG (.lst [.ref e5, .ref e6, .ref e7, .ref e8, .ref e9]) nq1
    rw [← hG1]
    replace acc := acc.same sG1
    replace pl := sG1 _ _ pl
    refine ⟨_, q1, _, _, rfl, rfl, pl, eG1, (show 5 + 5 ≤ sizeLine by decide), fun p1 np1 => ?_⟩
    obtain ⟨F1, hF1, sF1, eF1⟩ := mkG (.lst ([.ref e0, .ref e1, .ref e2, .ref e3, .ref e4] ++ [.ref e5, .ref e6, .ref e7, .ref e8, .ref e9])) np1
    rw [← hF1]
    replace acc := acc.same sF1
    replace pl : F1 p1 = some (.lst [.ref e0, .ref e1, .ref e2, .ref e3, .ref e4, .ref e5, .ref e6, .ref e7, .ref e8, .ref e9]) := eF1
    refine ⟨_, rfl, ?_⟩
    refine made1 (C := C) (i := 10) (gV := id) (ta := tCons (tVar 0) tNil) (one := one) (far := far) ?_ (fun H10 e10 s10 h10 => ?_)
    · exact fun R r => ⟨_, rfl, r _ rfl rfl rfl⟩
    replace acc := acc.snoc s10 h10
    simp only [List.nil_append, List.cons_append] at acc
    replace pl := s10 _ _ pl
    refine made1 (C := C) (i := 11) (gV := id) (ta := tCons (tVar 0) tNil) (one := one) (far := far) ?_ (fun H11 e11 s11 h11 => ?_)
    · exact fun R r => ⟨_, rfl, r _ rfl rfl rfl⟩
    replace acc := acc.snoc s11 h11
    simp only [List.nil_append, List.cons_append] at acc
    replace pl := s11 _ _ pl
    refine made1 (C := C) (i := 12) (gV := id) (ta := tCons (tVar 0) tNil) (one := one) (far := far) ?_ (fun H12 e12 s12 h12 => ?_)
    · exact fun R r => ⟨_, rfl, r _ rfl rfl rfl⟩
    replace acc := acc.snoc s12 h12
    simp only [List.nil_append, List.cons_append] at acc
    replace pl := s12 _ _ pl
    refine made1 (C := C) (i := 13) (gV := id) (ta := tCons (tVar 0) tNil) (one := one) (far := far) ?_ (fun H13 e13 s13 h13 => ?_)
    · exact fun R r => ⟨_, rfl, r _ rfl rfl rfl⟩
    replace acc := acc.snoc s13 h13
    simp only [List.nil_append, List.cons_append] at acc
    replace pl := s13 _ _ pl
    refine made1 (C := C) (i := 14) (gV := id) (ta := tCons (tVar 0) tNil) (one := one) (far := far) ?_ (fun H14 e14 s14 h14 => ?_)
    · exact fun R r => ⟨_, rfl, r _ rfl rfl rfl⟩
    replace acc := acc.snoc s14 h14
    simp only [List.nil_append, List.cons_append] at acc
    replace pl := s14 _ _ pl
    refine ⟨(show 5 ≤ sizeLine by decide), fun q2 nq2 => ?_⟩
    obtain ⟨G2, hG2, sG2, eG2⟩ := mkG (.lst [.ref e10, .ref e11, .ref e12, .ref e13, .ref e14]) nq2
    rw [← hG2]
    replace acc := acc.same sG2
    replace pl := sG2 _ _ pl
    refine ⟨_, q2, _, _, rfl, rfl, pl, eG2, (show 10 + 5 ≤ sizeLine by decide), fun p2 np2 => ?_⟩
    obtain ⟨F2, hF2, sF2, eF2⟩ := mkG (.lst ([.ref e0, .ref e1, .ref e2, .ref e3, .ref e4, .ref e5, .ref e6, .ref e7, .ref e8, .ref e9] ++ [.ref e10, .ref e11, .ref e12, .ref e13, .ref e14])) np2
    rw [← hF2]
    replace acc := acc.same sF2
    replace pl : F2 p2 = some (.lst [.ref e0, .ref e1, .ref e2, .ref e3, .ref e4, .ref e5, .ref e6, .ref e7, .ref e8, .ref e9, .ref e10, .ref e11, .ref e12, .ref e13, .ref e14]) := eF2
    refine ⟨_, rfl, ?_⟩
    refine made1 (C := C) (i := 15) (gV := id) (ta := tCons (tVar 0) tNil) (one := one) (far := far) ?_ (fun H15 e15 s15 h15 => ?_)
    · exact fun R r => ⟨_, rfl, r _ rfl rfl rfl⟩
    replace acc := acc.snoc s15 h15
    simp only [List.nil_append, List.cons_append] at acc
    replace pl := s15 _ _ pl
    refine made1 (C := C) (i := 16) (gV := id) (ta := tCons (tVar 0) tNil) (one := one) (far := far) ?_ (fun H16 e16 s16 h16 => ?_)
    · exact fun R r => ⟨_, rfl, r _ rfl rfl rfl⟩
    replace acc := acc.snoc s16 h16
    simp only [List.nil_append, List.cons_append] at acc
    replace pl := s16 _ _ pl
    refine made1 (C := C) (i := 17) (gV := List.reverse) (ta := tCons (tVar 1) (tCons (tVar 0) tNil)) (one := one) (far := far) ?_ (fun H17 e17 s17 h17 => ?_)
    · exact fun R r => ⟨_, rfl, _, rfl, r _ rfl rfl rfl⟩
    replace acc := acc.snoc s17 h17
    simp only [List.nil_append, List.cons_append] at acc
    replace pl := s17 _ _ pl
    refine ⟨(show 3 ≤ sizeLine by decide), fun q3 nq3 => ?_⟩
    obtain ⟨G3, hG3, sG3, eG3⟩ := mkG (.lst [.ref e15, .ref e16, .ref e17]) nq3
    rw [← hG3]
    replace acc := acc.same sG3
    replace pl := sG3 _ _ pl
    refine ⟨_, q3, _, _, rfl, rfl, pl, eG3, (show 15 + 3 ≤ sizeLine by decide), fun p3 np3 => ?_⟩
    obtain ⟨F3, hF3, sF3, eF3⟩ := mkG (.lst ([.ref e0, .ref e1, .ref e2, .ref e3, .ref e4, .ref e5, .ref e6, .ref e7, .ref e8, .ref e9, .ref e10, .ref e11, .ref e12, .ref e13, .ref e14] ++ [.ref e15, .ref e16, .ref e17])) np3
    rw [← hF3]
    replace acc := acc.same sF3
    replace pl : F3 p3 = some (.lst [.ref e0, .ref e1, .ref e2, .ref e3, .ref e4, .ref e5, .ref e6, .ref e7, .ref e8, .ref e9, .ref e10, .ref e11, .ref e12, .ref e13, .ref e14, .ref e15, .ref e16, .ref e17]) := eF3
    refine ⟨_, rfl, ?_⟩
    refine made1 (C := C) (i := 18) (gV := id) (ta := tCons (tVar 0) tNil) (one := one) (far := far) ?_ (fun H18 e18 s18 h18 => ?_)
    · exact fun R r => ⟨_, rfl, r _ rfl rfl rfl⟩
    replace acc := acc.snoc s18 h18
    simp only [List.nil_append, List.cons_append] at acc
    replace pl := s18 _ _ pl
    refine made1 (C := C) (i := 19) (gV := id) (ta := tCons (tVar 0) tNil) (one := one) (far := far) ?_ (fun H19 e19 s19 h19 => ?_)
    · exact fun R r => ⟨_, rfl, r _ rfl rfl rfl⟩
    replace acc := acc.snoc s19 h19
    simp only [List.nil_append, List.cons_append] at acc
    replace pl := s19 _ _ pl
    refine ⟨(show 2 ≤ sizeLine by decide), fun q4 nq4 => ?_⟩
    obtain ⟨G4, hG4, sG4, eG4⟩ := mkG (.lst [.ref e18, .ref e19]) nq4
    rw [← hG4]
    replace acc := acc.same sG4
    replace pl := sG4 _ _ pl
    refine ⟨_, q4, _, _, rfl, rfl, pl, eG4, (show 18 + 2 ≤ sizeLine by decide), fun p4 np4 => ?_⟩
    obtain ⟨F4, hF4, sF4, eF4⟩ := mkG (.lst ([.ref e0, .ref e1, .ref e2, .ref e3, .ref e4, .ref e5, .ref e6, .ref e7, .ref e8, .ref e9, .ref e10, .ref e11, .ref e12, .ref e13, .ref e14, .ref e15, .ref e16, .ref e17] ++ [.ref e18, .ref e19])) np4
    rw [← hF4]
    replace acc := acc.same sF4
    replace pl : F4 p4 = some (.lst [.ref e0, .ref e1, .ref e2, .ref e3, .ref e4, .ref e5, .ref e6, .ref e7, .ref e8, .ref e9, .ref e10, .ref e11, .ref e12, .ref e13, .ref e14, .ref e15, .ref e16, .ref e17, .ref e18, .ref e19]) := eF4
    exact q _ _ [e0, e1, e2, e3, e4, e5, e6, e7, e8, e9, e10, e11, e12, e13, e14, e15, e16, e17, e18, e19] acc rfl pl
end
end L2.K1

/-! ### K1g -/
set_option Elab.async false
set_option linter.all false
set_option maxRecDepth 100000
set_option maxHeartbeats 8000000
namespace L2.K1
open PySem PySem.W PySem.Spec PyProof.Rows L2.Sl SlX
def spKinds (C : Nat → Addr) : Sp := fun vs H Q _ => ∃ (i : Nat) (one far : V) (e : Addr), vs = [.ref e] ∧ i < 20 ∧ Held C i one far e H ∧ ∀ H2 p, Same H H2 → H2 p = some (.lst [.int i]) → Q (.ref p) H2
section
variable {P : Program} {w : World} {K : PySem.W.Frag} {mg : Str → Option Value} {base : Heap} {C Fi Fm : Nat → Addr}
theorem isi {i j : Nat} {one far : V} {e : Addr} {H : Hp} {Q : VK} (T : Txt K mg C Fi Fm) (hi : i < 20) (h : Held C i one far e H) (hj : j < 20) (q : Q (.bl (decide (i = j))) H) : rIsH K [.ref e, .ref (C j)] H Q := by
  obtain ⟨d, ea, ed⟩ := h
  exact ⟨e, C i, d, _, _, _, _, rfl, ea, ed, T.xr i hi, .own _, T.mat i j hi hj, q⟩
theorem isif {i j : Nat} {one far : V} {e : Addr} {H : Hp} {Q : VK} (T : Txt K mg C Fi Fm) (hi : i < 20) (h : Held C i one far e H) (hj : j < 3) (q : Q (.bl (decide (home i = j))) H) : rIsH K [.ref e, .ref (Fm j)] H Q := by
  obtain ⟨d, ea, ed⟩ := h
  exact ⟨e, C i, d, _, _, _, _, rfl, ea, ed, T.xr i hi, .own _, T.fmk i j hi hj, q⟩
theorem isib {i : Nat} (j : Nat) {one far : V} {e : Addr} {H : Hp} {Q : VK} (T : Txt K mg C Fi Fm) (hi : i < 20) (h : Held C i one far e H) (hj : j < 7) (q : Q (.bl (decide (home i = j))) H) : rIsH K [.ref e, .ty (["ValueError", "LookupError", "ArithmeticError", "KeyError", "IndexError", "ZeroDivisionError", "OverflowError"].getD j "")] H Q := by
  obtain ⟨d, ea, ed⟩ := h
  exact ⟨e, C i, d, _, _, _, _, rfl, ea, ed, T.xr i hi, .ty _, T.blt i j hi hj, q⟩
abbrev s_kd : Stmt := topS 38
abbrev N_kd : List Str := ["e", "found", "k", "is_so"]
theorem sc_kd : FnScope N_kd ["e"] (defScope s_kd) := ⟨rfl, rfl, rfl, by decide +kernel, rfl, by decide +kernel, by decide +kernel⟩
theorem ok_kinds {f : Addr} {fd : FuncData} {k : Nat} (T : Txt K mg C Fi Fm) (F : Fun K "_law_kinds" "_law_kinds" s_kd f fd) (n_isinstance : mg "isinstance" = none) (n_enumerate : mg "enumerate" = none) : FnOk P w K mg base CX0 (k + 1) f fd ["e"] (spKinds C) := by
  refine F.ok sc_kd (fun vs H Q E h => ?_) (fun cdv A outer s H vs Q E hr h => ?_)
  · obtain ⟨i, one, far, e, rfl, _⟩ := h
    rfl
  · obtain ⟨i, one, far, e, rfl, hi, he, q⟩ := h
    refine ⟨_, (pss_cons (ps_set (i := 1) sc_kd.nd rfl (.inl rfl) (pe_lst (pa_cons (pe_callB call_isH (by rfl) n_isinstance (by decide +kernel) (pa_cons (pv 0) (pa_cons (pe_glob (v := .ref (C 0)) rfl (T.g 0 (by decide)) rfl) pa_nil))) (pa_cons (pe_callB call_isH (by rfl) n_isinstance (by decide +kernel) (pa_cons (pv 0) (pa_cons (pe_glob (v := .ref (C 1)) rfl (T.g 1 (by decide)) rfl) pa_nil))) (pa_cons (pe_callB call_isH (by rfl) n_isinstance (by decide +kernel) (pa_cons (pv 0) (pa_cons (pe_glob (v := .ref (C 2)) rfl (T.g 2 (by decide)) rfl) pa_nil))) (pa_cons (pe_callB call_isH (by rfl) n_isinstance (by decide +kernel) (pa_cons (pv 0) (pa_cons (pe_glob (v := .ref (C 3)) rfl (T.g 3 (by decide)) rfl) pa_nil))) pa_nil))))))
      (pss_cons (ps_set (i := 1) sc_kd.nd rfl (.inl rfl) (pe_op op_cat (pv 1) (pe_lst (pa_cons (pe_callB call_isH (by rfl) n_isinstance (by decide +kernel) (pa_cons (pv 0) (pa_cons (pe_glob (v := .ref (C 4)) rfl (T.g 4 (by decide)) rfl) pa_nil))) (pa_cons (pe_callB call_isH (by rfl) n_isinstance (by decide +kernel) (pa_cons (pv 0) (pa_cons (pe_glob (v := .ref (C 5)) rfl (T.g 5 (by decide)) rfl) pa_nil))) (pa_cons (pe_callB call_isH (by rfl) n_isinstance (by decide +kernel) (pa_cons (pv 0) (pa_cons (pe_glob (v := .ref (C 6)) rfl (T.g 6 (by decide)) rfl) pa_nil))) (pa_cons (pe_callB call_isH (by rfl) n_isinstance (by decide +kernel) (pa_cons (pv 0) (pa_cons (pe_glob (v := .ref (C 7)) rfl (T.g 7 (by decide)) rfl) pa_nil))) pa_nil)))))))
      (pss_cons (ps_set (i := 1) sc_kd.nd rfl (.inl rfl) (pe_op op_cat (pv 1) (pe_lst (pa_cons (pe_callB call_isH (by rfl) n_isinstance (by decide +kernel) (pa_cons (pv 0) (pa_cons (pe_glob (v := .ref (C 8)) rfl (T.g 8 (by decide)) rfl) pa_nil))) (pa_cons (pe_callB call_isH (by rfl) n_isinstance (by decide +kernel) (pa_cons (pv 0) (pa_cons (pe_glob (v := .ref (C 9)) rfl (T.g 9 (by decide)) rfl) pa_nil))) (pa_cons (pe_callB call_isH (by rfl) n_isinstance (by decide +kernel) (pa_cons (pv 0) (pa_cons (pe_glob (v := .ref (C 10)) rfl (T.g 10 (by decide)) rfl) pa_nil))) pa_nil))))))
      (pss_cons (ps_set (i := 1) sc_kd.nd rfl (.inl rfl) (pe_op op_cat (pv 1) (pe_lst (pa_cons (pe_callB call_isH (by rfl) n_isinstance (by decide +kernel) (pa_cons (pv 0) (pa_cons (pe_glob (v := .ref (C 11)) rfl (T.g 11 (by decide)) rfl) pa_nil))) (pa_cons (pe_callB call_isH (by rfl) n_isinstance (by decide +kernel) (pa_cons (pv 0) (pa_cons (pe_glob (v := .ref (C 12)) rfl (T.g 12 (by decide)) rfl) pa_nil))) (pa_cons (pe_callB call_isH (by rfl) n_isinstance (by decide +kernel) (pa_cons (pv 0) (pa_cons (pe_glob (v := .ref (C 13)) rfl (T.g 13 (by decide)) rfl) pa_nil))) (pa_cons (pe_callB call_isH (by rfl) n_isinstance (by decide +kernel) (pa_cons (pv 0) (pa_cons (pe_glob (v := .ref (C 14)) rfl (T.g 14 (by decide)) rfl) pa_nil))) pa_nil)))))))
      (pss_cons (ps_set (i := 1) sc_kd.nd rfl (.inl rfl) (pe_op op_cat (pv 1) (pe_lst (pa_cons (pe_callB call_isH (by rfl) n_isinstance (by decide +kernel) (pa_cons (pv 0) (pa_cons (pe_glob (v := .ref (C 15)) rfl (T.g 15 (by decide)) rfl) pa_nil))) pa_nil))))
      (pss_cons (ps_set (i := 1) sc_kd.nd rfl (.inl rfl) (pe_op op_cat (pv 1) (pe_lst (pa_cons (pe_callB call_isH (by rfl) n_isinstance (by decide +kernel) (pa_cons (pv 0) (pa_cons (pe_glob (v := .ref (C 16)) rfl (T.g 16 (by decide)) rfl) pa_nil))) (pa_cons (pe_callB call_isH (by rfl) n_isinstance (by decide +kernel) (pa_cons (pv 0) (pa_cons (pe_glob (v := .ref (C 17)) rfl (T.g 17 (by decide)) rfl) pa_nil))) (pa_cons (pe_callB call_isH (by rfl) n_isinstance (by decide +kernel) (pa_cons (pv 0) (pa_cons (pe_glob (v := .ref (C 18)) rfl (T.g 18 (by decide)) rfl) pa_nil))) (pa_cons (pe_callB call_isH (by rfl) n_isinstance (by decide +kernel) (pa_cons (pv 0) (pa_cons (pe_glob (v := .ref (C 19)) rfl (T.g 19 (by decide)) rfl) pa_nil))) pa_nil)))))))
      (pss_one (ps_ret (pe_lc (own := [("k", 2), ("is_so", 3)]) (g := gTup K 2 (gCons (gName 2) (gCons (gName 3) gNil))) (by rfl) sc_kd.nd (pi_enum (by rfl) n_enumerate (pa_cons (pv 1) pa_nil)) (blkOk_by (own := [("k", 2), ("is_so", 3)]) (N := N_kd) (sc := defScope s_kd) (by decide +kernel)) (fun _ _ _ _ _ => pg_tup rfl (pgs_cons (pg_name (i := 2) sc_kd.nd rfl (.inl rfl)) (pgs_cons (pg_name (i := 3) sc_kd.nd rfl (.inl rfl)) pgs_nil))) (fun _ _ _ _ _ => (pts_one (pt_val (pv 3)))) (fun _ _ _ _ _ => (pv 2))))))))))), ?_⟩
    have S : Same H H := Same.refl H
    obtain ⟨d, ea, ed⟩ := he
    refine ⟨_, rfl, e, C i, d, _, _, _, _, rfl, S _ _ ea, S _ _ ed, T.xr i hi, .own _, T.mat i 0 hi (by decide), ?_⟩
    refine ⟨_, rfl, e, C i, d, _, _, _, _, rfl, S _ _ ea, S _ _ ed, T.xr i hi, .own _, T.mat i 1 hi (by decide), ?_⟩
    refine ⟨_, rfl, e, C i, d, _, _, _, _, rfl, S _ _ ea, S _ _ ed, T.xr i hi, .own _, T.mat i 2 hi (by decide), ?_⟩
    refine ⟨_, rfl, e, C i, d, _, _, _, _, rfl, S _ _ ea, S _ _ ed, T.xr i hi, .own _, T.mat i 3 hi (by decide), ?_⟩
    refine ⟨(show 4 ≤ sizeLine by decide), fun q0 nq0 => ?_⟩
    obtain ⟨G0, hG0, sG0, eG0⟩ := mkG (.lst [.bl (decide (i = 0)), .bl (decide (i = 1)), .bl (decide (i = 2)), .bl (decide (i = 3))]) nq0
    rw [← hG0]
    replace S := S.trans sG0
    have pl := eG0
    refine ⟨_, rfl, ?_⟩
    refine ⟨_, rfl, e, C i, d, _, _, _, _, rfl, S _ _ ea, S _ _ ed, T.xr i hi, .own _, T.mat i 4 hi (by decide), ?_⟩
    refine ⟨_, rfl, e, C i, d, _, _, _, _, rfl, S _ _ ea, S _ _ ed, T.xr i hi, .own _, T.mat i 5 hi (by decide), ?_⟩
    refine ⟨_, rfl, e, C i, d, _, _, _, _, rfl, S _ _ ea, S _ _ ed, T.xr i hi, .own _, T.mat i 6 hi (by decide), ?_⟩
    refine ⟨_, rfl, e, C i, d, _, _, _, _, rfl, S _ _ ea, S _ _ ed, T.xr i hi, .own _, T.mat i 7 hi (by decide), ?_⟩
    refine ⟨(show 4 ≤ sizeLine by decide), fun q1 nq1 => ?_⟩
    obtain ⟨G1, hG1, sG1, eG1⟩ := mkG (.lst [.bl (decide (i = 4)), .bl (decide (i = 5)), .bl (decide (i = 6)), .bl (decide (i = 7))]) nq1
    rw [← hG1]
    replace S := S.trans sG1
    replace pl := sG1 _ _ pl
    refine ⟨_, q1, _, _, rfl, rfl, pl, eG1, (show 4 + 4 ≤ sizeLine by decide), fun p1 np1 => ?_⟩
    obtain ⟨F1, hF1, sF1, eF1⟩ := mkG (.lst ([.bl (decide (i = 0)), .bl (decide (i = 1)), .bl (decide (i = 2)), .bl (decide (i = 3))] ++ [.bl (decide (i = 4)), .bl (decide (i = 5)), .bl (decide (i = 6)), .bl (decide (i = 7))])) np1
    rw [← hF1]
    replace S := S.trans sF1
    replace pl : F1 p1 = some (.lst [.bl (decide (i = 0)), .bl (decide (i = 1)), .bl (decide (i = 2)), .bl (decide (i = 3)), .bl (decide (i = 4)), .bl (decide (i = 5)), .bl (decide (i = 6)), .bl (decide (i = 7))]) := eF1
    refine ⟨_, rfl, ?_⟩
    refine ⟨_, rfl, e, C i, d, _, _, _, _, rfl, S _ _ ea, S _ _ ed, T.xr i hi, .own _, T.mat i 8 hi (by decide), ?_⟩
    refine ⟨_, rfl, e, C i, d, _, _, _, _, rfl, S _ _ ea, S _ _ ed, T.xr i hi, .own _, T.mat i 9 hi (by decide), ?_⟩
    refine ⟨_, rfl, e, C i, d, _, _, _, _, rfl, S _ _ ea, S _ _ ed, T.xr i hi, .own _, T.mat i 10 hi (by decide), ?_⟩
    refine ⟨(show 3 ≤ sizeLine by decide), fun q2 nq2 => ?_⟩
    obtain ⟨G2, hG2, sG2, eG2⟩ := mkG (.lst [.bl (decide (i = 8)), .bl (decide (i = 9)), .bl (decide (i = 10))]) nq2
    rw [← hG2]
    replace S := S.trans sG2
    replace pl := sG2 _ _ pl
    refine ⟨_, q2, _, _, rfl, rfl, pl, eG2, (show 8 + 3 ≤ sizeLine by decide), fun p2 np2 => ?_⟩
    obtain ⟨F2, hF2, sF2, eF2⟩ := mkG (.lst ([.bl (decide (i = 0)), .bl (decide (i = 1)), .bl (decide (i = 2)), .bl (decide (i = 3)), .bl (decide (i = 4)), .bl (decide (i = 5)), .bl (decide (i = 6)), .bl (decide (i = 7))] ++ [.bl (decide (i = 8)), .bl (decide (i = 9)), .bl (decide (i = 10))])) np2
    rw [← hF2]
    replace S := S.trans sF2
    replace pl : F2 p2 = some (.lst [.bl (decide (i = 0)), .bl (decide (i = 1)), .bl (decide (i = 2)), .bl (decide (i = 3)), .bl (decide (i = 4)), .bl (decide (i = 5)), .bl (decide (i = 6)), .bl (decide (i = 7)), .bl (decide (i = 8)), .bl (decide (i = 9)), .bl (decide (i = 10))]) := eF2
    refine ⟨_, rfl, ?_⟩
    refine ⟨_, rfl, e, C i, d, _, _, _, _, rfl, S _ _ ea, S _ _ ed, T.xr i hi, .own _, T.mat i 11 hi (by decide), ?_⟩
    refine ⟨_, rfl, e, C i, d, _, _, _, _, rfl, S _ _ ea, S _ _ ed, T.xr i hi, .own _, T.mat i 12 hi (by decide), ?_⟩
    refine ⟨_, rfl, e, C i, d, _, _, _, _, rfl, S _ _ ea, S _ _ ed, T.xr i hi, .own _, T.mat i 13 hi (by decide), ?_⟩
    refine ⟨_, rfl, e, C i, d, _, _, _, _, rfl, S _ _ ea, S _ _ ed, T.xr i hi, .own _, T.mat i 14 hi (by decide), ?_⟩
    refine ⟨(show 4 ≤ sizeLine by decide), fun q3 nq3 => ?_⟩
    obtain ⟨G3, hG3, sG3, eG3⟩ := mkG (.lst [.bl (decide (i = 11)), .bl (decide (i = 12)), .bl (decide (i = 13)), .bl (decide (i = 14))]) nq3
    rw [← hG3]
    replace S := S.trans sG3
    replace pl := sG3 _ _ pl
    refine ⟨_, q3, _, _, rfl, rfl, pl, eG3, (show 11 + 4 ≤ sizeLine by decide), fun p3 np3 => ?_⟩
    obtain ⟨F3, hF3, sF3, eF3⟩ := mkG (.lst ([.bl (decide (i = 0)), .bl (decide (i = 1)), .bl (decide (i = 2)), .bl (decide (i = 3)), .bl (decide (i = 4)), .bl (decide (i = 5)), .bl (decide (i = 6)), .bl (decide (i = 7)), .bl (decide (i = 8)), .bl (decide (i = 9)), .bl (decide (i = 10))] ++ [.bl (decide (i = 11)), .bl (decide (i = 12)), .bl (decide (i = 13)), .bl (decide (i = 14))])) np3
    rw [← hF3]
    replace S := S.trans sF3
    replace pl : F3 p3 = some (.lst [.bl (decide (i = 0)), .bl (decide (i = 1)), .bl (decide (i = 2)), .bl (decide (i = 3)), .bl (decide (i = 4)), .bl (decide (i = 5)), .bl (decide (i = 6)), .bl (decide (i = 7)), .bl (decide (i = 8)), .bl (decide (i = 9)), .bl (decide (i = 10)), .bl (decide (i = 11)), .bl (decide (i = 12)), .bl (decide (i = 13)), .bl (decide (i = 14))]) := eF3
    refine ⟨_, rfl, ?_⟩
    refine ⟨_, rfl, e, C i, d, _, _, _, _, rfl, S _ _ ea, S _ _ ed, T.xr i hi, .own _, T.mat i 15 hi (by decide), ?_⟩
    refine ⟨(show 1 ≤ sizeLine by decide), fun q4 nq4 => ?_⟩
    obtain ⟨G4, hG4, sG4, eG4⟩ := mkG (.lst [.bl (decide (i = 15))]) nq4
    rw [← hG4]
    replace S := S.trans sG4
    replace pl := sG4 _ _ pl
    refine ⟨_, q4, _, _, rfl, rfl, pl, eG4, (show 15 + 1 ≤ sizeLine by decide), fun p4 np4 => ?_⟩
    obtain ⟨F4, hF4, sF4, eF4⟩ := mkG (.lst ([.bl (decide (i = 0)), .bl (decide (i = 1)), .bl (decide (i = 2)), .bl (decide (i = 3)), .bl (decide (i = 4)), .bl (decide (i = 5)), .bl (decide (i = 6)), .bl (decide (i = 7)), .bl (decide (i = 8)), .bl (decide (i = 9)), .bl (decide (i = 10)), .bl (decide (i = 11)), .bl (decide (i = 12)), .bl (decide (i = 13)), .bl (decide (i = 14))] ++ [.bl (decide (i = 15))])) np4
    rw [← hF4]
    replace S := S.trans sF4
    replace pl : F4 p4 = some (.lst [.bl (decide (i = 0)), .bl (decide (i = 1)), .bl (decide (i = 2)), .bl (decide (i = 3)), .bl (decide (i = 4)), .bl (decide (i = 5)), .bl (decide (i = 6)), .bl (decide (i = 7)), .bl (decide (i = 8)), .bl (decide (i = 9)), .bl (decide (i = 10)), .bl (decide (i = 11)), .bl (decide (i = 12)), .bl (decide (i = 13)), .bl (decide (i = 14)), .bl (decide (i = 15))]) := eF4
    refine ⟨_, rfl, ?_⟩
    refine ⟨_, rfl, e, C i, d, _, _, _, _, rfl, S _ _ ea, S _ _ ed, T.xr i hi, .own _, T.mat i 16 hi (by decide), ?_⟩
    refine ⟨_, rfl, e, C i, d, _, _, _, _, rfl, S _ _ ea, S _ _ ed, T.xr i hi, .own _, T.mat i 17 hi (by decide), ?_⟩
    refine ⟨_, rfl, e, C i, d, _, _, _, _, rfl, S _ _ ea, S _ _ ed, T.xr i hi, .own _, T.mat i 18 hi (by decide), ?_⟩
    refine ⟨_, rfl, e, C i, d, _, _, _, _, rfl, S _ _ ea, S _ _ ed, T.xr i hi, .own _, T.mat i 19 hi (by decide), ?_⟩
    refine ⟨(show 4 ≤ sizeLine by decide), fun q5 nq5 => ?_⟩
    obtain ⟨G5, hG5, sG5, eG5⟩ := mkG (.lst [.bl (decide (i = 16)), .bl (decide (i = 17)), .bl (decide (i = 18)), .bl (decide (i = 19))]) nq5
    rw [← hG5]
    replace S := S.trans sG5
    replace pl := sG5 _ _ pl
    refine ⟨_, q5, _, _, rfl, rfl, pl, eG5, (show 16 + 4 ≤ sizeLine by decide), fun p5 np5 => ?_⟩
    obtain ⟨F5, hF5, sF5, eF5⟩ := mkG (.lst ([.bl (decide (i = 0)), .bl (decide (i = 1)), .bl (decide (i = 2)), .bl (decide (i = 3)), .bl (decide (i = 4)), .bl (decide (i = 5)), .bl (decide (i = 6)), .bl (decide (i = 7)), .bl (decide (i = 8)), .bl (decide (i = 9)), .bl (decide (i = 10)), .bl (decide (i = 11)), .bl (decide (i = 12)), .bl (decide (i = 13)), .bl (decide (i = 14)), .bl (decide (i = 15))] ++ [.bl (decide (i = 16)), .bl (decide (i = 17)), .bl (decide (i = 18)), .bl (decide (i = 19))])) np5
    rw [← hF5]
    replace S := S.trans sF5
    replace pl : F5 p5 = some (.lst [.bl (decide (i = 0)), .bl (decide (i = 1)), .bl (decide (i = 2)), .bl (decide (i = 3)), .bl (decide (i = 4)), .bl (decide (i = 5)), .bl (decide (i = 6)), .bl (decide (i = 7)), .bl (decide (i = 8)), .bl (decide (i = 9)), .bl (decide (i = 10)), .bl (decide (i = 11)), .bl (decide (i = 12)), .bl (decide (i = 13)), .bl (decide (i = 14)), .bl (decide (i = 15)), .bl (decide (i = 16)), .bl (decide (i = 17)), .bl (decide (i = 18)), .bl (decide (i = 19))]) := eF5
    refine ⟨_, rfl, _, _, rfl, SqL.of pl, fun D nD => ?_⟩
    have e20 : (([.bl (decide (i = 0)), .bl (decide (i = 1)), .bl (decide (i = 2)), .bl (decide (i = 3)), .bl (decide (i = 4)), .bl (decide (i = 5)), .bl (decide (i = 6)), .bl (decide (i = 7)), .bl (decide (i = 8)), .bl (decide (i = 9)), .bl (decide (i = 10)), .bl (decide (i = 11)), .bl (decide (i = 12)), .bl (decide (i = 13)), .bl (decide (i = 14)), .bl (decide (i = 15)), .bl (decide (i = 16)), .bl (decide (i = 17)), .bl (decide (i = 18)), .bl (decide (i = 19))] : List V)) = (List.range 20).map fun j => .bl (decide (i = j)) := rfl
    generalize hL : ([.bl (decide (i = 0)), .bl (decide (i = 1)), .bl (decide (i = 2)), .bl (decide (i = 3)), .bl (decide (i = 4)), .bl (decide (i = 5)), .bl (decide (i = 6)), .bl (decide (i = 7)), .bl (decide (i = 8)), .bl (decide (i = 9)), .bl (decide (i = 10)), .bl (decide (i = 11)), .bl (decide (i = 12)), .bl (decide (i = 13)), .bl (decide (i = 14)), .bl (decide (i = 15)), .bl (decide (i = 16)), .bl (decide (i = 17)), .bl (decide (i = 18)), .bl (decide (i = 19))] : List V) = L at pl e20
    have len20 : L.length = 20 := by rw [e20, List.length_map, List.length_range]
    refine lc_it (walk_enum (K := K) (a := p5) (xs := L)) (fun j H3 => Same H H3 ∧ H3 p5 = some (.lst L) ∧ H3 D = some (.lst (if i < j then [.int i] else []))) ⟨S.trans (same_new nD), same_new nD _ _ pl, upd_same⟩ (fun _ _ _ h => SqL.of h.2.1) (fun j x H3 H4 hj hP hY => ?_) (fun H3 hP => ?_)
    · obtain ⟨s3, l3, d3⟩ := hP
      obtain ⟨T1, x1, x2, rfl, nT, rfl, y1, y2⟩ := hY
      have ex1 : x1 = .int j := (Option.some.inj y1).symm
      have hj20 : j < 20 := by omega
      have ex2 : x2 = .bl (decide (i = j)) := by
        have y3 : L[j]? = some x2 := y2
        rw [e20, List.getElem?_map, List.getElem?_range hj20] at y3
        exact (Option.some.inj y3).symm
      subst ex1
      subst ex2
      have sT := same_new (o := .tup [.int (j : Nat), .bl (decide (i = j))]) nT
      refine ⟨T1, _, rfl, SqT.of upd_same, rfl, _, _, rfl, _, _, rfl, rfl, rfl, _, rfl, _, rfl, ite2 (fun c => ?_) (fun c => ?_)⟩
      · have c1 : i = j := of_decide_eq_true c
        refine ⟨_, rfl, _, sT _ _ d3, ?_, same_put (s3.trans sT) (S.free nD), ?_, ?_⟩
        · rw [if_neg (by omega)]
          exact (by decide : 0 < sizeLine)
        · rw [upd_ne (ne_of_none pl nD)]
          exact sT _ _ l3
        · rw [upd_same, if_neg (by omega), if_pos (by omega), c1]
          rfl
      · have c1 : ¬ i = j := fun z => c (decide_eq_true z)
        refine ⟨s3.trans sT, sT _ _ l3, ?_⟩
        rw [sT _ _ d3]
        by_cases z : i < j
        · rw [if_pos z, if_pos (by omega)]
        · rw [if_neg z, if_neg (by omega)]
    · obtain ⟨s3, l3, d3⟩ := hP
      rw [len20, if_pos hi] at d3
      exact q _ _ s3 d3
end
end L2.K1

/-! ### K1h -/
set_option Elab.async false
set_option linter.all false
set_option maxRecDepth 100000
set_option maxHeartbeats 8000000
namespace L2.K1
open PySem PySem.W PySem.Spec PyProof.Rows L2.Sl SlX
def fams (i : Nat) : List V := [.bl (decide (home i = 0)), .bl (decide (home i = 0)), .bl (decide (home i = 1)), .bl (decide (home i = 1)), .bl (decide (home i = 2)), .bl (decide (home i = 2)), .bl (decide (home i = 3)), .bl (decide (home i = 4)), .bl (decide (home i = 5)), .bl (decide (home i = 6))]
def spFams (C : Nat → Addr) : Sp := fun vs H Q _ => ∃ (i : Nat) (one far : V) (e : Addr), vs = [.ref e] ∧ i < 20 ∧ Held C i one far e H ∧ ∀ H2 p, Same H H2 → H2 p = some (.lst (fams i)) → Q (.ref p) H2
section
variable {P : Program} {w : World} {K : PySem.W.Frag} {mg : Str → Option Value} {base : Heap} {C Fi Fm : Nat → Addr}
abbrev s_fm : Stmt := topS 39
abbrev N_fm : List Str := ["e", "found"]
theorem sc_fm : FnScope N_fm ["e"] (defScope s_fm) := ⟨rfl, rfl, rfl, by decide +kernel, rfl, by decide +kernel, by decide +kernel⟩
theorem ok_fams {f : Addr} {fd : FuncData} {k : Nat} (T : Txt K mg C Fi Fm) (F : Fun K "_law_families" "_law_families" s_fm f fd) (n_isinstance : mg "isinstance" = none) (n_ValueError : mg "ValueError" = none) (n_LookupError : mg "LookupError" = none) (n_ArithmeticError : mg "ArithmeticError" = none) (n_KeyError : mg "KeyError" = none) (n_IndexError : mg "IndexError" = none) (n_ZeroDivisionError : mg "ZeroDivisionError" = none) (n_OverflowError : mg "OverflowError" = none) : FnOk P w K mg base CX0 (k + 1) f fd ["e"] (spFams C) := by
  refine F.ok sc_fm (fun vs H Q E h => ?_) (fun cdv A outer s H vs Q E hr h => ?_)
  · obtain ⟨i, one, far, e, rfl, _⟩ := h
    rfl
  · obtain ⟨i, one, far, e, rfl, hi, he, q⟩ := h
    refine ⟨_, (pss_cons (ps_set (i := 1) sc_fm.nd rfl (.inl rfl) (pe_lst (pa_cons (pe_callB call_isH (by rfl) n_isinstance (by decide +kernel) (pa_cons (pv 0) (pa_cons (pe_glob (v := .ref (Fm 0)) rfl (T.gF 0 (by decide)) rfl) pa_nil))) (pa_cons (pe_callB call_isH (by rfl) n_isinstance (by decide +kernel) (pa_cons (pv 0) (pa_cons (pe_bltn (v := .ty "ValueError") (by rfl) n_ValueError (by decide +kernel) rfl) pa_nil))) (pa_cons (pe_callB call_isH (by rfl) n_isinstance (by decide +kernel) (pa_cons (pv 0) (pa_cons (pe_glob (v := .ref (Fm 1)) rfl (T.gF 1 (by decide)) rfl) pa_nil))) (pa_cons (pe_callB call_isH (by rfl) n_isinstance (by decide +kernel) (pa_cons (pv 0) (pa_cons (pe_bltn (v := .ty "LookupError") (by rfl) n_LookupError (by decide +kernel) rfl) pa_nil))) pa_nil))))))
      (pss_cons (ps_set (i := 1) sc_fm.nd rfl (.inl rfl) (pe_op op_cat (pv 1) (pe_lst (pa_cons (pe_callB call_isH (by rfl) n_isinstance (by decide +kernel) (pa_cons (pv 0) (pa_cons (pe_glob (v := .ref (Fm 2)) rfl (T.gF 2 (by decide)) rfl) pa_nil))) (pa_cons (pe_callB call_isH (by rfl) n_isinstance (by decide +kernel) (pa_cons (pv 0) (pa_cons (pe_bltn (v := .ty "ArithmeticError") (by rfl) n_ArithmeticError (by decide +kernel) rfl) pa_nil))) pa_nil)))))
      (pss_cons (ps_set (i := 1) sc_fm.nd rfl (.inl rfl) (pe_op op_cat (pv 1) (pe_lst (pa_cons (pe_callB call_isH (by rfl) n_isinstance (by decide +kernel) (pa_cons (pv 0) (pa_cons (pe_bltn (v := .ty "KeyError") (by rfl) n_KeyError (by decide +kernel) rfl) pa_nil))) (pa_cons (pe_callB call_isH (by rfl) n_isinstance (by decide +kernel) (pa_cons (pv 0) (pa_cons (pe_bltn (v := .ty "IndexError") (by rfl) n_IndexError (by decide +kernel) rfl) pa_nil))) pa_nil)))))
      (pss_one (ps_ret (pe_op op_cat (pv 1) (pe_lst (pa_cons (pe_callB call_isH (by rfl) n_isinstance (by decide +kernel) (pa_cons (pv 0) (pa_cons (pe_bltn (v := .ty "ZeroDivisionError") (by rfl) n_ZeroDivisionError (by decide +kernel) rfl) pa_nil))) (pa_cons (pe_callB call_isH (by rfl) n_isinstance (by decide +kernel) (pa_cons (pv 0) (pa_cons (pe_bltn (v := .ty "OverflowError") (by rfl) n_OverflowError (by decide +kernel) rfl) pa_nil))) pa_nil))))))))), ?_⟩
    have S : Same H H := Same.refl H
    obtain ⟨d, ea, ed⟩ := he
    refine ⟨_, rfl, e, C i, d, _, _, _, _, rfl, S _ _ ea, S _ _ ed, T.xr i hi, .own _, T.fmk i 0 hi (by decide), ?_⟩
    refine ⟨_, rfl, e, C i, d, _, _, _, _, rfl, S _ _ ea, S _ _ ed, T.xr i hi, .ty _, T.blt i 0 hi (by decide), ?_⟩
    refine ⟨_, rfl, e, C i, d, _, _, _, _, rfl, S _ _ ea, S _ _ ed, T.xr i hi, .own _, T.fmk i 1 hi (by decide), ?_⟩
    refine ⟨_, rfl, e, C i, d, _, _, _, _, rfl, S _ _ ea, S _ _ ed, T.xr i hi, .ty _, T.blt i 1 hi (by decide), ?_⟩
    refine ⟨(show 4 ≤ sizeLine by decide), fun q0 nq0 => ?_⟩
    obtain ⟨G0, hG0, sG0, eG0⟩ := mkG (.lst [.bl (decide (home i = 0)), .bl (decide (home i = 0)), .bl (decide (home i = 1)), .bl (decide (home i = 1))]) nq0
    rw [← hG0]
    replace S := S.trans sG0
    have pl := eG0
    refine ⟨_, rfl, ?_⟩
    refine ⟨_, rfl, e, C i, d, _, _, _, _, rfl, S _ _ ea, S _ _ ed, T.xr i hi, .own _, T.fmk i 2 hi (by decide), ?_⟩
    refine ⟨_, rfl, e, C i, d, _, _, _, _, rfl, S _ _ ea, S _ _ ed, T.xr i hi, .ty _, T.blt i 2 hi (by decide), ?_⟩
    refine ⟨(show 2 ≤ sizeLine by decide), fun q1 nq1 => ?_⟩
    obtain ⟨G1, hG1, sG1, eG1⟩ := mkG (.lst [.bl (decide (home i = 2)), .bl (decide (home i = 2))]) nq1
    rw [← hG1]
    replace S := S.trans sG1
    replace pl := sG1 _ _ pl
    refine ⟨_, q1, _, _, rfl, rfl, pl, eG1, (show 4 + 2 ≤ sizeLine by decide), fun p1 np1 => ?_⟩
    obtain ⟨F1, hF1, sF1, eF1⟩ := mkG (.lst ([.bl (decide (home i = 0)), .bl (decide (home i = 0)), .bl (decide (home i = 1)), .bl (decide (home i = 1))] ++ [.bl (decide (home i = 2)), .bl (decide (home i = 2))])) np1
    rw [← hF1]
    replace S := S.trans sF1
    replace pl : F1 p1 = some (.lst [.bl (decide (home i = 0)), .bl (decide (home i = 0)), .bl (decide (home i = 1)), .bl (decide (home i = 1)), .bl (decide (home i = 2)), .bl (decide (home i = 2))]) := eF1
    refine ⟨_, rfl, ?_⟩
    refine ⟨_, rfl, e, C i, d, _, _, _, _, rfl, S _ _ ea, S _ _ ed, T.xr i hi, .ty _, T.blt i 3 hi (by decide), ?_⟩
    refine ⟨_, rfl, e, C i, d, _, _, _, _, rfl, S _ _ ea, S _ _ ed, T.xr i hi, .ty _, T.blt i 4 hi (by decide), ?_⟩
    refine ⟨(show 2 ≤ sizeLine by decide), fun q2 nq2 => ?_⟩
    obtain ⟨G2, hG2, sG2, eG2⟩ := mkG (.lst [.bl (decide (home i = 3)), .bl (decide (home i = 4))]) nq2
    rw [← hG2]
    replace S := S.trans sG2
    replace pl := sG2 _ _ pl
    refine ⟨_, q2, _, _, rfl, rfl, pl, eG2, (show 6 + 2 ≤ sizeLine by decide), fun p2 np2 => ?_⟩
    obtain ⟨F2, hF2, sF2, eF2⟩ := mkG (.lst ([.bl (decide (home i = 0)), .bl (decide (home i = 0)), .bl (decide (home i = 1)), .bl (decide (home i = 1)), .bl (decide (home i = 2)), .bl (decide (home i = 2))] ++ [.bl (decide (home i = 3)), .bl (decide (home i = 4))])) np2
    rw [← hF2]
    replace S := S.trans sF2
    replace pl : F2 p2 = some (.lst [.bl (decide (home i = 0)), .bl (decide (home i = 0)), .bl (decide (home i = 1)), .bl (decide (home i = 1)), .bl (decide (home i = 2)), .bl (decide (home i = 2)), .bl (decide (home i = 3)), .bl (decide (home i = 4))]) := eF2
    refine ⟨_, rfl, ?_⟩
    refine ⟨_, rfl, e, C i, d, _, _, _, _, rfl, S _ _ ea, S _ _ ed, T.xr i hi, .ty _, T.blt i 5 hi (by decide), ?_⟩
    refine ⟨_, rfl, e, C i, d, _, _, _, _, rfl, S _ _ ea, S _ _ ed, T.xr i hi, .ty _, T.blt i 6 hi (by decide), ?_⟩
    refine ⟨(show 2 ≤ sizeLine by decide), fun q3 nq3 => ?_⟩
    obtain ⟨G3, hG3, sG3, eG3⟩ := mkG (.lst [.bl (decide (home i = 5)), .bl (decide (home i = 6))]) nq3
    rw [← hG3]
    replace S := S.trans sG3
    replace pl := sG3 _ _ pl
    refine ⟨_, q3, _, _, rfl, rfl, pl, eG3, (show 8 + 2 ≤ sizeLine by decide), fun p3 np3 => ?_⟩
    obtain ⟨F3, hF3, sF3, eF3⟩ := mkG (.lst ([.bl (decide (home i = 0)), .bl (decide (home i = 0)), .bl (decide (home i = 1)), .bl (decide (home i = 1)), .bl (decide (home i = 2)), .bl (decide (home i = 2)), .bl (decide (home i = 3)), .bl (decide (home i = 4))] ++ [.bl (decide (home i = 5)), .bl (decide (home i = 6))])) np3
    rw [← hF3]
    replace S := S.trans sF3
    replace pl : F3 p3 = some (.lst [.bl (decide (home i = 0)), .bl (decide (home i = 0)), .bl (decide (home i = 1)), .bl (decide (home i = 1)), .bl (decide (home i = 2)), .bl (decide (home i = 2)), .bl (decide (home i = 3)), .bl (decide (home i = 4)), .bl (decide (home i = 5)), .bl (decide (home i = 6))]) := eF3
    exact q _ _ S pl
end
end L2.K1

/-! ### K1i -/
set_option Elab.async false
set_option linter.all false
set_option maxRecDepth 100000
set_option maxHeartbeats 8000000
namespace L2.K1
open PySem PySem.W PySem.Spec PyProof.Rows L2.Sl SlX
def flv (i : Nat) (one far : V) : List V := if i = 17 then [one, far] else [one]
def spFields (C : Nat → Addr) : Sp := fun vs H Q _ => ∃ (i : Nat) (one far : V) (e : Addr), vs = [.int i, .ref e] ∧ i < 20 ∧ Held C i one far e H ∧ ∀ H2 p, Same H H2 → H2 p = some (.lst (flv i one far)) → Q (.ref p) H2
theorem fl_one {i : Nat} {f : Str} (one far : V) (h : fl i = [f]) (h17 : i ≠ 17) : (fv i one far).lookup f = some one ∧ f ∈ fl i := by
  unfold fv
  rw [h, if_neg h17]
  exact ⟨by simp, by simp⟩
section
variable {P : Program} {w : World} {K : PySem.W.Frag} {mg : Str → Option Value} {base : Heap} {C Fi Fm : Nat → Addr}
abbrev s_fd : Stmt := topS 40
abbrev N_fd : List Str := ["way", "e"]
theorem sc_fd : FnScope N_fd ["way", "e"] (defScope s_fd) := ⟨rfl, rfl, rfl, by decide +kernel, rfl, by decide +kernel, by decide +kernel⟩
theorem ok_fields {f : Addr} {fd : FuncData} {k : Nat} (T : Txt K mg C Fi Fm) (F : Fun K "_law_fields" "_law_fields" s_fd f fd) : FnOk P w K mg base CX0 (k + 1) f fd ["way", "e"] (spFields C) := by
  refine F.ok sc_fd (fun vs H Q E h => ?_) (fun cdv A outer s H vs Q E hr h => ?_)
  · obtain ⟨i, one, far, e, rfl, _⟩ := h
    rfl
  · obtain ⟨i, one, far, e, rfl, hi, ⟨d, ea, ed⟩, q⟩ := h
    refine ⟨_, (pss_cons (ps_if (pt_cmpR op_lt (pv 0) pe_int (nomark _))
        (pss_one (ps_ret (pe_lst (pa_cons (pe_xh (pv 1)) pa_nil))))
        pss_nil)
      (pss_cons (ps_if (pt_cmpR op_lt (pv 0) pe_int (nomark _))
        (pss_one (ps_ret (pe_ifExp (pt_cmpR op_eq (pv 0) pe_int (nomark _)) (pe_lst (pa_cons (pe_xh (pv 1)) pa_nil)) (pe_lst (pa_cons (pe_xh (pv 1)) pa_nil)))))
        pss_nil)
      (pss_cons (ps_if (pt_cmpR op_lt (pv 0) pe_int (nomark _))
        (pss_one (ps_ret (pe_lst (pa_cons (pe_xh (pv 1)) pa_nil))))
        pss_nil)
      (pss_cons (ps_if (pt_cmpR op_lt (pv 0) pe_int (nomark _))
        (pss_one (ps_ret (pe_ifExp (pt_cmpR op_eq (pv 0) pe_int (nomark _)) (pe_lst (pa_cons (pe_xh (pv 1)) pa_nil)) (pe_lst (pa_cons (pe_xh (pv 1)) pa_nil)))))
        pss_nil)
      (pss_one (ps_ret (pe_ifExp (pt_cmpR op_eq (pv 0) pe_int (nomark _)) (pe_lst (pa_cons (pe_xh (pv 1)) (pa_cons (pe_xh (pv 1)) pa_nil))) (pe_lst (pa_cons (pe_xh (pv 1)) pa_nil))))))))), ?_⟩
    have one_ : ∀ f : Str, fl i = [f] → i ≠ 17 → tLst (tCons (tXh K f (tVar 1)) tNil) [some (.int i), some (.ref e)] H Q := fun f h h17 => by
      obtain ⟨l, m⟩ := fl_one one far h h17
      refine ⟨_, rfl, e, C i, d, _, _, rfl, ea, ed, T.xr i hi, (T.cls i hi).no f m, l, (show 1 ≤ sizeLine by decide), fun p np => ?_⟩
      refine q _ p (same_new np) ?_
      unfold flv
      rw [if_neg h17]
      exact upd_same
    have lt : ∀ (n : Nat) {A B : Prop}, (i < n → A) → (¬ i < n → B) → (if decide ((i : Int) < (n : Int)) = true then A else B) := fun n A B h1 h2 => ite2 (fun c => h1 (by have z := of_decide_eq_true c; omega)) (fun c => h2 (fun z => c (decide_eq_true (by omega))))
    have eq_ : ∀ (n : Nat) {A B : Prop}, (i = n → A) → (i ≠ n → B) → (if decide (V.int (i : Int) = V.int (n : Int)) = true then A else B) := fun n A B h1 h2 => ite2 (fun c => h1 (way_eq c)) (fun c => h2 (way_ne c))
    refine ⟨_, rfl, _, _, rfl, rfl, _, rfl, lt 10 (fun c => ?_) (fun c10 => ?_)⟩
    · refine one_ "why" ?_ (by omega)
      match i, c with
      | 0, _ => rfl
      | 1, _ => rfl
      | 2, _ => rfl
      | 3, _ => rfl
      | 4, _ => rfl
      | 5, _ => rfl
      | 6, _ => rfl
      | 7, _ => rfl
      | 8, _ => rfl
      | 9, _ => rfl
    refine ⟨_, rfl, _, _, rfl, rfl, _, rfl, lt 12 (fun c => ?_) (fun c12 => ?_)⟩
    · refine ⟨_, rfl, rfl, _, rfl, eq_ 10 (fun z => ?_) (fun z => ?_)⟩
      · subst z
        exact one_ "number" rfl (by decide)
      · obtain rfl : i = 11 := by omega
        exact one_ "line" rfl (by decide)
    refine ⟨_, rfl, _, _, rfl, rfl, _, rfl, lt 15 (fun c => ?_) (fun c15 => ?_)⟩
    · refine one_ "name" ?_ (by omega)
      match i, c, c12 with
      | 12, _, _ => rfl
      | 13, _, _ => rfl
      | 14, _, _ => rfl
    refine ⟨_, rfl, _, _, rfl, rfl, _, rfl, lt 17 (fun c => ?_) (fun c17 => ?_)⟩
    · refine ⟨_, rfl, rfl, _, rfl, eq_ 15 (fun z => ?_) (fun z => ?_)⟩
      · subst z
        exact one_ "others" rfl (by decide)
      · obtain rfl : i = 16 := by omega
        exact one_ "boxes" rfl (by decide)
    refine ⟨_, rfl, rfl, _, rfl, eq_ 17 (fun z => ?_) (fun z => ?_)⟩
    · subst z
      refine ⟨_, rfl, e, C 17, d, _, one, rfl, ea, ed, T.xr 17 hi, (T.cls 17 hi).no "box" (by decide), rfl, _, rfl, e, C 17, d, _, far, rfl, ea, ed, T.xr 17 hi, (T.cls 17 hi).no "number" (by decide), rfl, (show 2 ≤ sizeLine by decide), fun p np => ?_⟩
      exact q _ p (same_new np) upd_same
    · refine one_ "most" ?_ z
      rcases (by omega : i = 18 ∨ i = 19) with z1 | z1 <;> subst z1 <;> rfl
def spRight (C : Nat → Addr) : Sp := fun vs H Q _ => ∃ (i : Nat) (one far : V) (d1 d2 : PyData) (e : Addr), vs = [.int i, one, far, .ref e] ∧ i < 20 ∧ Held C i one far e H ∧ Th H one d1 ∧ Small d1 ∧ Th H far d2 ∧ Small d2 ∧ ∀ H2, Same H H2 → Q (.bl true) H2
theorem Small.canLay {d : PyData} (s : Small d) : d.canLay0 = true := SeqAt.canLay_of_shaped s.sh
/-- a list of one or two small things as data -/
def ds (i : Nat) (d1 d2 : PyData) : List PyData := if i = 17 then [d1, d2] else [d1]
theorem ds_ok (i : Nat) {d1 d2 : PyData} (s1 : Small d1) (s2 : Small d2) : (PyData.list (ds i d1 d2)).showable = true ∧ (PyData.list (ds i d1 d2)).hasDict = false ∧ (PyData.list (ds i d1 d2)).depth ≤ 60 ∧ (PyData.list (ds i d1 d2)).shown.length ≤ sizeLine := by
  have key : (PyData.list (ds i d1 d2)).showable = true ∧ (PyData.list (ds i d1 d2)).hasDict = false ∧ (PyData.list (ds i d1 d2)).depth ≤ 60 ∧ psz (PyData.list (ds i d1 d2)) ≤ sizeLine := by
    have h1 := s1.sw
    have h2 := s2.sw
    have g1 := s1.hd
    have g2 := s2.hd
    have p1 := s1.dp
    have p2 := s2.dp
    have z1 := s1.sz
    have z2 := s2.sz
    have big : 40010 ≤ sizeLine := by decide
    unfold ds
    split
    · simp only [PyData.showable, PyData.showableAll, PyData.hasDict, PyData.hasDictAll, PyData.depth, PyData.depthAll, psz, pszAll, h1, h2, g1, g2, Bool.and_self, Bool.or_self]
      exact ⟨trivial, trivial, by omega, by omega⟩
    · simp only [PyData.showable, PyData.showableAll, PyData.hasDict, PyData.hasDictAll, PyData.depth, PyData.depthAll, psz, pszAll, h1, g1, Bool.and_self, Bool.or_self]
      exact ⟨trivial, trivial, by omega, by omega⟩
  exact ⟨key.1, key.2.1, key.2.2.1, Nat.le_trans (psz_le _ key.1 key.2.1) key.2.2.2⟩
theorem dp_flv {i : Nat} {one far : V} {d1 d2 : PyData} {H : Hp} {p : Addr} (h1 : Th H one d1) (h2 : Th H far d2) (e : H p = some (.lst (flv i one far))) : Dp K H (.ref p) (.list (ds i d1 d2)) := by
  refine .lst (SqL.of e) ?_
  unfold flv ds
  split
  · exact .cons h1.dp (.cons h2.dp .nil)
  · exact .cons h1.dp .nil
theorem bools_dp {H : Hp} : ∀ bs : List Bool, DpAll K H (bs.map V.bl) (bs.map PyData.bool)
  | [] => .nil
  | b :: r => .cons (.bl b) (bools_dp r)
theorem bools_shaped (bs : List Bool) : SeqAt.shaped (.list (bs.map PyData.bool)) = true := by
  have h1 : ∀ bs : List Bool, PyData.canLayAll0 (bs.map PyData.bool) = true := fun bs => by
    induction bs with
    | nil => rfl
    | cons n r ih => simp only [List.map_cons, PyData.canLayAll0, PyData.canLay0, ih, Bool.and_self]
  have h2 : ∀ bs : List Bool, PyData.depthAll (bs.map PyData.bool) = 0 := fun bs => by
    induction bs with
    | nil => rfl
    | cons n r ih => simp only [List.map_cons, PyData.depthAll, PyData.depth, ih, Nat.max_self]
  unfold SeqAt.shaped
  simp only [PyData.canLay0, PyData.depth, h1, h2]
  decide
abbrev s_rt : Stmt := topS 41
abbrev N_rt : List Str := ["way", "one", "far", "e", "home", "k"]
theorem sc_rt : FnScope N_rt ["way", "one", "far", "e"] (defScope s_rt) := ⟨rfl, rfl, rfl, by decide +kernel, rfl, by decide +kernel, by decide +kernel⟩
structure RtTxt (K : Frag) (mg : Str → Option Value) (fK fM fD : Addr) (dK dM dD : FuncData) : Prop where
  F_kd : Fun K "_law_kinds" "_law_kinds" s_kd fK dK
  b_kd : Binds K dK ["e"] []
  g_kd : mg "_law_kinds" = some (.ref fK)
  F_fm : Fun K "_law_families" "_law_families" s_fm fM dM
  b_fm : Binds K dM ["e"] []
  g_fm : mg "_law_families" = some (.ref fM)
  F_fd : Fun K "_law_fields" "_law_fields" s_fd fD dD
  b_fd : Binds K dD ["way", "e"] []
  g_fd : mg "_law_fields" = some (.ref fD)
  n_isinstance : mg "isinstance" = none
  n_enumerate : mg "enumerate" = none
  n_range : mg "range" = none
  n_repr : mg "repr" = none
  n_ValueError : mg "ValueError" = none
  n_LookupError : mg "LookupError" = none
  n_ArithmeticError : mg "ArithmeticError" = none
  n_KeyError : mg "KeyError" = none
  n_IndexError : mg "IndexError" = none
  n_ZeroDivisionError : mg "ZeroDivisionError" = none
  n_OverflowError : mg "OverflowError" = none
theorem ok_right {f fK fM fD : Addr} {fd dK dM dD : FuncData} {k : Nat} (T : Txt K mg C Fi Fm) (R : RtTxt K mg fK fM fD dK dM dD) (F : Fun K "_law_right" "_law_right" s_rt f fd) : FnG P w K mg base CX0 (k + 2) f fd ["way", "one", "far", "e"] (spRight C) := by
  have G_kd : FnOk P w K mg base CX0 (k + 1) fK dK ["e"] (spKinds C) := ok_kinds T R.F_kd R.n_isinstance R.n_enumerate
  have G_fm : FnOk P w K mg base CX0 (k + 1) fM dM ["e"] (spFams C) := ok_fams T R.F_fm R.n_isinstance R.n_ValueError R.n_LookupError R.n_ArithmeticError R.n_KeyError R.n_IndexError R.n_ZeroDivisionError R.n_OverflowError
  have G_fd : FnOk P w K mg base CX0 (k + 1) fD dD ["way", "e"] (spFields C) := ok_fields T R.F_fd
  refine okG F sc_rt (fun vs H Q E h => ?_) (fun cdv A outer s H vs Q E hgu hr h => ?_)
  · obtain ⟨i, one, far, d1, d2, e, rfl, _⟩ := h
    rfl
  · obtain ⟨i, one, far, d1, d2, e, rfl, hi, he, t1, s1, t2, s2x, q⟩ := h
    refine ⟨_, (pss_cons (ps_if (PW.pt (pw_or (pt_cmpR op_isN (pv 3) pe_non (nomark _)) (pw_or1 (pt_cmpR (op_neD (hu64 hr)) (pe_call G_kd hr (by rfl) R.g_kd R.F_kd.kp R.b_kd .nil pass0 (pa_cons (pv 3) pa_nil)) (pe_lst (pa_cons (pv 0) pa_nil)) (nomark _)))))
        (pss_one (ps_ret pe_bl))
        pss_nil)
      (pss_cons (ps_set (i := 4) sc_rt.nd rfl (.inr rfl) (pe_ifExp (pt_cmpR op_lt (pv 0) pe_int (nomark _)) pe_int (pe_ifExp (pt_cmpR op_lt (pv 0) pe_int (nomark _)) pe_int pe_int)))
      (pss_cons (ps_if (pt_cmpR (op_neD (hu64 hr)) (pe_call G_fm hr (by rfl) R.g_fm R.F_fm.kp R.b_fm .nil pass0 (pa_cons (pv 3) pa_nil)) (pe_op op_cat (pe_lc (own := [("k", 5)]) (by rfl) sc_rt.nd (pi_range1 (by rfl) R.n_range (pa_cons pe_int pa_nil)) (blkOk_by (own := [("k", 5)]) (N := N_rt) (sc := defScope s_rt) (by decide +kernel)) (fun _ _ _ _ _ => (pg_name (i := 5) sc_rt.nd rfl (.inl rfl))) (fun _ _ _ _ _ => pts_nil) (fun _ _ _ _ _ => (pe_cmpR op_eq (pe_op op_fdiv (pv 5) pe_int) (pv 4) (nomark _)))) (pe_op op_rep (pe_lst (pa_cons pe_bl pa_nil)) pe_int)) (nomark _))
        (pss_one (ps_ret pe_bl))
        pss_nil)
      (pss_one (ps_ret (pe_cmpR op_eq (pe_callB (call_repr hgu hr) (by rfl) R.n_repr (by decide +kernel) (pa_cons (pe_call G_fd hr (by rfl) R.g_fd R.F_fd.kp R.b_fd .nil pass0 (pa_cons (pv 0) (pa_cons (pv 3) pa_nil))) pa_nil)) (pe_callB (call_repr hgu hr) (by rfl) R.n_repr (by decide +kernel) (pa_cons (pe_ifExp (pt_cmpR op_eq (pv 0) pe_int (nomark _)) (pe_lst (pa_cons (pv 1) (pa_cons (pv 2) pa_nil))) (pe_lst (pa_cons (pv 1) pa_nil))) pa_nil)) (nomark _))))))), ?_⟩
    have bits : ∀ n : Nat, n < 3 → fams i = ([decide (home i = 0), decide (home i = 0), decide (home i = 1), decide (home i = 1), decide (home i = 2), decide (home i = 2), decide (home i = 3), decide (home i = 4), decide (home i = 5), decide (home i = 6)] : List Bool).map V.bl := fun _ _ => rfl
    have main : ∀ (n : Nat) (G : Hp), n < 3 → home i = n → Same H G → tSeq
        (tIfS (tTest (tOp (rNeD K) (tCall (spFams C) [] E0 (tCons (tVar 3) tNil))
              (tOp rCat (tLc (iRng1 (tCons (tC (V.int 6)) tNil)) (gName 5) tYes (tOp rEq (tOp (rI CDiv fun i j => V.int (i / j)) (tVar 5) (tC (V.int 2))) (tVar 4)) (List.map (fun x => x.snd) [(Str.ofString "k", 5)]))
                (tOp rRep (tLst (tCons (tC (V.bl false)) tNil)) (tC (V.int 4)))))) (tRet (tC (V.bl false))) tNext)
        (tRet (tOp rEq (tCB (rRepr K) (tCons (tCall (spFields C) [] E0 (tCons (tVar 0) (tCons (tVar 3) tNil))) tNil))
            (tCB (rRepr K) (tCons (tIf (tTest (tOp rEq (tVar 0) (tC (V.int 17)))) (tLst (tCons (tVar 1) (tCons (tVar 2) tNil))) (tLst (tCons (tVar 1) tNil))) tNil))))
        { nx := fun x H2 => Q V.non H2, rt := Q } [some (.int i), some one, some far, some (.ref e), some (.int n), none] G := by
      intro n G hn hh S
      -- the families
      refine ⟨_, rfl, i, one, far, e, rfl, hi, he.same S, fun H1 p1 S1 e1 => ?_⟩
      refine ⟨6, rfl, by decide, by decide, fun D nD => ?_⟩
      refine lc_range (lo := 0) (n := 6) (fun j H2 => Same H1 H2 ∧ H2 D = some (.lst ((List.range j).map fun k => V.bl (decide ((k / 2 : Nat) = n))))) ⟨same_new nD, upd_same⟩ (fun j H2 hj hP => ?_) (fun H2 hP => ?_)
      · obtain ⟨s2, dD⟩ := hP
        refine ⟨rfl, _, rfl, _, _, rfl, rfl, ⟨by decide, by decide⟩, _, rfl, rfl, _, dD, ?_, same_put s2 nD, ?_⟩
        · rw [List.length_map, List.length_range]
          exact Nat.lt_trans hj (by decide)
        · rw [upd_same, List.range_succ, List.map_append]
          have ek : (V.bl (decide (V.int ((0 + (j : Int)) / 2) = V.int (n : Int)))) = V.bl (decide ((j / 2 : Nat) = n)) := by
            congr 1
            rw [decide_eq_decide]
            constructor
            · intro z
              have := V.int.inj z
              omega
            · intro z
              rw [← z]
              congr 1
              omega
          rw [ek]
          rfl
      · obtain ⟨s2, dD⟩ := hP
        refine ⟨(show 1 ≤ sizeLine by decide), fun q1 n1 => ?_⟩
        have sq1 := same_new (o := .lst [V.bl false]) n1
        refine ⟨_, 4, _, rfl, rfl, upd_same, by decide, by decide, (show 1 * 4 ≤ sizeLine by decide), fun q2 n2 => ?_⟩
        have sq2 := same_new (o := .lst (List.replicate (Int.toNat 4) [V.bl false]).flatten) n2
        refine ⟨_, _, _, _, rfl, rfl, sq2 _ _ (sq1 _ _ dD), upd_same, (show 6 + 4 ≤ sizeLine by decide), fun q3 n3 => ?_⟩
        obtain ⟨G3, hG3, sG3, eG3⟩ := mkG (.lst (((List.range 6).map fun k => V.bl (decide ((k / 2 : Nat) = n))) ++ (List.replicate (Int.toNat 4) [V.bl false]).flatten)) n3
        rw [← hG3]
        have S3 : Same H1 G3 := s2.trans (sq1.trans (sq2.trans sG3))
        have e3 : G3 q3 = some (.lst (([decide (0 = n), decide (0 = n), decide (1 = n), decide (1 = n), decide (2 = n), decide (2 = n), false, false, false, false] : List Bool).map V.bl)) := eG3
        refine ⟨_, _, .lst (SqL.of (S3 _ _ e1)) (bools_dp [decide (home i = 0), decide (home i = 0), decide (home i = 1), decide (home i = 1), decide (home i = 2), decide (home i = 2), decide (home i = 3), decide (home i = 4), decide (home i = 5), decide (home i = 6)]), .lst (SqL.of e3) (bools_dp _), bools_shaped _, bools_shaped _, _, rfl, ?_⟩
        have eq1 : ([decide (home i = 0), decide (home i = 0), decide (home i = 1), decide (home i = 1), decide (home i = 2), decide (home i = 2), decide (home i = 3), decide (home i = 4), decide (home i = 5), decide (home i = 6)] : List Bool) = [decide (0 = n), decide (0 = n), decide (1 = n), decide (1 = n), decide (2 = n), decide (2 = n), false, false, false, false] := by
          rw [hh]
          match n, hn with
          | 0, _ => rfl
          | 1, _ => rfl
          | 2, _ => rfl
        rw [eq1, SeqAt.eqv_refl _ (SeqAt.canLay_of_shaped (bools_shaped _))]
        refine iteF ?_
        -- the texts
        refine ⟨_, rfl, _, rfl, i, one, far, e, rfl, hi, ((he.same S).same S1).same S3, fun H4 p4 S4 e4 => ?_⟩
        obtain ⟨w1, w2, w3, w4⟩ := ds_ok i s1 s2x
        have S5 : Same H H4 := S.trans (S1.trans (S3.trans S4))
        refine ⟨_, .list (ds i d1 d2), rfl, dp_flv (t1.mono (.of S5)) (t2.mono (.of S5)) e4, ⟨_, rfl⟩, w1, w2, w3, w4, ?_⟩
        have last : ∀ (H5 : Hp) (p5 : Addr), Same H4 H5 → H5 p5 = some (.lst (flv i one far)) → rRepr K [.ref p5] H5 (fun y H6 => rEq (.str (PyData.list (ds i d1 d2)).shown) y H6 Q) := fun H5 p5 S6 e5 => by
          refine ⟨_, .list (ds i d1 d2), rfl, dp_flv (t1.mono (.of (S5.trans S6))) (t2.mono (.of (S5.trans S6))) e5, ⟨_, rfl⟩, w1, w2, w3, w4, rfl, ?_⟩
          rw [decide_eq_true rfl]
          exact q _ (S5.trans S6)
        refine ⟨_, rfl, rfl, _, rfl, ite2 (fun c => ?_) (fun c => ?_)⟩
        · have c17 : i = 17 := way_eq (k := 17) c
          refine ⟨_, rfl, _, rfl, (show 2 ≤ sizeLine by decide), fun p5 n5 => ?_⟩
          refine last _ p5 (same_new n5) ?_
          unfold flv
          rw [if_pos c17]
          exact upd_same
        · have c17 : i ≠ 17 := way_ne (k := 17) c
          refine ⟨_, rfl, (show 1 ≤ sizeLine by decide), fun p5 n5 => ?_⟩
          refine last _ p5 (same_new n5) ?_
          unfold flv
          rw [if_neg c17]
          exact upd_same
    -- e is None or kinds
    refine ⟨_, rfl, rfl, _, rfl, ite2 (fun z => absurd (of_decide_eq_true z) (by intro z2; cases z2)) (fun _ => ?_)⟩
    refine ⟨_, rfl, i, one, far, e, rfl, hi, he, fun H1 p1 S1 e1 => ⟨_, rfl, (show 1 ≤ sizeLine by decide), fun p2 n2 => ?_⟩⟩
    obtain ⟨G, hG, sG, eG⟩ := mkG (.lst [.int i]) n2
    rw [← hG]
    refine ⟨.list [.int i], .list [.int i], .lst (SqL.of (sG _ _ e1)) (.cons (.int _) .nil), .lst (SqL.of eG) (.cons (.int _) .nil), rfl, rfl, _, rfl, ?_⟩
    rw [SeqAt.eqv_refl _ rfl]
    refine iteF ?_
    have S : Same H G := S1.trans sG
    refine ⟨_, rfl, _, _, rfl, rfl, _, rfl, ite2 (fun c => ?_) (fun c => ?_)⟩
    · have c1 := of_decide_eq_true c
      exact main 0 G (by decide) (by unfold home; rw [if_pos (by omega)]) S
    · have c1 : ¬ (i : Int) < 12 := fun z => c (decide_eq_true z)
      refine ⟨_, rfl, _, _, rfl, rfl, _, rfl, ite2 (fun c2 => ?_) (fun c2 => ?_)⟩
      · have c3 := of_decide_eq_true c2
        exact main 1 G (by decide) (by unfold home; rw [if_neg (by omega), if_pos (by omega)]) S
      · have c3 : ¬ (i : Int) < 18 := fun z => c2 (decide_eq_true z)
        exact main 2 G (by decide) (by unfold home; rw [if_neg (by omega), if_neg (by omega)]) S
end
end L2.K1

/-! ### K1j -/
set_option Elab.async false
set_option linter.all false
set_option maxRecDepth 100000
set_option maxHeartbeats 8000000
namespace L2.K1
open PySem PySem.W PySem.Spec PyProof.Rows L2.Sl SlX
structure LwTxt (K : Frag) (mg : Str → Option Value) (fbg fdw ftg frd frr fro fbn frt : Addr) (dbg ddw dtg drd drr dro dbn drt : FuncData) : Prop where
  F_bg : Fun K "_law_begun" "_law_begun" s_law_begun fbg dbg
  b_bg : Binds K dbg ["script"] []
  g_bg : mg "_law_begun" = some (.ref fbg)
  F_dw : Fun K "_law_draw" "_law_draw" s_law_draw fdw ddw
  b_dw : Binds K ddw ["m", "many"] []
  g_dw : mg "_law_draw" = some (.ref fdw)
  F_tg : Fun K "_law_thing" "_law_thing" s_law_thing ftg dtg
  b_tg : Binds K dtg ["m"] []
  g_tg : mg "_law_thing" = some (.ref ftg)
  F_rd : Fun K "_law_raised" "_law_raised" s_rd frd drd
  b_rd : Binds K drd ["way", "one", "far"] []
  g_rd : mg "_law_raised" = some (.ref frd)
  F_rr : Fun K "_law_raise_refused" "_law_raise_refused" s_rr frr drr
  b_rr : Binds K drr ["way", "one"] []
  g_rr : mg "_law_raise_refused" = some (.ref frr)
  F_ro : Fun K "_law_raise_other" "_law_raise_other" s_ro fro dro
  b_ro : Binds K dro ["way", "one", "far"] []
  g_ro : mg "_law_raise_other" = some (.ref fro)
  F_bn : Fun K "_law_by_names" "_law_by_names" s_bn fbn dbn
  b_bn : Binds K dbn ["one", "far"] []
  g_bn : mg "_law_by_names" = some (.ref fbn)
  F_rt : Fun K "_law_right" "_law_right" s_rt frt drt
  b_rt : Binds K drt ["way", "one", "far", "e"] []
  g_rt : mg "_law_right" = some (.ref frt)
  g_MOST : ∃ t, mg "MOST" = some (.int 6 t)
  g_LONG : ∃ t, mg "LONG" = some (.int 400 t)
  g_HEAVY : ∃ t, mg "HEAVY" = some (.int 5000 t)
  g_WIDE : ∃ t, mg "WIDE" = some (.int 200000 t)
  g_CHOICES : ∃ t, mg "CHOICES" = some (.int 20000 t)
  g_GREATEST : ∃ t, mg "GREATEST" = some (.int 24 t)
  g_PAIRS : ∃ t, mg "PAIRS" = some (.int 8 t)
  n_len : mg "len" = none
  n_range : mg "range" = none
  n_enumerate : mg "enumerate" = none
  n_repr : mg "repr" = none
/-- an item of what is held -/
structure Item (C : Nat → Addr) (H : Hp) (v : V) (i : Nat) (one far : V) (d1 d2 : PyData) (t e : Addr) : Prop where
  vv : v = .ref t
  tt : H t = some (.tup [.int i, one, far, .ref e])
  ii : i < 20
  hh : Held C i one far e H
  t1 : Th H one d1
  s1 : Small d1
  t2 : Th H far d2
  s2 : Small d2
def IsItem (C : Nat → Addr) (H : Hp) (v : V) : Prop := ∃ i one far d1 d2 t e, Item C H v i one far d1 d2 t e
theorem IsItem.same {C : Nat → Addr} {H H2 : Hp} {v : V} (s : Same H H2) (h : IsItem C H v) : IsItem C H2 v := by
  obtain ⟨i, one, far, d1, d2, t, e, a⟩ := h
  exact ⟨i, one, far, d1, d2, t, e, a.vv, s _ _ a.tt, a.ii, a.hh.same s, a.t1.mono (.of s), a.s1, a.t2.mono (.of s), a.s2⟩
theorem ext_dK {φ : Heap → Prop} {l : List (Key × V)} : HO.ext φ ≠ .dK l := fun z => nomatch z
theorem ext_lst {φ : Heap → Prop} {l : List V} : HO.ext φ ≠ .lst l := fun z => nomatch z
theorem IsItem.but {C : Nat → Addr} {H H2 : Hp} {v : V} {m gl : Addr} (D : Drw H m gl) (b : But m gl H H2) (h : IsItem C H v) : IsItem C H2 v := by
  obtain ⟨i, one, far, d1, d2, t, e, a⟩ := h
  obtain ⟨d, ea, ed⟩ := a.hh
  exact ⟨i, one, far, d1, d2, t, e, a.vv, b.keep D a.tt (fun _ z => nomatch z) (fun _ z => nomatch z), a.ii, ⟨d, b.keep D ea (fun _ => ext_dK) (fun _ z => absurd z ext_lst), b.keep D ed (fun _ z => nomatch z) (fun _ z => nomatch z)⟩,
    a.t1.mono (b.tups D), a.s1, a.t2.mono (b.tups D), a.s2⟩
theorem if_ne {x y : V} {A B : Prop} (e : x = y) (h : B) : if (!decide (x = y)) = true then A else B := by
  rw [decide_eq_true e]
  exact iteF h
theorem Drw.put {H : Hp} {m gl p : Addr} {o : HO} (D : Drw H m gl) (h1 : p ≠ m) (h2 : p ≠ gl) : Drw (upd H p o) m gl := by
  obtain ⟨⟨z, k, em⟩, ⟨ns, el, ln⟩, ne⟩ := D
  exact ⟨⟨z, k, by rw [upd_ne h1.symm]; exact em⟩, ⟨ns, by rw [upd_ne h2.symm]; exact el, ln⟩, ne⟩
theorem lput {H : Hp} {a p : Addr} {o o2 : HO} {l : List V} (e : H p = some (.lst l)) (ea : H a = some o) (h : ∀ l, o ≠ .lst l) : (upd H p o2) a = some o := by
  rw [upd_ne (ne_of ea e (h l))]
  exact ea
theorem tups_put {H : Hp} {p : Addr} {o2 : HO} {l : List V} (e : H p = some (.lst l)) : Tups H (upd H p o2) := fun a xs ea => lput e ea (fun _ z => nomatch z)
theorem Held.put {C : Nat → Addr} {H : Hp} {p : Addr} {o2 : HO} {l : List V} {i : Nat} {one far : V} {x : Addr} (e : H p = some (.lst l)) (h : Held C i one far x H) : Held C i one far x (upd H p o2) := by
  obtain ⟨d, ea, ed⟩ := h
  exact ⟨d, lput e ea (fun _ => ext_lst), lput e ed (fun _ z => nomatch z)⟩
theorem IsItem.put {C : Nat → Addr} {H : Hp} {v : V} {p : Addr} {o2 : HO} {l : List V} (e : H p = some (.lst l)) (h : IsItem C H v) : IsItem C (upd H p o2) v := by
  obtain ⟨i, one, far, d1, d2, t, x, a⟩ := h
  exact ⟨i, one, far, d1, d2, t, x, a.vv, lput e a.tt (fun _ z => nomatch z), a.ii, a.hh.put e, a.t1.mono (tups_put e), a.s1, a.t2.mono (tups_put e), a.s2⟩
def spLaw (K : Frag) : Sp := fun vs H Q _ => ∃ (a : Addr) (ns : List Int), vs = [.ref a] ∧ SqL K H a (ns.map V.int) ∧ ns.length ≤ 63 ∧ ∀ H2, Q (.bl true) H2
section
variable {P : Program} {w : World} {K : PySem.W.Frag} {mg : Str → Option Value} {base : Heap} {C Fi Fm : Nat → Addr}
abbrev s_lw : Stmt := topS 43
abbrev N_lw : List Str := ["script", "m", "held", "turn", "step", "begun", "one", "far", "k", "way", "caught", "family", "e", "item"]
theorem sc_lw : FnScope N_lw ["script"] (defScope s_lw) := ⟨rfl, rfl, rfl, by decide +kernel, rfl, by decide +kernel, by decide +kernel⟩
abbrev steps8 : List V := [V.int 1, V.int 3, V.int 7, V.int 9, V.int 11, V.int 13, V.int 17, V.int 19]
theorem step_at (k : Int) (h0 : 0 ≤ k) (h1 : k < 8) : ∃ p : Int, atI steps8 k = some (.int p) ∧ -(2 ^ 64) < p ∧ p < 2 ^ 64 := by
  obtain ⟨j, hj⟩ : ∃ j : Nat, k = (j : Int) := ⟨k.toNat, by omega⟩
  have hj8 : j < 8 := by omega
  match j, hj8, hj with
  | 0, _, e => exact ⟨_, at_of e rfl, by decide, by decide⟩
  | 1, _, e => exact ⟨_, at_of e rfl, by decide, by decide⟩
  | 2, _, e => exact ⟨_, at_of e rfl, by decide, by decide⟩
  | 3, _, e => exact ⟨_, at_of e rfl, by decide, by decide⟩
  | 4, _, e => exact ⟨_, at_of e rfl, by decide, by decide⟩
  | 5, _, e => exact ⟨_, at_of e rfl, by decide, by decide⟩
  | 6, _, e => exact ⟨_, at_of e rfl, by decide, by decide⟩
  | 7, _, e => exact ⟨_, at_of e rfl, by decide, by decide⟩
theorem ok_law {f fK fM fD fbg fdw ftg frd frr fro fbn frt : Addr} {fd dK dM dD dbg ddw dtg drd drr dro dbn drt : FuncData} (T : Txt K mg C Fi Fm) (R : RtTxt K mg fK fM fD dK dM dD) (L : LwTxt K mg fbg fdw ftg frd frr fro fbn frt dbg ddw dtg drd drr dro dbn drt) (F : Fun K "law" "law" s_lw f fd) : FnG P w K mg base CX0 3 f fd ["script"] (spLaw K) := by
  have G_bg : FnOk P w K mg base CX0 2 fbg dbg ["script"] (spBegun K) := (ok_begun (k := 0) L.F_bg).mono (by decide)
  have G_dw : FnOk P w K mg base CX0 2 fdw ddw ["m", "many"] spDraw := (ok_draw (k := 0) L.F_dw L.n_len).mono (by decide)
  have G_tg : FnOk P w K mg base CX0 2 ftg dtg ["m"] spThing := ok_thing (k := 0) L.F_tg L.F_dw L.b_dw L.g_dw L.n_len
  have G_rd : FnOk P w K mg base CX0 2 frd drd ["way", "one", "far"] (spRaised C) := ok_raised (k := 0) T L.F_rd L.F_rr L.b_rr L.g_rr L.F_ro L.b_ro L.g_ro
  have G_bn : FnOk P w K mg base CX0 2 fbn dbn ["one", "far"] (spNames C) := (ok_names (k := 0) T L.F_bn).mono (by decide)
  have G_rt : FnG P w K mg base CX0 2 frt drt ["way", "one", "far", "e"] (spRight C) := ok_right (k := 0) T R L.F_rt
  refine okG F sc_lw (fun vs H Q E h => ?_) (fun cdv A outer s H vs Q E hgu hr h => ?_)
  · obtain ⟨a, ns, rfl, _⟩ := h
    rfl
  · obtain ⟨a, ns, rfl, hS, hlen, q⟩ := h
    refine ⟨_, (pss_cons (ps_par (i := 1) (j := 2) (by rfl) sc_lw.nd rfl rfl (by decide) rfl rfl (pa_cons (pe_call G_bg hr (by rfl) L.g_bg L.F_bg.kp L.b_bg .nil pass0 (pa_cons (pv 0) pa_nil)) (pa_cons (pe_lst pa_nil) pa_nil)) (by rfl))
      (pss_cons (ps_for PassesOwn.never rfl (pi_range1 (by rfl) L.n_range (pa_cons pe_int pa_nil)) (pg_name (i := 3) sc_lw.nd rfl (.inl rfl))
        (pss_cons (ps_asg (pe_tup (pa_cons (pe_call G_dw hr (by rfl) L.g_dw L.F_dw.kp L.b_dw .nil pass0 (pa_cons (pv 1) (pa_cons pe_int pa_nil))) (pa_cons (pe_call G_dw hr (by rfl) L.g_dw L.F_dw.kp L.b_dw .nil pass0 (pa_cons (pv 1) (pa_cons pe_int pa_nil))) (pa_cons (pe_call G_tg hr (by rfl) L.g_tg L.F_tg.kp L.b_tg .nil pass0 (pa_cons (pv 1) pa_nil)) (pa_cons (pe_call G_tg hr (by rfl) L.g_tg L.F_tg.kp L.b_tg .nil pass0 (pa_cons (pv 1) pa_nil)) pa_nil))))) (pg_tup rfl (pgs_cons (pg_name (i := 4) sc_lw.nd rfl (.inl rfl)) (pgs_cons (pg_name (i := 5) sc_lw.nd rfl (.inl rfl)) (pgs_cons (pg_name (i := 6) sc_lw.nd rfl (.inl rfl)) (pgs_cons (pg_name (i := 7) sc_lw.nd rfl (.inl rfl)) pgs_nil))))))
        (pss_cons (ps_for PassesOwn.never rfl (pi_range1 (by rfl) L.n_range (pa_cons pe_int pa_nil)) (pg_name (i := 8) sc_lw.nd rfl (.inl rfl))
          (pss_cons (ps_set (i := 9) sc_lw.nd rfl (.inl rfl) (pe_op op_mod (pe_op op_add (pv 5) (pe_op op_mul (pe_ix ix_list (pe_lst (pa_cons pe_int (pa_cons pe_int (pa_cons pe_int (pa_cons pe_int (pa_cons pe_int (pa_cons pe_int (pa_cons pe_int (pa_cons pe_int pa_nil))))))))) (pv 4) (fun _ _ => rfl)) (pv 8))) pe_int))
          (pss_cons (ps_asg (pe_call G_rd hr (by rfl) L.g_rd L.F_rd.kp L.b_rd .nil pass0 (pa_cons (pv 9) (pa_cons (pv 6) (pa_cons (pv 7) pa_nil)))) (pg_tup rfl (pgs_cons (pg_name (i := 10) sc_lw.nd rfl (.inl rfl)) (pgs_cons (pg_name (i := 11) sc_lw.nd rfl (.inl rfl)) pgs_nil))))
          (pss_cons (ps_expr (pe_bm PySem.F.plainAttrs_list PySem.F.slot_list_append PySem.F.type_list_append mt_append (pv 2) (pa_cons (pe_tup (pa_cons (pv 9) (pa_cons (pv 6) (pa_cons (pv 7) (pa_cons (pv 10) pa_nil))))) pa_nil)))
          (pss_one (ps_if (pt_cmpR op_ne (pv 11) (pe_ifExp (pt_cmpR op_lt (pv 9) pe_int (nomark _)) pe_str (pe_ifExp (pt_cmpR op_lt (pv 9) pe_int (nomark _)) pe_str pe_str)) (nomark _))
            (pss_one (ps_ret pe_bl))
            pss_nil))))))
        (pss_one (ps_for PassesOwn.never rfl (pi_enum (by rfl) L.n_enumerate (pa_cons (pe_call G_bn hr (by rfl) L.g_bn L.F_bn.kp L.b_bn .nil pass0 (pa_cons (pv 6) (pa_cons (pv 7) pa_nil))) pa_nil)) (pg_tup rfl (pgs_cons (pg_name (i := 9) sc_lw.nd rfl (.inl rfl)) (pgs_cons (pg_name (i := 12) sc_lw.nd rfl (.inl rfl)) pgs_nil)))
          (pss_one (ps_if (pt_not (pt_val (pe_callG G_rt hgu hr (by rfl) L.g_rt L.F_rt.kp L.b_rt .nil pass0 (pa_cons (pv 9) (pa_cons (pv 6) (pa_cons (pv 7) (pa_cons (pv 12) pa_nil)))))))
            (pss_one (ps_ret pe_bl))
            pss_nil)))))))
      (pss_cons (ps_if (pt_cmpR op_ne (pe_callB (call_repr hgu hr) (by rfl) L.n_repr (by decide +kernel) (pa_cons (pe_lst (pa_cons (pe_glob (v := .int 6) rfl L.g_MOST.choose_spec ⟨_, rfl⟩) (pa_cons (pe_glob (v := .int 400) rfl L.g_LONG.choose_spec ⟨_, rfl⟩) (pa_cons (pe_glob (v := .int 5000) rfl L.g_HEAVY.choose_spec ⟨_, rfl⟩) (pa_cons (pe_glob (v := .int 200000) rfl L.g_WIDE.choose_spec ⟨_, rfl⟩) (pa_cons (pe_glob (v := .int 20000) rfl L.g_CHOICES.choose_spec ⟨_, rfl⟩) (pa_cons (pe_glob (v := .int 24) rfl L.g_GREATEST.choose_spec ⟨_, rfl⟩) (pa_cons (pe_glob (v := .int 8) rfl L.g_PAIRS.choose_spec ⟨_, rfl⟩) pa_nil)))))))) pa_nil)) pe_str (nomark _))
        (pss_one (ps_ret pe_bl))
        pss_nil)
      (pss_one (ps_ret (pe_cmpR (op_eqD (hu64 hr)) (pe_lc (own := [("item", 13)]) (tt := tNot (tB (tCall (spRight C) [] E0 (tCons (tOp (rIxT K) (tVar 13) (tC (.int 0))) (tCons (tOp (rIxT K) (tVar 13) (tC (.int 1))) (tCons (tOp (rIxT K) (tVar 13) (tC (.int 2))) (tCons (tOp (rIxT K) (tVar 13) (tC (.int 3))) tNil))))))) (te := tVar 13) (by rfl) sc_lw.nd (pi_list (pv 2)) (blkOk_by (own := [("item", 13)]) (N := N_lw) (sc := defScope s_lw) (by decide +kernel)) (fun _ _ _ _ _ => (pg_name (i := 13) sc_lw.nd rfl (.inl rfl))) (fun _ _ _ _ _ => (pts_one (pt_not (pt_val (pe_callG G_rt hgu hr (by rfl) L.g_rt L.F_rt.kp L.b_rt .nil pass0 (pa_cons (pe_ix ix_tup (pv 13) pe_int (fun _ _ => rfl)) (pa_cons (pe_ix ix_tup (pv 13) pe_int (fun _ _ => rfl)) (pa_cons (pe_ix ix_tup (pv 13) pe_int (fun _ _ => rfl)) (pa_cons (pe_ix ix_tup (pv 13) pe_int (fun _ _ => rfl)) pa_nil))))))))) (fun _ _ _ _ _ => (pv 13))) (pe_lst pa_nil) (nomark _))))))), ?_⟩
    refine ⟨_, rfl, a, ns, rfl, hS, hlen, fun H1 m gl S1 nm ng D1 => ⟨Nat.zero_le _, fun hl nl => ⟨_, _, rfl, ?_⟩⟩⟩
    obtain ⟨G, hG, sG, eG⟩ := mkG (.lst []) nl
    rw [← hG]
    have D2 := D1.same sG
    have hlg : hl ≠ gl := by
      obtain ⟨ns1, el1, _⟩ := D1.l
      exact (ne_of_none el1 nl).symm
    refine ⟨3, rfl, by decide, by decide, for_range (lo := 0) (n := 3) (fun j σ H2 => ∃ y3 y4 y5 y6 y7 y8 y9 y10 y11 y12 y13 : Option V, σ = [some (.ref a), some (.ref m), some (.ref hl), y3, y4, y5, y6, y7, y8, y9, y10, y11, y12, y13] ∧ Drw H2 m gl ∧
      ∃ items, H2 hl = some (.lst items) ∧ (∀ v ∈ items, IsItem C H2 v) ∧ items.length = 20 * j) ⟨_, _, _, _, _, _, _, _, _, _, _, rfl, D2, [], eG, (fun v hv => by simp at hv), rfl⟩ (fun j σ H2 hj hP => ?_) (fun σ H2 hP => ?_)⟩
    · obtain ⟨y3, y4, y5, y6, y7, y8, y9, y10, y11, y12, y13, rfl, D, items, el, hit, ln⟩ := hP
      refine ⟨_, rfl, m, gl, 8, rfl, D, by decide, by decide, fun H3 st st0 st1 D3 B3 => ⟨_, rfl, m, gl, 20, rfl, D3, by decide, by decide, fun H4 bg b0 b1 D4 B4 => ⟨_, rfl, m, gl, rfl, D4, fun H5 one d1 D5 B5 t1 sm1 => ⟨_, rfl, m, gl, rfl, D5, fun H6 far d2 D6 B6 t2 sm2 => ⟨(show 4 ≤ sizeLine by decide), fun tp ntp => ?_⟩⟩⟩⟩⟩
      obtain ⟨G7, hG7, sG7, eG7⟩ := mkG (.tup [.int st, .int bg, one, far]) ntp
      rw [← hG7]
      have B7 : But m gl H2 G7 := B3.trans (B4.trans (B5.trans (B6.trans (.same sG7))))
      have D7 := D6.same sG7
      have el7 : G7 hl = some (.lst items) := B7.keep D el (fun _ z => nomatch z) (fun _ _ => hlg)
      have hit7 : ∀ v ∈ items, IsItem C G7 v := fun v hv => (hit v hv).but D B7
      have t17 : Th G7 one d1 := t1.mono ((B6.tups D5).trans (.of sG7))
      have t27 : Th G7 far d2 := t2.mono (.of sG7)
      refine ⟨tp, _, rfl, SqT.of eG7, rfl, _, _, rfl, _, _, rfl, _, _, rfl, _, _, rfl, rfl, ?_⟩
      refine ⟨20, rfl, by decide, by decide, for_range (lo := 0) (n := 20) (fun k σ H8 => ∃ y3 y8 y9 y10 y11 y12 y13 : Option V, σ = [some (.ref a), some (.ref m), some (.ref hl), y3, some (.int st), some (.int bg), some one, some far, y8, y9, y10, y11, y12, y13] ∧ Drw H8 m gl ∧ Th H8 one d1 ∧ Th H8 far d2 ∧
        ∃ items, H8 hl = some (.lst items) ∧ (∀ v ∈ items, IsItem C H8 v) ∧ items.length = 20 * j + k) ⟨_, _, _, _, _, _, _, rfl, D7, t17, t27, items, el7, hit7, by rw [ln]; rfl⟩ (fun k σ H8 hk hP => ?_) (fun σ H8 hP => ?_)⟩
      · obtain ⟨z3, z8, z9, z10, z11, z12, z13, rfl, D8, t18, t28, items8, el8, hit8, ln8⟩ := hP
        obtain ⟨wv, hw, w0, w1⟩ := step_at st st0 st1
        refine ⟨_, rfl, (show 8 ≤ sizeLine by decide), fun lp nlp => ?_⟩
        obtain ⟨G9, hG9, sG9, eG9⟩ := mkG (.lst steps8) nlp
        refine ⟨_, rfl, lp, _, st, _, rfl, rfl, SqL.of upd_same, hw, _, rfl, _, _, rfl, rfl, .inl ⟨w0, w1⟩, _, _, rfl, rfl, _, _, rfl, rfl, (by decide : (0 : Int) < 20), ?_⟩
        dsimp only
        have r0 : (0 : Int) ≤ (bg + wv * (0 + (k : Int))) % 20 := Int.emod_nonneg _ (by decide)
        have r1 : (bg + wv * (0 + (k : Int))) % 20 < 20 := Int.emod_lt_of_pos _ (by decide)
        generalize (bg + wv * (0 + (k : Int))) % 20 = way at r0 r1 ⊢
        obtain ⟨i, rfl⟩ : ∃ i : Nat, way = (i : Int) := ⟨way.toNat, by omega⟩
        have hi20 : i < 20 := by omega
        rw [← hG9]
        clear hG9
        refine ⟨_, rfl, _, rfl, _, rfl, i, one, far, rfl, hi20, fun H10 p e S10 np ep h10 => ⟨p, _, rfl, SqT.of ep, rfl, _, _, rfl, _, _, rfl, rfl, ?_⟩⟩
        have D10 := (D8.same sG9).same S10
        have el10 : H10 hl = some (.lst items8) := S10 _ _ (sG9 _ _ el8)
        have hit10 : ∀ v ∈ items8, IsItem C H10 v := fun v hv => ((hit8 v hv).same sG9).same S10
        have t110 : Th H10 one d1 := t18.mono (.of (sG9.trans S10))
        have t210 : Th H10 far d2 := t28.mono (.of (sG9.trans S10))
        have ln60 : items8.length < 60 := by omega
        have lnS : items8.length < sizeLine := Nat.lt_trans ln60 (by decide)
        refine ⟨.ref hl, rfl, .inl ⟨rfl, _, SqL.of el10⟩, _, rfl, _, rfl, _, rfl, _, rfl, (show 4 ≤ sizeLine by decide), fun tq ntq => ?_⟩
        obtain ⟨G11, hG11, sG11, eG11⟩ := mkG (.tup [.int i, one, far, .ref e]) ntq
        rw [← hG11]
        clear hG11
        refine ⟨hl, _, _, rfl, rfl, sG11 _ _ el10, lnS, ?_⟩
        have hlm : hl ≠ m := by
          obtain ⟨z, q, em⟩ := D8.d
          exact (ne_of em el8 (by intro q; cases q)).symm
        have D11 := D10.same sG11
        have el11 := sG11 _ _ el10
        have new11 : IsItem C G11 (.ref tq) := ⟨i, one, far, d1, d2, tq, e, rfl, eG11, hi20, h10.same sG11, t110.mono (.of sG11), sm1, t210.mono (.of sG11), sm2⟩
        have all11 : ∀ v ∈ items8 ++ [.ref tq], IsItem C G11 v := fun v hv => by
          rcases List.mem_append.mp hv with h | h
          · exact (hit10 v h).same sG11
          · rw [List.mem_singleton.mp h]
            exact new11
        have fin : ∃ y3 y8 y9 y10 y11 y12 y13 : Option V, ([some (.ref a), some (.ref m), some (.ref hl), z3, some (.int st), some (.int bg), some one, some far, some (.int (0 + (k : Int))), some (.int i), some (.ref e), some (.str (famT (home i))), z12, z13] : St) = [some (.ref a), some (.ref m), some (.ref hl), y3, some (.int st), some (.int bg), some one, some far, y8, y9, y10, y11, y12, y13] ∧ Drw (upd G11 hl (.lst (items8 ++ [.ref tq]))) m gl ∧ Th (upd G11 hl (.lst (items8 ++ [.ref tq]))) one d1 ∧ Th (upd G11 hl (.lst (items8 ++ [.ref tq]))) far d2 ∧
          ∃ items, (upd G11 hl (.lst (items8 ++ [.ref tq]))) hl = some (.lst items) ∧ (∀ v ∈ items, IsItem C (upd G11 hl (.lst (items8 ++ [.ref tq]))) v) ∧ items.length = 20 * j + (k + 1) :=
          ⟨_, _, _, _, _, _, _, rfl, D11.put hlm hlg, (t110.mono (.of sG11)).mono (tups_put el11), (t210.mono (.of sG11)).mono (tups_put el11), _, upd_same, fun v hv => (all11 v hv).put el11, by rw [List.length_append, ln8]; rfl⟩
        refine ⟨_, rfl, _, rfl, _, _, rfl, rfl, _, rfl, ite2 (fun c => ?_) (fun c => ?_)⟩
        · have c1 := of_decide_eq_true c
          have e0 : home i = 0 := by unfold home; rw [if_pos (by omega)]
          rw [e0] at fin ⊢
          refine ⟨rfl, _, rfl, if_ne rfl ?_⟩; exact fin
        · have c1 : ¬ (i : Int) < 12 := fun z => c (decide_eq_true z)
          refine ⟨_, rfl, _, _, rfl, rfl, _, rfl, ite2 (fun c2 => ?_) (fun c2 => ?_)⟩
          · have c3 := of_decide_eq_true c2
            have e0 : home i = 1 := by unfold home; rw [if_neg (by omega), if_pos (by omega)]
            rw [e0] at fin ⊢
            refine ⟨rfl, _, rfl, if_ne rfl ?_⟩; exact fin
          · have c3 : ¬ (i : Int) < 18 := fun z => c2 (decide_eq_true z)
            have e0 : home i = 2 := by unfold home; rw [if_neg (by omega), if_neg (by omega)]
            rw [e0] at fin ⊢
            refine ⟨rfl, _, rfl, if_ne rfl ?_⟩; exact fin
      · obtain ⟨z3, z8, z9, z10, z11, z12, z13, rfl, D8, t18, t28, items8, el8, hit8, ln8⟩ := hP
        refine ⟨_, rfl, _, rfl, one, far, rfl, fun H9 pn es acc len ep => ⟨pn, _, rfl, SqL.of ep, ?_⟩⟩
        have D9 := D8.same acc.s
        have es20 : (es.map V.ref).length = 20 := by rw [List.length_map, len]
        have l9 : H9 hl = some (.lst items8) := acc.s _ _ el8
        refine for_it (walk_enum (K := K) (a := pn) (xs := es.map V.ref)) (fun q σ H2 => ∃ y3 y8 y9 y10 y11 y12 y13 : Option V, σ = [some (.ref a), some (.ref m), some (.ref hl), y3, some (.int st), some (.int bg), some one, some far, y8, y9, y10, y11, y12, y13] ∧ Same H9 H2) ⟨_, _, _, _, _, _, _, rfl, fun _ _ e => e⟩ (fun _ _ _ _ hP => ?_) (fun q x σ H2 H3 hq hP hY => ?_) (fun σ H2 hP => ?_)
        · obtain ⟨_, _, _, _, _, _, _, _, S⟩ := hP
          exact SqL.of (S _ _ ep)
        · obtain ⟨y3, y8, y9, y10, y11, y12, y13, rfl, S⟩ := hP
          obtain ⟨tp, u1, u2, rfl, ntp2, rfl, h1, h2⟩ := hY
          rw [es20] at hq
          cases Option.some.inj h1
          obtain ⟨x, hx⟩ : ∃ x, es[q]? = some x := ⟨es[q]'(by omega), by simp [show q < es.length by omega]⟩
          have h3 : u2 = .ref x := by
            have h4 : (es.map V.ref)[q]? = some u2 := h2
            rw [List.getElem?_map, hx] at h4
            exact (Option.some.inj h4).symm
          subst h3
          have Sn : Same H2 (upd H2 tp (.tup [.int q, .ref x])) := same_new ntp2
          have St : Same H8 (upd H2 tp (.tup [.int q, .ref x])) := acc.s.trans (S.trans Sn)
          refine ⟨tp, _, rfl, SqT.of upd_same, rfl, _, _, rfl, _, _, rfl, rfl, ?_⟩
          refine ⟨_, rfl, _, rfl, _, rfl, _, rfl, q, one, far, d1, d2, x, rfl, hq, (acc.h q x hx).same (S.trans Sn), t18.mono (.of St), sm1, t28.mono (.of St), sm2, fun H4 S4 => ?_⟩
          exact ⟨true, rfl, iteF ⟨_, _, _, _, _, _, _, rfl, S.trans (Sn.trans S4)⟩⟩
        · obtain ⟨y3, y8, y9, y10, y11, y12, y13, rfl, S⟩ := hP
          exact ⟨_, _, _, _, _, _, _, _, _, _, _, rfl, D9.same S, items8, S _ _ l9, fun v hv => ((hit8 v hv).same acc.s).same S, by rw [ln8, Nat.mul_succ]⟩
    · obtain ⟨y3, y4, y5, y6, y7, y8, y9, y10, y11, y12, y13, rfl, D, items, el, hit, ln⟩ := hP
      refine ⟨(show 7 ≤ sizeLine by decide), fun p1 n1 => ?_⟩
      obtain ⟨G1, hG1, sG1, eG1⟩ := mkG (.lst ([6, 400, 5000, 200000, 20000, 24, 8].map V.int)) n1
      have hG2 : G1 = upd _ p1 (.lst [V.int 6, V.int 400, V.int 5000, V.int 200000, V.int 20000, V.int 24, V.int 8]) := hG1
      rw [← hG2]
      have dpi : ∀ xs : List Int, DpAll K G1 (xs.map V.int) (xs.map PyData.int) := fun xs => by
        induction xs with
        | nil => exact .nil
        | cons x r ih => exact .cons (.int x) ih
      refine ⟨_, .list ([6, 400, 5000, 200000, 20000, 24, 8].map PyData.int), rfl, .lst (SqL.of eG1) (dpi _), ⟨_, rfl⟩, by decide +kernel, by decide +kernel, by decide +kernel, by decide +kernel, rfl, _, rfl, if_ne ?_ ?_⟩
      · show V.str (PyData.list ([6, 400, 5000, 200000, 20000, 24, 8].map PyData.int)).shown = V.str "[6, 400, 5000, 200000, 20000, 24, 8]"
        refine congrArg V.str ?_
        decide +kernel
      · have l1 : G1 hl = some (.lst items) := sG1 _ _ el
        have all1 : ∀ v ∈ items, IsItem C G1 v := fun v hv => (hit v hv).same sG1
        refine ⟨_, rfl, _, rfl, ⟨_, SqL.of l1⟩, fun D nD => ?_⟩
        refine lc_list (K := K) (a := hl) (xs := items) (fun q H2 => Same G1 H2 ∧ H2 D = some (.lst [])) ⟨same_new nD, upd_same⟩ (fun q H2 _ hp => SqL.of (hp.1 _ _ l1)) (fun q x H2 hx hp => ?_) (fun H2 hp => ?_)
        · obtain ⟨i, one, far, d1, d2, t, e, z⟩ := (all1 x (List.mem_of_getElem? hx)).same hp.1
          obtain ⟨rfl, tt, ii, hh, t1, s1, t2, s2⟩ := z
          refine ⟨rfl, ?_⟩
          refine ⟨_, rfl, t, _, _, _, rfl, rfl, SqT.of tt, rfl, _, rfl, t, _, _, _, rfl, rfl, SqT.of tt, rfl, _, rfl, t, _, _, _, rfl, rfl, SqT.of tt, rfl, _, rfl, t, _, _, _, rfl, rfl, SqT.of tt, rfl, ?_⟩
          exact ⟨i, one, far, d1, d2, e, rfl, ii, hh, t1, s1, t2, s2, fun H3 S3 => ⟨true, rfl, iteF ⟨hp.1.trans S3, S3 _ _ hp.2⟩⟩⟩
        · refine ⟨Nat.zero_le _, fun p2 n2 => ?_⟩
          have s2 : Same H2 (upd H2 p2 (.lst [])) := same_new n2
          refine ⟨.list [], .list [], .lst (SqL.of (s2 _ _ hp.2)) .nil, .lst (SqL.of upd_same) .nil, rfl, rfl, ?_⟩
          exact q _
end
end L2.K1

/-! ### K1k -/
set_option Elab.async false
set_option linter.all false
set_option maxRecDepth 100000
set_option maxHeartbeats 20000000
namespace L2.K1
open PySem PySem.W PySem.Spec PyProof.Rows L2.Sl SlX
/-- an exception class of the program over a built-in one -/
abbrev XAt (K : Frag) (bmB : List Value) (newId : String) (C : Addr) : Prop := ∃ nm q N bs bm sn sub ab col dd k0 k1 k2 k3 k5, K.lookup C = some (excClassObj nm q C N bs bm true sn sub ab col dd k0 k1 k2 k3 k5 newId) ∧ excTail bmB bm = true
/-- a def of the program -/
abbrev LAt (K : Frag) (f : Addr) (x q : Str) (st : Stmt) : Prop := ∃ (oc : Value) (od : Option Addr) (kV doc pm : Value) (an : Option Addr) (cdv ct : Value) (osl : Array (Option Value)),
  K.lookup f = some ⟨oc, od, .func (PySem.W.fnOf x q (defArgs st) (defBody st) (defScope st) .none kV doc pm an cdv ct), osl⟩ ∧ PySem.W.codeIn K cdv q = true
theorem LAt.fun {K : Frag} {f : Addr} {x q : Str} {st : Stmt} (l : LAt K f x q st) (k : PySem.W.keepIn K (.ref f) = true) : ∃ fd, Fun K x q st f fd := by
  obtain ⟨oc, od, kV, doc, pm, an, cdv, ct, osl, lk, c⟩ := l
  exact ⟨_, fun_mk lk c k⟩
def okC (K : Frag) (C f : Addr) (fs : List Str) : Bool :=
  decide (findIn K (.ref C) "__setattr__" = some (some (.builtin "object.__setattr__"))) && (decide (findIn K (.ref C) "__getattribute__" = some (some (.builtin "BaseException.__getattribute__"))) && (decide (findIn K (.ref C) "__getattr__" = some none) &&
  (fs.all (fun x => decide (findIn K (.ref C) x = some none)) && (decide (typeIn K (.ref f) = some (.type "function")) && (keepIn K (.ref C) && (decide (subIn K (.ref C) (.type "BaseException") = some true) && (decide (typeIn K (.ref C) = some (.type "type")) && (hasDictIn K C &&
  (decide (findIn K (.ref C) "__class__" = some (some (.builtin "object.__class__"))) && decide (mroIn K C (.type "object") = some true))))))))))
theorem and2 {a b : Bool} (h : (a && b) = true) : a = true ∧ b = true := by
  cases a
  · cases h
  · exact ⟨rfl, h⟩
structure OkC (K : Frag) (C f : Addr) (fs : List Str) : Prop where
  sa : findIn K (.ref C) "__setattr__" = some (some (.builtin "object.__setattr__"))
  ga : findIn K (.ref C) "__getattribute__" = some (some (.builtin "BaseException.__getattribute__"))
  gg : findIn K (.ref C) "__getattr__" = some none
  no : ∀ x ∈ fs, findIn K (.ref C) x = some none
  tI : typeIn K (.ref f) = some (.type "function")
  kC : keepIn K (.ref C) = true
  exC : subIn K (.ref C) (.type "BaseException") = some true
  tyC : typeIn K (.ref C) = some (.type "type")
  hdC : hasDictIn K C = true
  cl : findIn K (.ref C) "__class__" = some (some (.builtin "object.__class__"))
  mr : mroIn K C (.type "object") = some true
theorem okC_ok {K : Frag} {C f : Addr} {fs : List Str} (h : okC K C f fs = true) : OkC K C f fs := by
  obtain ⟨h1, h⟩ := and2 h
  obtain ⟨h2, h⟩ := and2 h
  obtain ⟨h3, h⟩ := and2 h
  obtain ⟨h4, h⟩ := and2 h
  obtain ⟨h5, h⟩ := and2 h
  obtain ⟨h6, h⟩ := and2 h
  obtain ⟨h7, h⟩ := and2 h
  obtain ⟨h8, h⟩ := and2 h
  obtain ⟨h9, h⟩ := and2 h
  obtain ⟨h10, h11⟩ := and2 h
  exact ⟨of_decide_eq_true h1, of_decide_eq_true h2, of_decide_eq_true h3, fun x hx => of_decide_eq_true (List.all_eq_true.mp h4 x hx), of_decide_eq_true h5, h6, of_decide_eq_true h7, of_decide_eq_true h8, h9, of_decide_eq_true h10, of_decide_eq_true h11⟩
def at0 (l : List Addr) (i : Nat) : Addr := l.getD i 0
def all2 (n m : Nat) (p : Nat → Nat → Bool) : Bool := (List.range n).all fun i => (List.range m).all fun j => p i j
theorem all2_ok {n m : Nat} {p : Nat → Nat → Bool} (h : all2 n m p = true) : ∀ i j, i < n → j < m → p i j = true := fun i j hi hj =>
  List.all_eq_true.mp (List.all_eq_true.mp h i (List.mem_range.mpr hi)) j (List.mem_range.mpr hj)
def chkC (K : Frag) (CL FL : List Addr) : Bool := all2 20 1 fun i _ => okC K (at0 CL i) (at0 FL i) (fl i)
def chkM (K : Frag) (CL : List Addr) : Bool := all2 20 20 fun i j => decide (kitOne K (.ref (at0 CL i)) (.ref (at0 CL j)) = some (decide (i = j)))
def chkK (K : Frag) (CL ML : List Addr) : Bool := all2 20 3 fun i j => decide (kitOne K (.ref (at0 CL i)) (.ref (at0 ML j)) = some (decide (home i = j)))
def chkE (K : Frag) (CL ML : List Addr) : Bool := all2 20 3 fun i j => decide (exmOne K (.ref (at0 CL i)) (.ref (at0 ML j)) = some (decide (home i = j)))
def bltN : List String := ["ValueError", "LookupError", "ArithmeticError", "KeyError", "IndexError", "ZeroDivisionError", "OverflowError"]
def chkB (K : Frag) (CL : List Addr) : Bool := all2 20 7 fun i j => decide (kitOne K (.ref (at0 CL i)) (.type (bltN.getD j "")) = some (decide (home i = j)))
theorem all20 {p : Nat → Prop} (h0 : p 0) (h1 : p 1) (h2 : p 2) (h3 : p 3) (h4 : p 4) (h5 : p 5) (h6 : p 6) (h7 : p 7) (h8 : p 8) (h9 : p 9) (h10 : p 10) (h11 : p 11) (h12 : p 12) (h13 : p 13) (h14 : p 14) (h15 : p 15) (h16 : p 16) (h17 : p 17) (h18 : p 18) (h19 : p 19) : ∀ i, i < 20 → p i := fun i hi => match i, hi with
  | 0, _ => h0
  | 1, _ => h1
  | 2, _ => h2
  | 3, _ => h3
  | 4, _ => h4
  | 5, _ => h5
  | 6, _ => h6
  | 7, _ => h7
  | 8, _ => h8
  | 9, _ => h9
  | 10, _ => h10
  | 11, _ => h11
  | 12, _ => h12
  | 13, _ => h13
  | 14, _ => h14
  | 15, _ => h15
  | 16, _ => h16
  | 17, _ => h17
  | 18, _ => h18
  | 19, _ => h19
  | n + 20, hh => absurd hh (by omega)
theorem all3 {p : Nat → Prop} (h0 : p 0) (h1 : p 1) (h2 : p 2) : ∀ i, i < 3 → p i := fun i hi => match i, hi with
  | 0, _ => h0
  | 1, _ => h1
  | 2, _ => h2
theorem all_mk {P : Program} {w : World} {K : Frag} {h : Heap} {mg : Str → Option Value} {fa : Addr} (X : K.In h) (G : h.Ns mainGlobals mg) (hfa : mg "law" = some (.ref fa))
    {C0 C1 C2 C3 C4 C5 C6 C7 C8 C9 C10 C11 C12 C13 C14 C15 C16 C17 C18 C19 I0 I1 I2 I3 I4 I5 I6 I7 I8 I9 I10 I11 I12 I13 I14 I15 I16 I17 I18 I19 M0 M1 M2 fbg fdw ftg frd frr fro fbn frt fkd ffm ffd flw : Addr}
    (a0 : PySem.W.nsIn K mainGlobals "BadGear" = some (some (.ref C0)))
    (n0 : PySem.W.findIn K (.ref C0) "__init__" = some (some (.ref I0)))
    (a1 : PySem.W.nsIn K mainGlobals "BadTerm" = some (some (.ref C1)))
    (n1 : PySem.W.findIn K (.ref C1) "__init__" = some (some (.ref I1)))
    (a2 : PySem.W.nsIn K mainGlobals "BadSum" = some (some (.ref C2)))
    (n2 : PySem.W.findIn K (.ref C2) "__init__" = some (some (.ref I2)))
    (a3 : PySem.W.nsIn K mainGlobals "BadSizes" = some (some (.ref C3)))
    (n3 : PySem.W.findIn K (.ref C3) "__init__" = some (some (.ref I3)))
    (a4 : PySem.W.nsIn K mainGlobals "BadArrays" = some (some (.ref C4)))
    (n4 : PySem.W.findIn K (.ref C4) "__init__" = some (some (.ref I4)))
    (a5 : PySem.W.nsIn K mainGlobals "BadNumber" = some (some (.ref C5)))
    (n5 : PySem.W.findIn K (.ref C5) "__init__" = some (some (.ref I5)))
    (a6 : PySem.W.nsIn K mainGlobals "BadName" = some (some (.ref C6)))
    (n6 : PySem.W.findIn K (.ref C6) "__init__" = some (some (.ref I6)))
    (a7 : PySem.W.nsIn K mainGlobals "BadPlan" = some (some (.ref C7)))
    (n7 : PySem.W.findIn K (.ref C7) "__init__" = some (some (.ref I7)))
    (a8 : PySem.W.nsIn K mainGlobals "BadDefinition" = some (some (.ref C8)))
    (n8 : PySem.W.findIn K (.ref C8) "__init__" = some (some (.ref I8)))
    (a9 : PySem.W.nsIn K mainGlobals "BadDeed" = some (some (.ref C9)))
    (n9 : PySem.W.findIn K (.ref C9) "__init__" = some (some (.ref I9)))
    (a10 : PySem.W.nsIn K mainGlobals "BadStep" = some (some (.ref C10)))
    (n10 : PySem.W.findIn K (.ref C10) "__init__" = some (some (.ref I10)))
    (a11 : PySem.W.nsIn K mainGlobals "BadLine" = some (some (.ref C11)))
    (n11 : PySem.W.findIn K (.ref C11) "__init__" = some (some (.ref I11)))
    (a12 : PySem.W.nsIn K mainGlobals "NoBox" = some (some (.ref C12)))
    (n12 : PySem.W.findIn K (.ref C12) "__init__" = some (some (.ref I12)))
    (a13 : PySem.W.nsIn K mainGlobals "NoName" = some (some (.ref C13)))
    (n13 : PySem.W.findIn K (.ref C13) "__init__" = some (some (.ref I13)))
    (a14 : PySem.W.nsIn K mainGlobals "NotDefined" = some (some (.ref C14)))
    (n14 : PySem.W.findIn K (.ref C14) "__init__" = some (some (.ref I14)))
    (a15 : PySem.W.nsIn K mainGlobals "Unfit" = some (some (.ref C15)))
    (n15 : PySem.W.findIn K (.ref C15) "__init__" = some (some (.ref I15)))
    (a16 : PySem.W.nsIn K mainGlobals "Ring" = some (some (.ref C16)))
    (n16 : PySem.W.findIn K (.ref C16) "__init__" = some (some (.ref I16)))
    (a17 : PySem.W.nsIn K mainGlobals "NotSo" = some (some (.ref C17)))
    (n17 : PySem.W.findIn K (.ref C17) "__init__" = some (some (.ref I17)))
    (a18 : PySem.W.nsIn K mainGlobals "TooGreat" = some (some (.ref C18)))
    (n18 : PySem.W.findIn K (.ref C18) "__init__" = some (some (.ref I18)))
    (a19 : PySem.W.nsIn K mainGlobals "Full" = some (some (.ref C19)))
    (n19 : PySem.W.findIn K (.ref C19) "__init__" = some (some (.ref I19)))
    (x0 : XAt K [.type "ValueError", .type "Exception", .type "BaseException", .type "object"] "ValueError.__new__" C0)
    (l0 : LAt K I0 "__init__" "BadGear.__init__" (ini 0))
    (x1 : XAt K [.type "ValueError", .type "Exception", .type "BaseException", .type "object"] "ValueError.__new__" C1)
    (l1 : LAt K I1 "__init__" "BadTerm.__init__" (ini 1))
    (x2 : XAt K [.type "ValueError", .type "Exception", .type "BaseException", .type "object"] "ValueError.__new__" C2)
    (l2 : LAt K I2 "__init__" "BadSum.__init__" (ini 2))
    (x3 : XAt K [.type "ValueError", .type "Exception", .type "BaseException", .type "object"] "ValueError.__new__" C3)
    (l3 : LAt K I3 "__init__" "BadSizes.__init__" (ini 3))
    (x4 : XAt K [.type "ValueError", .type "Exception", .type "BaseException", .type "object"] "ValueError.__new__" C4)
    (l4 : LAt K I4 "__init__" "BadArrays.__init__" (ini 4))
    (x5 : XAt K [.type "ValueError", .type "Exception", .type "BaseException", .type "object"] "ValueError.__new__" C5)
    (l5 : LAt K I5 "__init__" "BadNumber.__init__" (ini 5))
    (x6 : XAt K [.type "ValueError", .type "Exception", .type "BaseException", .type "object"] "ValueError.__new__" C6)
    (l6 : LAt K I6 "__init__" "BadName.__init__" (ini 6))
    (x7 : XAt K [.type "ValueError", .type "Exception", .type "BaseException", .type "object"] "ValueError.__new__" C7)
    (l7 : LAt K I7 "__init__" "BadPlan.__init__" (ini 7))
    (x8 : XAt K [.type "ValueError", .type "Exception", .type "BaseException", .type "object"] "ValueError.__new__" C8)
    (l8 : LAt K I8 "__init__" "BadDefinition.__init__" (ini 8))
    (x9 : XAt K [.type "ValueError", .type "Exception", .type "BaseException", .type "object"] "ValueError.__new__" C9)
    (l9 : LAt K I9 "__init__" "BadDeed.__init__" (ini 9))
    (x10 : XAt K [.type "ValueError", .type "Exception", .type "BaseException", .type "object"] "ValueError.__new__" C10)
    (l10 : LAt K I10 "__init__" "BadStep.__init__" (ini 10))
    (x11 : XAt K [.type "ValueError", .type "Exception", .type "BaseException", .type "object"] "ValueError.__new__" C11)
    (l11 : LAt K I11 "__init__" "BadLine.__init__" (ini 11))
    (x12 : XAt K [.type "LookupError", .type "Exception", .type "BaseException", .type "object"] "LookupError.__new__" C12)
    (l12 : LAt K I12 "__init__" "NoBox.__init__" (ini 12))
    (x13 : XAt K [.type "LookupError", .type "Exception", .type "BaseException", .type "object"] "LookupError.__new__" C13)
    (l13 : LAt K I13 "__init__" "NoName.__init__" (ini 13))
    (x14 : XAt K [.type "LookupError", .type "Exception", .type "BaseException", .type "object"] "LookupError.__new__" C14)
    (l14 : LAt K I14 "__init__" "NotDefined.__init__" (ini 14))
    (x15 : XAt K [.type "LookupError", .type "Exception", .type "BaseException", .type "object"] "LookupError.__new__" C15)
    (l15 : LAt K I15 "__init__" "Unfit.__init__" (ini 15))
    (x16 : XAt K [.type "LookupError", .type "Exception", .type "BaseException", .type "object"] "LookupError.__new__" C16)
    (l16 : LAt K I16 "__init__" "Ring.__init__" (ini 16))
    (x17 : XAt K [.type "LookupError", .type "Exception", .type "BaseException", .type "object"] "LookupError.__new__" C17)
    (l17 : LAt K I17 "__init__" "NotSo.__init__" (ini 17))
    (x18 : XAt K [.type "ArithmeticError", .type "Exception", .type "BaseException", .type "object"] "ArithmeticError.__new__" C18)
    (l18 : LAt K I18 "__init__" "TooGreat.__init__" (ini 18))
    (x19 : XAt K [.type "ArithmeticError", .type "Exception", .type "BaseException", .type "object"] "ArithmeticError.__new__" C19)
    (l19 : LAt K I19 "__init__" "Full.__init__" (ini 19))
    (m0 : PySem.W.nsIn K mainGlobals "Refused" = some (some (.ref M0)))
    (m1 : PySem.W.nsIn K mainGlobals "Barred" = some (some (.ref M1)))
    (m2 : PySem.W.nsIn K mainGlobals "Beyond" = some (some (.ref M2)))
    (a_bg : PySem.W.nsIn K mainGlobals "_law_begun" = some (some (.ref fbg)))
    (l_bg : LAt K fbg "_law_begun" "_law_begun" s_law_begun)
    (k_bg : PySem.W.keepIn K (.ref fbg) = true)
    (a_dw : PySem.W.nsIn K mainGlobals "_law_draw" = some (some (.ref fdw)))
    (l_dw : LAt K fdw "_law_draw" "_law_draw" s_law_draw)
    (k_dw : PySem.W.keepIn K (.ref fdw) = true)
    (a_tg : PySem.W.nsIn K mainGlobals "_law_thing" = some (some (.ref ftg)))
    (l_tg : LAt K ftg "_law_thing" "_law_thing" s_law_thing)
    (k_tg : PySem.W.keepIn K (.ref ftg) = true)
    (a_rd : PySem.W.nsIn K mainGlobals "_law_raised" = some (some (.ref frd)))
    (l_rd : LAt K frd "_law_raised" "_law_raised" s_rd)
    (k_rd : PySem.W.keepIn K (.ref frd) = true)
    (a_rr : PySem.W.nsIn K mainGlobals "_law_raise_refused" = some (some (.ref frr)))
    (l_rr : LAt K frr "_law_raise_refused" "_law_raise_refused" s_rr)
    (k_rr : PySem.W.keepIn K (.ref frr) = true)
    (a_ro : PySem.W.nsIn K mainGlobals "_law_raise_other" = some (some (.ref fro)))
    (l_ro : LAt K fro "_law_raise_other" "_law_raise_other" s_ro)
    (k_ro : PySem.W.keepIn K (.ref fro) = true)
    (a_bn : PySem.W.nsIn K mainGlobals "_law_by_names" = some (some (.ref fbn)))
    (l_bn : LAt K fbn "_law_by_names" "_law_by_names" s_bn)
    (k_bn : PySem.W.keepIn K (.ref fbn) = true)
    (a_rt : PySem.W.nsIn K mainGlobals "_law_right" = some (some (.ref frt)))
    (l_rt : LAt K frt "_law_right" "_law_right" s_rt)
    (k_rt : PySem.W.keepIn K (.ref frt) = true)
    (a_kd : PySem.W.nsIn K mainGlobals "_law_kinds" = some (some (.ref fkd)))
    (l_kd : LAt K fkd "_law_kinds" "_law_kinds" s_kd)
    (k_kd : PySem.W.keepIn K (.ref fkd) = true)
    (a_fm : PySem.W.nsIn K mainGlobals "_law_families" = some (some (.ref ffm)))
    (l_fm : LAt K ffm "_law_families" "_law_families" s_fm)
    (k_fm : PySem.W.keepIn K (.ref ffm) = true)
    (a_fd : PySem.W.nsIn K mainGlobals "_law_fields" = some (some (.ref ffd)))
    (l_fd : LAt K ffd "_law_fields" "_law_fields" s_fd)
    (k_fd : PySem.W.keepIn K (.ref ffd) = true)
    (a_lw : PySem.W.nsIn K mainGlobals "law" = some (some (.ref flw)))
    (l_lw : LAt K flw "law" "law" s_lw)
    (k_lw : PySem.W.keepIn K (.ref flw) = true)
    (c_MOST : ∃ t, PySem.W.nsIn K mainGlobals "MOST" = some (some (.int 6 t)))
    (c_LONG : ∃ t, PySem.W.nsIn K mainGlobals "LONG" = some (some (.int 400 t)))
    (c_HEAVY : ∃ t, PySem.W.nsIn K mainGlobals "HEAVY" = some (some (.int 5000 t)))
    (c_WIDE : ∃ t, PySem.W.nsIn K mainGlobals "WIDE" = some (some (.int 200000 t)))
    (c_CHOICES : ∃ t, PySem.W.nsIn K mainGlobals "CHOICES" = some (some (.int 20000 t)))
    (c_GREATEST : ∃ t, PySem.W.nsIn K mainGlobals "GREATEST" = some (some (.int 24 t)))
    (c_PAIRS : ∃ t, PySem.W.nsIn K mainGlobals "PAIRS" = some (some (.int 8 t)))
    (z_len : PySem.W.nsIn K mainGlobals "len" = some none)
    (z_range : PySem.W.nsIn K mainGlobals "range" = some none)
    (z_enumerate : PySem.W.nsIn K mainGlobals "enumerate" = some none)
    (z_repr : PySem.W.nsIn K mainGlobals "repr" = some none)
    (z_isinstance : PySem.W.nsIn K mainGlobals "isinstance" = some none)
    (z_ValueError : PySem.W.nsIn K mainGlobals "ValueError" = some none)
    (z_LookupError : PySem.W.nsIn K mainGlobals "LookupError" = some none)
    (z_ArithmeticError : PySem.W.nsIn K mainGlobals "ArithmeticError" = some none)
    (z_KeyError : PySem.W.nsIn K mainGlobals "KeyError" = some none)
    (z_IndexError : PySem.W.nsIn K mainGlobals "IndexError" = some none)
    (z_ZeroDivisionError : PySem.W.nsIn K mainGlobals "ZeroDivisionError" = some none)
    (z_OverflowError : PySem.W.nsIn K mainGlobals "OverflowError" = some none)
    (sp : PySem.W.specialIn K (.builtin "object.__class__") "__get__" = some (some (.builtin "getset_descriptor.__get__")))
    (tk : PySem.W.takesIn K (.builtin "object.__class__") = some true)
    (qC : chkC K [C0, C1, C2, C3, C4, C5, C6, C7, C8, C9, C10, C11, C12, C13, C14, C15, C16, C17, C18, C19] [I0, I1, I2, I3, I4, I5, I6, I7, I8, I9, I10, I11, I12, I13, I14, I15, I16, I17, I18, I19] = true)
    (qM : chkM K [C0, C1, C2, C3, C4, C5, C6, C7, C8, C9, C10, C11, C12, C13, C14, C15, C16, C17, C18, C19] = true)
    (qK : chkK K [C0, C1, C2, C3, C4, C5, C6, C7, C8, C9, C10, C11, C12, C13, C14, C15, C16, C17, C18, C19] [M0, M1, M2] = true)
    (qE : chkE K [C0, C1, C2, C3, C4, C5, C6, C7, C8, C9, C10, C11, C12, C13, C14, C15, C16, C17, C18, C19] [M0, M1, M2] = true)
    (qB : chkB K [C0, C1, C2, C3, C4, C5, C6, C7, C8, C9, C10, C11, C12, C13, C14, C15, C16, C17, C18, C19] = true)
    : ∃ fd : FuncData, (∀ (s : Shared) (u : Value), BindsTo s fd ⟨[u], []⟩ [("script", u)]) ∧ ∀ base : Heap, K.In base → base.Ns mainGlobals mg → FnG P w K mg base CX0 3 fa fd ["script"] (spLaw K) := by
  have e := hfa.symm.trans (PySem.W.mg_of X G a_lw)
  cases e
  have oc : ∀ i, i < 20 → OkC K (at0 [C0, C1, C2, C3, C4, C5, C6, C7, C8, C9, C10, C11, C12, C13, C14, C15, C16, C17, C18, C19] i) (at0 [I0, I1, I2, I3, I4, I5, I6, I7, I8, I9, I10, I11, I12, I13, I14, I15, I16, I17, I18, I19] i) (fl i) := fun i hi => okC_ok (all2_ok qC i 0 hi (by decide))
  have e0 : EC K C0 I0 (qn 0) (ini 0) (fl 0) := by
    have o : OkC K C0 I0 (fl 0) := oc 0 (by decide)
    obtain ⟨nm, q, N, bs, bm, sn, sub, ab, col, dd, k0, k1, k2, k3, k5, lk, tl⟩ := x0
    exact ⟨⟨_, _, _, _, nm, q, N, bs, bm, sn, sub, ab, col, dd, k0, k1, k2, k3, k5, PySem.F.excBase_ValueError, PySem.F.store_ValueError, lk, tl⟩, o.sa, o.ga, o.gg, o.no, n0, o.tI, o.kC, o.exC, o.tyC, o.hdC, l0⟩
  have e1 : EC K C1 I1 (qn 1) (ini 1) (fl 1) := by
    have o : OkC K C1 I1 (fl 1) := oc 1 (by decide)
    obtain ⟨nm, q, N, bs, bm, sn, sub, ab, col, dd, k0, k1, k2, k3, k5, lk, tl⟩ := x1
    exact ⟨⟨_, _, _, _, nm, q, N, bs, bm, sn, sub, ab, col, dd, k0, k1, k2, k3, k5, PySem.F.excBase_ValueError, PySem.F.store_ValueError, lk, tl⟩, o.sa, o.ga, o.gg, o.no, n1, o.tI, o.kC, o.exC, o.tyC, o.hdC, l1⟩
  have e2 : EC K C2 I2 (qn 2) (ini 2) (fl 2) := by
    have o : OkC K C2 I2 (fl 2) := oc 2 (by decide)
    obtain ⟨nm, q, N, bs, bm, sn, sub, ab, col, dd, k0, k1, k2, k3, k5, lk, tl⟩ := x2
    exact ⟨⟨_, _, _, _, nm, q, N, bs, bm, sn, sub, ab, col, dd, k0, k1, k2, k3, k5, PySem.F.excBase_ValueError, PySem.F.store_ValueError, lk, tl⟩, o.sa, o.ga, o.gg, o.no, n2, o.tI, o.kC, o.exC, o.tyC, o.hdC, l2⟩
  have e3 : EC K C3 I3 (qn 3) (ini 3) (fl 3) := by
    have o : OkC K C3 I3 (fl 3) := oc 3 (by decide)
    obtain ⟨nm, q, N, bs, bm, sn, sub, ab, col, dd, k0, k1, k2, k3, k5, lk, tl⟩ := x3
    exact ⟨⟨_, _, _, _, nm, q, N, bs, bm, sn, sub, ab, col, dd, k0, k1, k2, k3, k5, PySem.F.excBase_ValueError, PySem.F.store_ValueError, lk, tl⟩, o.sa, o.ga, o.gg, o.no, n3, o.tI, o.kC, o.exC, o.tyC, o.hdC, l3⟩
  have e4 : EC K C4 I4 (qn 4) (ini 4) (fl 4) := by
    have o : OkC K C4 I4 (fl 4) := oc 4 (by decide)
    obtain ⟨nm, q, N, bs, bm, sn, sub, ab, col, dd, k0, k1, k2, k3, k5, lk, tl⟩ := x4
    exact ⟨⟨_, _, _, _, nm, q, N, bs, bm, sn, sub, ab, col, dd, k0, k1, k2, k3, k5, PySem.F.excBase_ValueError, PySem.F.store_ValueError, lk, tl⟩, o.sa, o.ga, o.gg, o.no, n4, o.tI, o.kC, o.exC, o.tyC, o.hdC, l4⟩
  have e5 : EC K C5 I5 (qn 5) (ini 5) (fl 5) := by
    have o : OkC K C5 I5 (fl 5) := oc 5 (by decide)
    obtain ⟨nm, q, N, bs, bm, sn, sub, ab, col, dd, k0, k1, k2, k3, k5, lk, tl⟩ := x5
    exact ⟨⟨_, _, _, _, nm, q, N, bs, bm, sn, sub, ab, col, dd, k0, k1, k2, k3, k5, PySem.F.excBase_ValueError, PySem.F.store_ValueError, lk, tl⟩, o.sa, o.ga, o.gg, o.no, n5, o.tI, o.kC, o.exC, o.tyC, o.hdC, l5⟩
  have e6 : EC K C6 I6 (qn 6) (ini 6) (fl 6) := by
    have o : OkC K C6 I6 (fl 6) := oc 6 (by decide)
    obtain ⟨nm, q, N, bs, bm, sn, sub, ab, col, dd, k0, k1, k2, k3, k5, lk, tl⟩ := x6
    exact ⟨⟨_, _, _, _, nm, q, N, bs, bm, sn, sub, ab, col, dd, k0, k1, k2, k3, k5, PySem.F.excBase_ValueError, PySem.F.store_ValueError, lk, tl⟩, o.sa, o.ga, o.gg, o.no, n6, o.tI, o.kC, o.exC, o.tyC, o.hdC, l6⟩
  have e7 : EC K C7 I7 (qn 7) (ini 7) (fl 7) := by
    have o : OkC K C7 I7 (fl 7) := oc 7 (by decide)
    obtain ⟨nm, q, N, bs, bm, sn, sub, ab, col, dd, k0, k1, k2, k3, k5, lk, tl⟩ := x7
    exact ⟨⟨_, _, _, _, nm, q, N, bs, bm, sn, sub, ab, col, dd, k0, k1, k2, k3, k5, PySem.F.excBase_ValueError, PySem.F.store_ValueError, lk, tl⟩, o.sa, o.ga, o.gg, o.no, n7, o.tI, o.kC, o.exC, o.tyC, o.hdC, l7⟩
  have e8 : EC K C8 I8 (qn 8) (ini 8) (fl 8) := by
    have o : OkC K C8 I8 (fl 8) := oc 8 (by decide)
    obtain ⟨nm, q, N, bs, bm, sn, sub, ab, col, dd, k0, k1, k2, k3, k5, lk, tl⟩ := x8
    exact ⟨⟨_, _, _, _, nm, q, N, bs, bm, sn, sub, ab, col, dd, k0, k1, k2, k3, k5, PySem.F.excBase_ValueError, PySem.F.store_ValueError, lk, tl⟩, o.sa, o.ga, o.gg, o.no, n8, o.tI, o.kC, o.exC, o.tyC, o.hdC, l8⟩
  have e9 : EC K C9 I9 (qn 9) (ini 9) (fl 9) := by
    have o : OkC K C9 I9 (fl 9) := oc 9 (by decide)
    obtain ⟨nm, q, N, bs, bm, sn, sub, ab, col, dd, k0, k1, k2, k3, k5, lk, tl⟩ := x9
    exact ⟨⟨_, _, _, _, nm, q, N, bs, bm, sn, sub, ab, col, dd, k0, k1, k2, k3, k5, PySem.F.excBase_ValueError, PySem.F.store_ValueError, lk, tl⟩, o.sa, o.ga, o.gg, o.no, n9, o.tI, o.kC, o.exC, o.tyC, o.hdC, l9⟩
  have e10 : EC K C10 I10 (qn 10) (ini 10) (fl 10) := by
    have o : OkC K C10 I10 (fl 10) := oc 10 (by decide)
    obtain ⟨nm, q, N, bs, bm, sn, sub, ab, col, dd, k0, k1, k2, k3, k5, lk, tl⟩ := x10
    exact ⟨⟨_, _, _, _, nm, q, N, bs, bm, sn, sub, ab, col, dd, k0, k1, k2, k3, k5, PySem.F.excBase_ValueError, PySem.F.store_ValueError, lk, tl⟩, o.sa, o.ga, o.gg, o.no, n10, o.tI, o.kC, o.exC, o.tyC, o.hdC, l10⟩
  have e11 : EC K C11 I11 (qn 11) (ini 11) (fl 11) := by
    have o : OkC K C11 I11 (fl 11) := oc 11 (by decide)
    obtain ⟨nm, q, N, bs, bm, sn, sub, ab, col, dd, k0, k1, k2, k3, k5, lk, tl⟩ := x11
    exact ⟨⟨_, _, _, _, nm, q, N, bs, bm, sn, sub, ab, col, dd, k0, k1, k2, k3, k5, PySem.F.excBase_ValueError, PySem.F.store_ValueError, lk, tl⟩, o.sa, o.ga, o.gg, o.no, n11, o.tI, o.kC, o.exC, o.tyC, o.hdC, l11⟩
  have e12 : EC K C12 I12 (qn 12) (ini 12) (fl 12) := by
    have o : OkC K C12 I12 (fl 12) := oc 12 (by decide)
    obtain ⟨nm, q, N, bs, bm, sn, sub, ab, col, dd, k0, k1, k2, k3, k5, lk, tl⟩ := x12
    exact ⟨⟨_, _, _, _, nm, q, N, bs, bm, sn, sub, ab, col, dd, k0, k1, k2, k3, k5, PySem.F.excBase_LookupError, PySem.F.store_LookupError, lk, tl⟩, o.sa, o.ga, o.gg, o.no, n12, o.tI, o.kC, o.exC, o.tyC, o.hdC, l12⟩
  have e13 : EC K C13 I13 (qn 13) (ini 13) (fl 13) := by
    have o : OkC K C13 I13 (fl 13) := oc 13 (by decide)
    obtain ⟨nm, q, N, bs, bm, sn, sub, ab, col, dd, k0, k1, k2, k3, k5, lk, tl⟩ := x13
    exact ⟨⟨_, _, _, _, nm, q, N, bs, bm, sn, sub, ab, col, dd, k0, k1, k2, k3, k5, PySem.F.excBase_LookupError, PySem.F.store_LookupError, lk, tl⟩, o.sa, o.ga, o.gg, o.no, n13, o.tI, o.kC, o.exC, o.tyC, o.hdC, l13⟩
  have e14 : EC K C14 I14 (qn 14) (ini 14) (fl 14) := by
    have o : OkC K C14 I14 (fl 14) := oc 14 (by decide)
    obtain ⟨nm, q, N, bs, bm, sn, sub, ab, col, dd, k0, k1, k2, k3, k5, lk, tl⟩ := x14
    exact ⟨⟨_, _, _, _, nm, q, N, bs, bm, sn, sub, ab, col, dd, k0, k1, k2, k3, k5, PySem.F.excBase_LookupError, PySem.F.store_LookupError, lk, tl⟩, o.sa, o.ga, o.gg, o.no, n14, o.tI, o.kC, o.exC, o.tyC, o.hdC, l14⟩
  have e15 : EC K C15 I15 (qn 15) (ini 15) (fl 15) := by
    have o : OkC K C15 I15 (fl 15) := oc 15 (by decide)
    obtain ⟨nm, q, N, bs, bm, sn, sub, ab, col, dd, k0, k1, k2, k3, k5, lk, tl⟩ := x15
    exact ⟨⟨_, _, _, _, nm, q, N, bs, bm, sn, sub, ab, col, dd, k0, k1, k2, k3, k5, PySem.F.excBase_LookupError, PySem.F.store_LookupError, lk, tl⟩, o.sa, o.ga, o.gg, o.no, n15, o.tI, o.kC, o.exC, o.tyC, o.hdC, l15⟩
  have e16 : EC K C16 I16 (qn 16) (ini 16) (fl 16) := by
    have o : OkC K C16 I16 (fl 16) := oc 16 (by decide)
    obtain ⟨nm, q, N, bs, bm, sn, sub, ab, col, dd, k0, k1, k2, k3, k5, lk, tl⟩ := x16
    exact ⟨⟨_, _, _, _, nm, q, N, bs, bm, sn, sub, ab, col, dd, k0, k1, k2, k3, k5, PySem.F.excBase_LookupError, PySem.F.store_LookupError, lk, tl⟩, o.sa, o.ga, o.gg, o.no, n16, o.tI, o.kC, o.exC, o.tyC, o.hdC, l16⟩
  have e17 : EC K C17 I17 (qn 17) (ini 17) (fl 17) := by
    have o : OkC K C17 I17 (fl 17) := oc 17 (by decide)
    obtain ⟨nm, q, N, bs, bm, sn, sub, ab, col, dd, k0, k1, k2, k3, k5, lk, tl⟩ := x17
    exact ⟨⟨_, _, _, _, nm, q, N, bs, bm, sn, sub, ab, col, dd, k0, k1, k2, k3, k5, PySem.F.excBase_LookupError, PySem.F.store_LookupError, lk, tl⟩, o.sa, o.ga, o.gg, o.no, n17, o.tI, o.kC, o.exC, o.tyC, o.hdC, l17⟩
  have e18 : EC K C18 I18 (qn 18) (ini 18) (fl 18) := by
    have o : OkC K C18 I18 (fl 18) := oc 18 (by decide)
    obtain ⟨nm, q, N, bs, bm, sn, sub, ab, col, dd, k0, k1, k2, k3, k5, lk, tl⟩ := x18
    exact ⟨⟨_, _, _, _, nm, q, N, bs, bm, sn, sub, ab, col, dd, k0, k1, k2, k3, k5, PySem.F.excBase_ArithmeticError, PySem.F.store_ArithmeticError, lk, tl⟩, o.sa, o.ga, o.gg, o.no, n18, o.tI, o.kC, o.exC, o.tyC, o.hdC, l18⟩
  have e19 : EC K C19 I19 (qn 19) (ini 19) (fl 19) := by
    have o : OkC K C19 I19 (fl 19) := oc 19 (by decide)
    obtain ⟨nm, q, N, bs, bm, sn, sub, ab, col, dd, k0, k1, k2, k3, k5, lk, tl⟩ := x19
    exact ⟨⟨_, _, _, _, nm, q, N, bs, bm, sn, sub, ab, col, dd, k0, k1, k2, k3, k5, PySem.F.excBase_ArithmeticError, PySem.F.store_ArithmeticError, lk, tl⟩, o.sa, o.ga, o.gg, o.no, n19, o.tI, o.kC, o.exC, o.tyC, o.hdC, l19⟩
  have T : Txt K mg (at0 [C0, C1, C2, C3, C4, C5, C6, C7, C8, C9, C10, C11, C12, C13, C14, C15, C16, C17, C18, C19]) (at0 [I0, I1, I2, I3, I4, I5, I6, I7, I8, I9, I10, I11, I12, I13, I14, I15, I16, I17, I18, I19]) (at0 [M0, M1, M2]) :=
    { cls := all20 e0 e1 e2 e3 e4 e5 e6 e7 e8 e9 e10 e11 e12 e13 e14 e15 e16 e17 e18 e19
      g := all20 (PySem.W.mg_of X G a0) (PySem.W.mg_of X G a1) (PySem.W.mg_of X G a2) (PySem.W.mg_of X G a3) (PySem.W.mg_of X G a4) (PySem.W.mg_of X G a5) (PySem.W.mg_of X G a6) (PySem.W.mg_of X G a7) (PySem.W.mg_of X G a8) (PySem.W.mg_of X G a9) (PySem.W.mg_of X G a10) (PySem.W.mg_of X G a11) (PySem.W.mg_of X G a12) (PySem.W.mg_of X G a13) (PySem.W.mg_of X G a14) (PySem.W.mg_of X G a15) (PySem.W.mg_of X G a16) (PySem.W.mg_of X G a17) (PySem.W.mg_of X G a18) (PySem.W.mg_of X G a19)
      gF := all3 (PySem.W.mg_of X G m0) (PySem.W.mg_of X G m1) (PySem.W.mg_of X G m2)
      xr := fun i hi => ⟨(oc i hi).ga, (oc i hi).gg, (oc i hi).exC, (oc i hi).hdC, (oc i hi).cl, sp, tk, (oc i hi).mr⟩
      mat := fun i j hi hj => of_decide_eq_true (all2_ok qM i j hi hj)
      fmk := fun i j hi hj => of_decide_eq_true (all2_ok qK i j hi hj)
      fme := fun i j hi hj => of_decide_eq_true (all2_ok qE i j hi hj)
      blt := fun i j hi hj => of_decide_eq_true (all2_ok qB i j hi hj) }
  obtain ⟨dbg, Fbg⟩ := l_bg.fun k_bg
  have bbg : Binds K dbg ["script"] [] := Fbg.binds fun _ _ _ _ _ _ us hl => match us, hl with | [_], _ => rfl
  obtain ⟨ddw, Fdw⟩ := l_dw.fun k_dw
  have bdw : Binds K ddw ["m", "many"] [] := Fdw.binds fun _ _ _ _ _ _ us hl => match us, hl with | [_, _], _ => rfl
  obtain ⟨dtg, Ftg⟩ := l_tg.fun k_tg
  have btg : Binds K dtg ["m"] [] := Ftg.binds fun _ _ _ _ _ _ us hl => match us, hl with | [_], _ => rfl
  obtain ⟨drd, Frd⟩ := l_rd.fun k_rd
  have brd : Binds K drd ["way", "one", "far"] [] := Frd.binds fun _ _ _ _ _ _ us hl => match us, hl with | [_, _, _], _ => rfl
  obtain ⟨drr, Frr⟩ := l_rr.fun k_rr
  have brr : Binds K drr ["way", "one"] [] := Frr.binds fun _ _ _ _ _ _ us hl => match us, hl with | [_, _], _ => rfl
  obtain ⟨dro, Fro⟩ := l_ro.fun k_ro
  have bro : Binds K dro ["way", "one", "far"] [] := Fro.binds fun _ _ _ _ _ _ us hl => match us, hl with | [_, _, _], _ => rfl
  obtain ⟨dbn, Fbn⟩ := l_bn.fun k_bn
  have bbn : Binds K dbn ["one", "far"] [] := Fbn.binds fun _ _ _ _ _ _ us hl => match us, hl with | [_, _], _ => rfl
  obtain ⟨drt, Frt⟩ := l_rt.fun k_rt
  have brt : Binds K drt ["way", "one", "far", "e"] [] := Frt.binds fun _ _ _ _ _ _ us hl => match us, hl with | [_, _, _, _], _ => rfl
  obtain ⟨dkd, Fkd⟩ := l_kd.fun k_kd
  have bkd : Binds K dkd ["e"] [] := Fkd.binds fun _ _ _ _ _ _ us hl => match us, hl with | [_], _ => rfl
  obtain ⟨dfm, Ffm⟩ := l_fm.fun k_fm
  have bfm : Binds K dfm ["e"] [] := Ffm.binds fun _ _ _ _ _ _ us hl => match us, hl with | [_], _ => rfl
  obtain ⟨dfd, Ffd⟩ := l_fd.fun k_fd
  have bfd : Binds K dfd ["way", "e"] [] := Ffd.binds fun _ _ _ _ _ _ us hl => match us, hl with | [_, _], _ => rfl
  obtain ⟨dlw, Flw⟩ := l_lw.fun k_lw
  have blw : Binds K dlw ["script"] [] := Flw.binds fun _ _ _ _ _ _ us hl => match us, hl with | [_], _ => rfl
  have R : RtTxt K mg fkd ffm ffd dkd dfm dfd :=
    { F_kd := Fkd, b_kd := bkd, g_kd := PySem.W.mg_of X G a_kd, F_fm := Ffm, b_fm := bfm, g_fm := PySem.W.mg_of X G a_fm, F_fd := Ffd, b_fd := bfd, g_fd := PySem.W.mg_of X G a_fd
      n_isinstance := PySem.W.mg_none_of X G z_isinstance, n_enumerate := PySem.W.mg_none_of X G z_enumerate, n_range := PySem.W.mg_none_of X G z_range, n_repr := PySem.W.mg_none_of X G z_repr, n_ValueError := PySem.W.mg_none_of X G z_ValueError, n_LookupError := PySem.W.mg_none_of X G z_LookupError, n_ArithmeticError := PySem.W.mg_none_of X G z_ArithmeticError, n_KeyError := PySem.W.mg_none_of X G z_KeyError, n_IndexError := PySem.W.mg_none_of X G z_IndexError, n_ZeroDivisionError := PySem.W.mg_none_of X G z_ZeroDivisionError, n_OverflowError := PySem.W.mg_none_of X G z_OverflowError }
  have L : LwTxt K mg fbg fdw ftg frd frr fro fbn frt dbg ddw dtg drd drr dro dbn drt :=
    { F_bg := Fbg, b_bg := bbg, g_bg := PySem.W.mg_of X G a_bg, F_dw := Fdw, b_dw := bdw, g_dw := PySem.W.mg_of X G a_dw, F_tg := Ftg, b_tg := btg, g_tg := PySem.W.mg_of X G a_tg, F_rd := Frd, b_rd := brd, g_rd := PySem.W.mg_of X G a_rd, F_rr := Frr, b_rr := brr, g_rr := PySem.W.mg_of X G a_rr, F_ro := Fro, b_ro := bro, g_ro := PySem.W.mg_of X G a_ro, F_bn := Fbn, b_bn := bbn, g_bn := PySem.W.mg_of X G a_bn, F_rt := Frt, b_rt := brt, g_rt := PySem.W.mg_of X G a_rt,
      g_MOST := c_MOST.imp fun _ z => PySem.W.mg_of X G z, g_LONG := c_LONG.imp fun _ z => PySem.W.mg_of X G z, g_HEAVY := c_HEAVY.imp fun _ z => PySem.W.mg_of X G z, g_WIDE := c_WIDE.imp fun _ z => PySem.W.mg_of X G z, g_CHOICES := c_CHOICES.imp fun _ z => PySem.W.mg_of X G z, g_GREATEST := c_GREATEST.imp fun _ z => PySem.W.mg_of X G z, g_PAIRS := c_PAIRS.imp fun _ z => PySem.W.mg_of X G z,
      n_len := PySem.W.mg_none_of X G z_len, n_range := PySem.W.mg_none_of X G z_range, n_enumerate := PySem.W.mg_none_of X G z_enumerate, n_repr := PySem.W.mg_none_of X G z_repr }
  refine ⟨dlw, fun s u => ?_, fun base _ _ => ok_law T R L Flw⟩
  obtain ⟨oc, od, kV, doc, pm, an, cdv, ct, osl, rfl, lk, hcd⟩ := Flw.ex
  exact .of_eq rfl
end L2.K1

/-! ### K1m -/
set_option Elab.async false
set_option linter.all false
set_option maxRecDepth 100000
open PySem PySem.W PyProof.Rows
set_option maxRecDepth 100000 in
set_option maxHeartbeats 20000000 in
theorem PySem.Challenge.cw_slotsure_k01_three_families_holds : PySem.Challenge.rw_slotsure_k01_three_families.Holds := by
  w_on; o_law; k_head; (case hw => w_witness2)
  k_fill
  refine L2.Sl.walk_G (n := 63) (k := 3) (x := "script") (CX := fun _ => L2.CX0) (sp := fun w => L2.K1.spLaw _) rfl (by decide) rfl ⟨rfl, by decide, by decide⟩ (fun w h Y => PySem.W.kIn_of Y) ?F (fun _ _ a ns hl _ hS => ⟨a, ns, rfl, hS, hl, fun _ => rfl⟩) (fun _ _ _ _ _ h => h)
  case F =>
    intro w mg fa h KX G hmg
    refine' L2.K1.all_mk KX G hmg ?a0 ?n0 ?a1 ?n1 ?a2 ?n2 ?a3 ?n3 ?a4 ?n4 ?a5 ?n5 ?a6 ?n6 ?a7 ?n7 ?a8 ?n8 ?a9 ?n9 ?a10 ?n10 ?a11 ?n11 ?a12 ?n12 ?a13 ?n13 ?a14 ?n14 ?a15 ?n15 ?a16 ?n16 ?a17 ?n17 ?a18 ?n18 ?a19 ?n19 ?x0 ?l0 ?x1 ?l1 ?x2 ?l2 ?x3 ?l3 ?x4 ?l4 ?x5 ?l5 ?x6 ?l6 ?x7 ?l7 ?x8 ?l8 ?x9 ?l9 ?x10 ?l10 ?x11 ?l11 ?x12 ?l12 ?x13 ?l13 ?x14 ?l14 ?x15 ?l15 ?x16 ?l16 ?x17 ?l17 ?x18 ?l18 ?x19 ?l19 ?m0 ?m1 ?m2 ?a_bg ?l_bg ?k_bg ?a_dw ?l_dw ?k_dw ?a_tg ?l_tg ?k_tg ?a_rd ?l_rd ?k_rd ?a_rr ?l_rr ?k_rr ?a_ro ?l_ro ?k_ro ?a_bn ?l_bn ?k_bn ?a_rt ?l_rt ?k_rt ?a_kd ?l_kd ?k_kd ?a_fm ?l_fm ?k_fm ?a_fd ?l_fd ?k_fd ?a_lw ?l_lw ?k_lw ?c_MOST ?c_LONG ?c_HEAVY ?c_WIDE ?c_CHOICES ?c_GREATEST ?c_PAIRS ?z_len ?z_range ?z_enumerate ?z_repr ?z_isinstance ?z_ValueError ?z_LookupError ?z_ArithmeticError ?z_KeyError ?z_IndexError ?z_ZeroDivisionError ?z_OverflowError ?sp ?tk ?qC ?qM ?qK ?qE ?qB
    (case a0 => k_is)
    (case n0 => k_is)
    (case a1 => k_is)
    (case n1 => k_is)
    (case a2 => k_is)
    (case n2 => k_is)
    (case a3 => k_is)
    (case n3 => k_is)
    (case a4 => k_is)
    (case n4 => k_is)
    (case a5 => k_is)
    (case n5 => k_is)
    (case a6 => k_is)
    (case n6 => k_is)
    (case a7 => k_is)
    (case n7 => k_is)
    (case a8 => k_is)
    (case n8 => k_is)
    (case a9 => k_is)
    (case n9 => k_is)
    (case a10 => k_is)
    (case n10 => k_is)
    (case a11 => k_is)
    (case n11 => k_is)
    (case a12 => k_is)
    (case n12 => k_is)
    (case a13 => k_is)
    (case n13 => k_is)
    (case a14 => k_is)
    (case n14 => k_is)
    (case a15 => k_is)
    (case n15 => k_is)
    (case a16 => k_is)
    (case n16 => k_is)
    (case a17 => k_is)
    (case n17 => k_is)
    (case a18 => k_is)
    (case n18 => k_is)
    (case a19 => k_is)
    (case n19 => k_is)
    (case x0 => exact ⟨_, _, _, _, _, _, _, _, _, _, _, _, _, _, _, by k_is, by decide +kernel⟩)
    (case l0 => exact ⟨_, _, _, _, _, _, _, _, _, by k_is, by k_is⟩)
    (case x1 => exact ⟨_, _, _, _, _, _, _, _, _, _, _, _, _, _, _, by k_is, by decide +kernel⟩)
    (case l1 => exact ⟨_, _, _, _, _, _, _, _, _, by k_is, by k_is⟩)
    (case x2 => exact ⟨_, _, _, _, _, _, _, _, _, _, _, _, _, _, _, by k_is, by decide +kernel⟩)
    (case l2 => exact ⟨_, _, _, _, _, _, _, _, _, by k_is, by k_is⟩)
    (case x3 => exact ⟨_, _, _, _, _, _, _, _, _, _, _, _, _, _, _, by k_is, by decide +kernel⟩)
    (case l3 => exact ⟨_, _, _, _, _, _, _, _, _, by k_is, by k_is⟩)
    (case x4 => exact ⟨_, _, _, _, _, _, _, _, _, _, _, _, _, _, _, by k_is, by decide +kernel⟩)
    (case l4 => exact ⟨_, _, _, _, _, _, _, _, _, by k_is, by k_is⟩)
    (case x5 => exact ⟨_, _, _, _, _, _, _, _, _, _, _, _, _, _, _, by k_is, by decide +kernel⟩)
    (case l5 => exact ⟨_, _, _, _, _, _, _, _, _, by k_is, by k_is⟩)
    (case x6 => exact ⟨_, _, _, _, _, _, _, _, _, _, _, _, _, _, _, by k_is, by decide +kernel⟩)
    (case l6 => exact ⟨_, _, _, _, _, _, _, _, _, by k_is, by k_is⟩)
    (case x7 => exact ⟨_, _, _, _, _, _, _, _, _, _, _, _, _, _, _, by k_is, by decide +kernel⟩)
    (case l7 => exact ⟨_, _, _, _, _, _, _, _, _, by k_is, by k_is⟩)
    (case x8 => exact ⟨_, _, _, _, _, _, _, _, _, _, _, _, _, _, _, by k_is, by decide +kernel⟩)
    (case l8 => exact ⟨_, _, _, _, _, _, _, _, _, by k_is, by k_is⟩)
    (case x9 => exact ⟨_, _, _, _, _, _, _, _, _, _, _, _, _, _, _, by k_is, by decide +kernel⟩)
    (case l9 => exact ⟨_, _, _, _, _, _, _, _, _, by k_is, by k_is⟩)
    (case x10 => exact ⟨_, _, _, _, _, _, _, _, _, _, _, _, _, _, _, by k_is, by decide +kernel⟩)
    (case l10 => exact ⟨_, _, _, _, _, _, _, _, _, by k_is, by k_is⟩)
    (case x11 => exact ⟨_, _, _, _, _, _, _, _, _, _, _, _, _, _, _, by k_is, by decide +kernel⟩)
    (case l11 => exact ⟨_, _, _, _, _, _, _, _, _, by k_is, by k_is⟩)
    (case x12 => exact ⟨_, _, _, _, _, _, _, _, _, _, _, _, _, _, _, by k_is, by decide +kernel⟩)
    (case l12 => exact ⟨_, _, _, _, _, _, _, _, _, by k_is, by k_is⟩)
    (case x13 => exact ⟨_, _, _, _, _, _, _, _, _, _, _, _, _, _, _, by k_is, by decide +kernel⟩)
    (case l13 => exact ⟨_, _, _, _, _, _, _, _, _, by k_is, by k_is⟩)
    (case x14 => exact ⟨_, _, _, _, _, _, _, _, _, _, _, _, _, _, _, by k_is, by decide +kernel⟩)
    (case l14 => exact ⟨_, _, _, _, _, _, _, _, _, by k_is, by k_is⟩)
    (case x15 => exact ⟨_, _, _, _, _, _, _, _, _, _, _, _, _, _, _, by k_is, by decide +kernel⟩)
    (case l15 => exact ⟨_, _, _, _, _, _, _, _, _, by k_is, by k_is⟩)
    (case x16 => exact ⟨_, _, _, _, _, _, _, _, _, _, _, _, _, _, _, by k_is, by decide +kernel⟩)
    (case l16 => exact ⟨_, _, _, _, _, _, _, _, _, by k_is, by k_is⟩)
    (case x17 => exact ⟨_, _, _, _, _, _, _, _, _, _, _, _, _, _, _, by k_is, by decide +kernel⟩)
    (case l17 => exact ⟨_, _, _, _, _, _, _, _, _, by k_is, by k_is⟩)
    (case x18 => exact ⟨_, _, _, _, _, _, _, _, _, _, _, _, _, _, _, by k_is, by decide +kernel⟩)
    (case l18 => exact ⟨_, _, _, _, _, _, _, _, _, by k_is, by k_is⟩)
    (case x19 => exact ⟨_, _, _, _, _, _, _, _, _, _, _, _, _, _, _, by k_is, by decide +kernel⟩)
    (case l19 => exact ⟨_, _, _, _, _, _, _, _, _, by k_is, by k_is⟩)
    (case m0 => k_is)
    (case m1 => k_is)
    (case m2 => k_is)
    (case a_bg => k_is)
    (case l_bg => exact ⟨_, _, _, _, _, _, _, _, _, by k_is, by k_is⟩)
    (case k_bg => k_is)
    (case a_dw => k_is)
    (case l_dw => exact ⟨_, _, _, _, _, _, _, _, _, by k_is, by k_is⟩)
    (case k_dw => k_is)
    (case a_tg => k_is)
    (case l_tg => exact ⟨_, _, _, _, _, _, _, _, _, by k_is, by k_is⟩)
    (case k_tg => k_is)
    (case a_rd => k_is)
    (case l_rd => exact ⟨_, _, _, _, _, _, _, _, _, by k_is, by k_is⟩)
    (case k_rd => k_is)
    (case a_rr => k_is)
    (case l_rr => exact ⟨_, _, _, _, _, _, _, _, _, by k_is, by k_is⟩)
    (case k_rr => k_is)
    (case a_ro => k_is)
    (case l_ro => exact ⟨_, _, _, _, _, _, _, _, _, by k_is, by k_is⟩)
    (case k_ro => k_is)
    (case a_bn => k_is)
    (case l_bn => exact ⟨_, _, _, _, _, _, _, _, _, by k_is, by k_is⟩)
    (case k_bn => k_is)
    (case a_rt => k_is)
    (case l_rt => exact ⟨_, _, _, _, _, _, _, _, _, by k_is, by k_is⟩)
    (case k_rt => k_is)
    (case a_kd => k_is)
    (case l_kd => exact ⟨_, _, _, _, _, _, _, _, _, by k_is, by k_is⟩)
    (case k_kd => k_is)
    (case a_fm => k_is)
    (case l_fm => exact ⟨_, _, _, _, _, _, _, _, _, by k_is, by k_is⟩)
    (case k_fm => k_is)
    (case a_fd => k_is)
    (case l_fd => exact ⟨_, _, _, _, _, _, _, _, _, by k_is, by k_is⟩)
    (case k_fd => k_is)
    (case a_lw => k_is)
    (case l_lw => exact ⟨_, _, _, _, _, _, _, _, _, by k_is, by k_is⟩)
    (case k_lw => k_is)
    (case c_MOST => exact ⟨_, by k_is⟩)
    (case c_LONG => exact ⟨_, by k_is⟩)
    (case c_HEAVY => exact ⟨_, by k_is⟩)
    (case c_WIDE => exact ⟨_, by k_is⟩)
    (case c_CHOICES => exact ⟨_, by k_is⟩)
    (case c_GREATEST => exact ⟨_, by k_is⟩)
    (case c_PAIRS => exact ⟨_, by k_is⟩)
    (case z_len => k_is)
    (case z_range => k_is)
    (case z_enumerate => k_is)
    (case z_repr => k_is)
    (case z_isinstance => k_is)
    (case z_ValueError => k_is)
    (case z_LookupError => k_is)
    (case z_ArithmeticError => k_is)
    (case z_KeyError => k_is)
    (case z_IndexError => k_is)
    (case z_ZeroDivisionError => k_is)
    (case z_OverflowError => k_is)
    (case sp => k_is)
    (case tk => k_is)
    (case qC => kernel_rfl)
    (case qM => kernel_rfl)
    (case qK => kernel_rfl)
    (case qE => kernel_rfl)
    (case qB => kernel_rfl)
