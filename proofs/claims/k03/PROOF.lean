import PyProof.Rows.All
import Wide.All
import OpenK.AllK
import Wide.FinOn
import HandS.ForExc
import HandS.TryMany
import HandS.ExcInit
import HandS.ExcIs
import HandS.IsInst
import HandS.ExcValue
import KE.KExcLine
import HandS.ExcCtx
import HandS.HotCalls
import HandS.FStrTup
import KE.KTryMore
import HandS.WordsExc
import HandS.Defaults
import HandS.Lambda
import HandS.EndTab
import HandS.HeadWalk
import HandS.HeadHook4
import HandS.HeadEnd
import HandS.Head2
import HandS.HeadHook2
import HandS.ForMost
import HandS.Wide
import HandS.Dict
import HandS.DictSub
import KE.KeyNested
import KE.KDictDisplayH
import KE.KDictWalk
import PyProof.Rows.TupTab
import HandS.SortRule
import KE.SortData
import KE.KDictCopyH
import HandS.More
import HandS.Walk
import PyProof.TypeEq
import PyProof.InstEq
import HandS.Style
import HandS.TupAny
import KE.KRevSl
import HandS.SortInts
import KE.KDflt
import HandS.TupMul
import HandS.Deep
import HandS.Zip
import HandS.SetFor
import HandS.Conv
import PyProof.ReprBulk
import HandS.Set
import HandS.Strs
import HandS.TupSets
import PyProof.Rows.SortShellAny
import PyProof.NeKinds
import HandS.Codes
import KE.KStateDown
import Lean
import HandS.Head0
import HandS.Head1
import HandS.Head3
import PySem.Challenge.RW_slotsure_k03_gears_looked_at
set_option Elab.async false
set_option linter.all false
/-! Fractions in lowest terms: pairs of whole numbers, the second above 0, no common part. -/
namespace L2.Fr
def Low (a b : Int) : Prop := 0 < b ∧ Int.gcd a b = 1
theorem dvd_of {a b d : Int} (g : Int.gcd a b = 1) (h : b ∣ a * d) : b ∣ d := by
  have g2 : Int.gcd b a = 1 := by rw [Int.gcd_comm]; exact g
  have e1 := Int.gcd_eq_natAbs_left_iff_dvd.mpr h
  rw [Int.gcd_mul_right_right_of_gcd_eq_one g2] at e1
  exact Int.gcd_eq_natAbs_left_iff_dvd.mp e1
theorem low_unique {a b c d : Int} (h1 : Low a b) (h2 : Low c d) (e : a * d = c * b) : a = c ∧ b = d := by
  obtain ⟨b0, g1⟩ := h1
  obtain ⟨d0, g2⟩ := h2
  have k1 : b ∣ d := dvd_of g1 ⟨c, by rw [e, Int.mul_comm]⟩
  have k2 : d ∣ b := dvd_of g2 ⟨a, by rw [← e, Int.mul_comm]⟩
  have bd : b = d := by
    obtain ⟨x, hx⟩ := k1
    obtain ⟨y, hy⟩ := k2
    have x0 : 0 < x := by
      rcases Int.lt_trichotomy x 0 with z | z | z
      · have := Int.mul_neg_of_pos_of_neg b0 z
        omega
      · rw [z] at hx
        omega
      · exact z
    have y0 : 0 < y := by
      rcases Int.lt_trichotomy y 0 with z | z | z
      · have := Int.mul_neg_of_pos_of_neg d0 z
        omega
      · rw [z] at hy
        omega
      · exact z
    have l1 : b * 1 ≤ b * x := Int.mul_le_mul_of_nonneg_left (by omega) (by omega)
    have l2 : d * 1 ≤ d * y := Int.mul_le_mul_of_nonneg_left (by omega) (by omega)
    omega
  subst bd
  exact ⟨Int.eq_of_mul_eq_mul_right (by omega) e, rfl⟩
/-- what both are parted by -/
def parts (t u : Int) : Int := if u > 0 then (Int.gcd t u : Int) else 0 - (Int.gcd t u : Int)
def low (t u : Int) : Int × Int := (t / parts t u, u / parts t u)
theorem gcd_pos {t u : Int} (h : u ≠ 0) : 0 < (Int.gcd t u : Int) := by
  have z : Int.gcd t u ≠ 0 := fun z => h (Int.gcd_eq_zero_iff.mp z).2
  omega
theorem parts_ne {t u : Int} (h : u ≠ 0) : parts t u ≠ 0 := by
  have g := gcd_pos (t := t) h
  unfold parts
  split <;> omega
theorem parts_left (t u : Int) : parts t u ∣ t := by
  unfold parts
  split
  · exact Int.gcd_dvd_left ..
  · rw [Int.zero_sub]
    exact Int.neg_dvd.mpr (Int.gcd_dvd_left ..)
theorem parts_right (t u : Int) : parts t u ∣ u := by
  unfold parts
  split
  · exact Int.gcd_dvd_right ..
  · rw [Int.zero_sub]
    exact Int.neg_dvd.mpr (Int.gcd_dvd_right ..)
theorem low_fst (t u : Int) : (low t u).1 * parts t u = t := Int.ediv_mul_cancel (parts_left t u)
theorem low_snd (t u : Int) : (low t u).2 * parts t u = u := Int.ediv_mul_cancel (parts_right t u)
theorem low_low {t u : Int} (h : u ≠ 0) : Low (low t u).1 (low t u).2 := by
  have g := gcd_pos (t := t) h
  have e1 := low_fst t u
  have e2 := low_snd t u
  refine ⟨?_, ?_⟩
  · rcases Int.lt_trichotomy (low t u).2 0 with z | z | z
    · exfalso
      unfold parts at e2
      split at e2
      · have := Int.mul_neg_of_neg_of_pos z g
        omega
      · have := Int.mul_pos_of_neg_of_neg z (show 0 - (Int.gcd t u : Int) < 0 by omega)
        omega
    · rw [z] at e2
      omega
    · exact z
  · have k : Int.gcd t u = Int.gcd (low t u).1 (low t u).2 * (parts t u).natAbs := by
      rw [← Int.gcd_mul_right, e1, e2]
    have ka : (parts t u).natAbs = Int.gcd t u := by
      unfold parts
      split <;> omega
    rw [ka] at k
    have g3 : 0 < Int.gcd t u := by omega
    exact Nat.eq_of_mul_eq_mul_right g3 (by omega)
theorem low_eq {t u : Int} : (low t u).1 * u = t * (low t u).2 := by
  have e1 := low_fst t u
  have e2 := low_snd t u
  generalize (low t u).1 = a at e1 ⊢
  generalize (low t u).2 = b at e2 ⊢
  generalize parts t u = g at e1 e2
  rw [← e1, ← e2, Int.mul_assoc, Int.mul_comm g b, Int.mul_comm b g]
/-- both tell the same share -/
theorem low_iff {t u s v : Int} (hu : u ≠ 0) (hv : v ≠ 0) : low t u = low s v ↔ t * v = s * u := by
  have l1 := low_low (t := t) hu
  have l2 := low_low (t := s) hv
  have e1 := low_eq (t := t) (u := u)
  have e2 := low_eq (t := s) (u := v)
  constructor
  · intro z
    rw [← z] at e2 l2
    have p := l1.1
    generalize (low t u).1 = a at *
    generalize (low t u).2 = b at *
    -- a u = t b, a v = s b
    refine Int.eq_of_mul_eq_mul_right (show b ≠ 0 by omega) ?_
    calc t * v * b = t * b * v := by rw [Int.mul_assoc, Int.mul_comm v b, ← Int.mul_assoc]
      _ = a * u * v := by rw [e1]
      _ = a * v * u := by rw [Int.mul_assoc, Int.mul_comm u v, ← Int.mul_assoc]
      _ = s * b * u := by rw [e2]
      _ = s * u * b := by rw [Int.mul_assoc, Int.mul_comm b u, ← Int.mul_assoc]
  · intro z
    have k : (low t u).1 * (low s v).2 = (low s v).1 * (low t u).2 := by
      generalize (low t u).1 = a at *
      generalize (low t u).2 = b at *
      generalize (low s v).1 = c at *
      generalize (low s v).2 = d at *
      -- a u = t b, c v = s d, t v = s u
      refine Int.eq_of_mul_eq_mul_right (show u * v ≠ 0 from Int.mul_ne_zero hu hv) ?_
      calc a * d * (u * v) = (a * u) * (v * d) := by ac_rfl
        _ = (t * b) * (v * d) := by rw [e1]
        _ = (t * v) * (b * d) := by ac_rfl
        _ = (s * u) * (b * d) := by rw [z]
        _ = (s * d) * (b * u) := by ac_rfl
        _ = (c * v) * (b * u) := by rw [e2]
        _ = c * b * (u * v) := by ac_rfl
    obtain ⟨q1, q2⟩ := low_unique l1 l2 k
    exact Prod.ext q1 q2
theorem low_self {a b : Int} (h : Low a b) : low a b = (a, b) := by
  have b0 := h.1
  have l := low_low (t := a) (u := b) (by omega)
  obtain ⟨q1, q2⟩ := low_unique l h (low_eq (t := a) (u := b))
  exact Prod.ext q1 q2
/-! ### sums and products -/
def fadd (x y : Int × Int) : Int × Int := low (x.1 * y.2 + y.1 * x.2) (x.2 * y.2)
def fmul (x y : Int × Int) : Int × Int := low (x.1 * y.1) (x.2 * y.2)
abbrev LowP (x : Int × Int) : Prop := Low x.1 x.2
theorem LowP.ne {x : Int × Int} (h : LowP x) : x.2 ≠ 0 := by
  have := h.1
  omega
theorem fadd_low {x y : Int × Int} (hx : LowP x) (hy : LowP y) : LowP (fadd x y) := low_low (Int.mul_ne_zero hx.ne hy.ne)
theorem fmul_low {x y : Int × Int} (hx : LowP x) (hy : LowP y) : LowP (fmul x y) := low_low (Int.mul_ne_zero hx.ne hy.ne)
theorem fadd_comm (x y : Int × Int) : fadd x y = fadd y x := by
  unfold fadd
  rw [Int.add_comm, Int.mul_comm x.2 y.2]
theorem fmul_comm (x y : Int × Int) : fmul x y = fmul y x := by
  unfold fmul
  rw [Int.mul_comm x.1 y.1, Int.mul_comm x.2 y.2]
theorem fadd_eq {x y : Int × Int} : (fadd x y).1 * (x.2 * y.2) = (x.1 * y.2 + y.1 * x.2) * (fadd x y).2 := low_eq
theorem fmul_eq {x y : Int × Int} : (fmul x y).1 * (x.2 * y.2) = (x.1 * y.1) * (fmul x y).2 := low_eq
theorem fadd_nought {x : Int × Int} (h : LowP x) : fadd x (0, 1) = x := by
  unfold fadd
  show low (x.1 * 1 + 0 * x.2) (x.2 * 1) = x
  rw [Int.mul_one, Int.zero_mul, Int.add_zero, Int.mul_one]
  exact low_self h
theorem fmul_one {x : Int × Int} (h : LowP x) : fmul x (1, 1) = x := by
  unfold fmul
  show low (x.1 * 1) (x.2 * 1) = x
  rw [Int.mul_one, Int.mul_one]
  exact low_self h
theorem low_of {t u a b : Int} (hu : u ≠ 0) (hb : b ≠ 0) (e : t * b = a * u) : low t u = low a b := (low_iff hu hb).mpr e
theorem fadd_assoc {x y z : Int × Int} (hx : LowP x) (hy : LowP y) (hz : LowP z) : fadd (fadd x y) z = fadd x (fadd y z) := by
  have n1 := (fadd_low hx hy).ne
  have n2 := (fadd_low hy hz).ne
  have e1 := fadd_eq (x := x) (y := y)
  have e2 := fadd_eq (x := y) (y := z)
  have nx := hx.ne
  have ny := hy.ne
  have nz := hz.ne
  show low ((fadd x y).1 * z.2 + z.1 * (fadd x y).2) ((fadd x y).2 * z.2) = low (x.1 * (fadd y z).2 + (fadd y z).1 * x.2) (x.2 * (fadd y z).2)
  generalize (fadd x y).1 = p at *
  generalize (fadd x y).2 = q at *
  generalize (fadd y z).1 = r at *
  generalize (fadd y z).2 = s at *
  generalize x.1 = a at *
  generalize x.2 = b at *
  generalize y.1 = c at *
  generalize y.2 = d at *
  generalize z.1 = e at *
  generalize z.2 = f at *
  refine low_of (Int.mul_ne_zero n1 nz) (Int.mul_ne_zero nx n2) ?_
  -- p b d = (a d + c b) q ; r d f = (c f + e d) s ; goal (p f + e q) (b s) = (a s + r b) (q f)
  refine Int.eq_of_mul_eq_mul_right (show d ≠ 0 from ny) ?_
  have g1 : (p * f + e * q) * (b * s) * d = (p * (b * d)) * (f * s) + e * q * b * s * d := by
    rw [Int.add_mul, Int.add_mul]
    congr 1 <;> ac_rfl
  have g2 : (a * s + r * b) * (q * f) * d = (r * (d * f)) * (b * q) + a * s * q * f * d := by
    rw [Int.add_mul, Int.add_mul, Int.add_comm]
    congr 1 <;> ac_rfl
  rw [g1, g2, e1, e2, Int.add_mul, Int.add_mul, Int.add_mul, Int.add_mul]
  have k1 : a * d * q * (f * s) = a * s * q * f * d := by ac_rfl
  have k2 : c * b * q * (f * s) = c * f * s * (b * q) := by ac_rfl
  have k3 : e * q * b * s * d = e * d * s * (b * q) := by ac_rfl
  rw [k1, k2, k3]
  omega
theorem fmul_assoc {x y z : Int × Int} (hx : LowP x) (hy : LowP y) (hz : LowP z) : fmul (fmul x y) z = fmul x (fmul y z) := by
  have n1 := (fmul_low hx hy).ne
  have n2 := (fmul_low hy hz).ne
  have e1 := fmul_eq (x := x) (y := y)
  have e2 := fmul_eq (x := y) (y := z)
  have nx := hx.ne
  have ny := hy.ne
  have nz := hz.ne
  show low ((fmul x y).1 * z.1) ((fmul x y).2 * z.2) = low (x.1 * (fmul y z).1) (x.2 * (fmul y z).2)
  generalize (fmul x y).1 = p at *
  generalize (fmul x y).2 = q at *
  generalize (fmul y z).1 = r at *
  generalize (fmul y z).2 = s at *
  generalize x.1 = a at *
  generalize x.2 = b at *
  generalize y.1 = c at *
  generalize y.2 = d at *
  generalize z.1 = e at *
  generalize z.2 = f at *
  refine low_of (Int.mul_ne_zero n1 nz) (Int.mul_ne_zero nx n2) ?_
  -- p b d = a c q ; r d f = c e s ; goal p e b s = a r q f
  refine Int.eq_of_mul_eq_mul_right (show d ≠ 0 from ny) ?_
  have g1 : p * e * (b * s) * d = (p * (b * d)) * (e * s) := by ac_rfl
  have g2 : a * r * (q * f) * d = (r * (d * f)) * (a * q) := by ac_rfl
  rw [g1, g2, e1, e2]
  ac_rfl
theorem fmul_fadd {x y z : Int × Int} (hx : LowP x) (hy : LowP y) (hz : LowP z) : fmul x (fadd y z) = fadd (fmul x y) (fmul x z) := by
  have n1 := (fmul_low hx hy).ne
  have n2 := (fmul_low hx hz).ne
  have n3 := (fadd_low hy hz).ne
  have e1 := fmul_eq (x := x) (y := y)
  have e2 := fmul_eq (x := x) (y := z)
  have e3 := fadd_eq (x := y) (y := z)
  have nx := hx.ne
  have ny := hy.ne
  have nz := hz.ne
  show low (x.1 * (fadd y z).1) (x.2 * (fadd y z).2) = low ((fmul x y).1 * (fmul x z).2 + (fmul x z).1 * (fmul x y).2) ((fmul x y).2 * (fmul x z).2)
  generalize (fmul x y).1 = p at *
  generalize (fmul x y).2 = q at *
  generalize (fmul x z).1 = r at *
  generalize (fmul x z).2 = s at *
  generalize (fadd y z).1 = t at *
  generalize (fadd y z).2 = u at *
  generalize x.1 = a at *
  generalize x.2 = b at *
  generalize y.1 = c at *
  generalize y.2 = d at *
  generalize z.1 = e at *
  generalize z.2 = f at *
  refine low_of (Int.mul_ne_zero nx n3) (Int.mul_ne_zero n1 n2) ?_
  -- p b d = a c q ; r b f = a e s ; t d f = (c f + e d) u ; goal a t q s = (p s + r q) b u
  refine Int.eq_of_mul_eq_mul_right (show d * f ≠ 0 from Int.mul_ne_zero ny nz) ?_
  have g1 : a * t * (q * s) * (d * f) = (t * (d * f)) * (a * q * s) := by ac_rfl
  have g2 : (p * s + r * q) * (b * u) * (d * f) = (p * (b * d)) * (s * u * f) + (r * (b * f)) * (q * u * d) := by
    rw [Int.add_mul, Int.add_mul]
    congr 1 <;> ac_rfl
  rw [g1, g2, e1, e2, e3, Int.add_mul, Int.add_mul]
  congr 1 <;> ac_rfl
theorem fadd_neg {x : Int × Int} (hx : LowP x) : fadd x (fmul x (0 - 1, 1)) = (0, 1) := by
  have nx := hx.ne
  have l1 : LowP ((0 - 1 : Int), (1 : Int)) := ⟨by decide, by decide⟩
  have n1 := (fmul_low hx l1).ne
  have e1 := fmul_eq (x := x) (y := ((0 - 1 : Int), (1 : Int)))
  have one : LowP ((0 : Int), (1 : Int)) := ⟨by decide, by decide⟩
  show low (x.1 * (fmul x (0 - 1, 1)).2 + (fmul x (0 - 1, 1)).1 * x.2) (x.2 * (fmul x (0 - 1, 1)).2) = (0, 1)
  rw [← low_self one]
  have e2 : (fmul x (0 - 1, 1)).1 * (x.2 * 1) = x.1 * (0 - 1) * (fmul x (0 - 1, 1)).2 := e1
  generalize (fmul x (0 - 1, 1)).1 = p at *
  generalize (fmul x (0 - 1, 1)).2 = q at *
  refine low_of (Int.mul_ne_zero nx n1) (by decide) ?_
  rw [Int.mul_one] at e2
  rw [Int.mul_one, Int.zero_mul, e2, Int.mul_assoc, Int.zero_sub, Int.neg_mul, Int.one_mul, Int.mul_neg]
  omega
end L2.Fr

set_option Elab.async false
set_option linter.all false
set_option maxRecDepth 100000
set_option maxHeartbeats 4000000
namespace SlX
open PySem PySem.W PySem.Calls PyProof.Rows PySem.Spec
open Builtin Builtin.ObjectAttr
section
variable {prog : Program} {w : World} {A : Around} {E : Value → Shared → Prop} {R : Result → Shared → Prop} {hp : Heap} {g : Array GenState} {d : Drawn} {t : Nat} {os : OsState}
/-- the first attribute of an exception of an own class over any built-in base -/
theorem first_put {K : Frag} {B : String} {bmB : List Value} {name : Str} {tk : Tok} {v : Value} {x C : Addr} {fv : Array Value} (SF : StoreFacts B bmB "object.__setattr__" "object") (KX : K.In hp)
    (hx : hp.get? x = some { cls := .ref C, data := .fields fv }) (hov : excOver K C bmB = true) (hdi : hasDictIn K C = true) (hno : findIn K (.ref C) name = some none)
    (fin : ∀ h2 tk2 dx, (∀ b o, b ≠ x → hp.get? b = some o → h2.get? b = some o) → hp.objs.size ≤ dx → dx ≠ x → h2.get? x = some { cls := .ref C, dict := some dx, data := .fields fv } →
      h2.Ns1 dx (fun y => if y = name then some v else none) → R (.ok (.ret .none)) ⟨h2, g, d, tk2, os⟩) :
    codeAny (model prog w) A (.call (.builtin "object.__setattr__") ⟨[.ref x, .str name tk, v], []⟩) R ⟨hp, g, d, t, os⟩ := by
  obtain ⟨cd, hcd, hhd⟩ := any_some hdi
  have xsz : x ≠ hp.objs.size := Nat.ne_of_lt (Heap.lt_size hx)
  have clsL : Looks (model prog w) hp (classData C) cd := looks_clsIn KX hcd
  have tkr : takerIn K C name = some none := by
    unfold takerIn
    rw [hno]
    rfl
  refine osa_openX (ox := { cls := .ref C, data := .fields fv }) (od := none) (r := none) SF KX ⟨hx, rfl, rfl, trivial⟩ hov tkr fun bb => ?_
  dsimp only
  unfold storeInOwnDict ownDictForStores
  obtain ⟨nm, bs, mro, ns, qn, hdd, sn, sb, ab, col, del⟩ := cd
  dsimp only at hhd
  subst hhd
  repeat (first | with_reducible refine HandSPX.store_in_new ?_ ?_ | with_reducible refine wpAny_loadPart_at hx ?_ | with_reducible refine clsL.at ?_ | wp_step)
  · exact ⟨_, #[], _, (Heap.get?_update_ne _ _ _ _ xsz.symm).trans (Heap.get?_push_at rfl rfl), rfl, fun e he => absurd he (by simp), fun _ => rfl⟩
  · intro h2 tk2 hn2 sb2
    have hx1 : (hp.push { cls := .type "dict", data := .dict #[] }).get? x = some { cls := .ref C, data := .fields fv } := Heap.get?_push_of_some _ hx
    refine fin h2 tk2 hp.objs.size (fun b o hb ho => ?_) (Nat.le_refl _) xsz.symm ?_ hn2
    · have q1 := Heap.get?_push_of_some { cls := .type "dict", data := .dict #[] } ho
      exact (sb2.2 b (Nat.ne_of_lt (Heap.lt_size ho))).trans ((Heap.get?_update_ne _ _ _ _ hb).trans q1)
    · exact (sb2.2 x xsz).trans (Heap.get?_update_self _ hx1 rfl)
/-- a further one -/
theorem more_put {K : Frag} {B : String} {bmB : List Value} {name : Str} {tk : Tok} {v : Value} {x C dx : Addr} {fv : Array Value} {m0 : Str → Option Value} {nl : List Str} (SF : StoreFacts B bmB "object.__setattr__" "object") (KX : K.In hp)
    (hx : hp.get? x = some { cls := .ref C, dict := some dx, data := .fields fv }) (hns : hp.Ns1 dx m0) (hwn : Within m0 nl) (hz : nl.length ≤ 1000) (hov : excOver K C bmB = true) (hdi : hasDictIn K C = true) (hno : findIn K (.ref C) name = some none)
    (fin : ∀ h2 tk2, (∀ b o, b ≠ dx → hp.get? b = some o → h2.get? b = some o) → h2.Ns1 dx (fun y => if y = name then some v else m0 y) → R (.ok (.ret .none)) ⟨h2, g, d, tk2, os⟩) :
    codeAny (model prog w) A (.call (.builtin "object.__setattr__") ⟨[.ref x, .str name tk, v], []⟩) R ⟨hp, g, d, t, os⟩ := by
  obtain ⟨cd, hcd, hhd⟩ := any_some hdi
  obtain ⟨oD, esD, epD, hoD, hdD, _⟩ := hns.count hwn
  have clsL : Looks (model prog w) hp (classData C) cd := looks_clsIn KX hcd
  have tkr : takerIn K C name = some none := by
    unfold takerIn
    rw [hno]
    rfl
  refine osa_openX (ox := { cls := .ref C, dict := some dx, data := .fields fv }) (od := some oD) (r := none) SF KX ⟨hx, rfl, rfl, hoD⟩ hov tkr fun bb => ?_
  dsimp only
  unfold storeInOwnDict ownDictForStores
  obtain ⟨nm, bs, mro, ns, qn, hdd, sn, sb, ab, col, del⟩ := cd
  dsimp only at hhd
  subst hhd
  repeat (first | with_reducible refine OEX.store_in_old hns hwn hz ?_ | with_reducible refine wpAny_loadPart_at hx ?_ | with_reducible refine clsL.at ?_ | wp_step)
  intro h2 tk2 hn2 sb2
  exact fin h2 tk2 (fun b o hb ho => (sb2.2 b hb).trans ho) hn2
end
end SlX

set_option Elab.async false
set_option linter.all false
set_option maxRecDepth 100000
set_option maxHeartbeats 4000000
namespace SlX
open PySem PySem.W PySem.Calls
open Builtin Builtin.ObjectAttr
section
variable {M : Model} {prog : Program} {w : World} {A : Around} {E : Value → Shared → Prop} {R : Result → Shared → Prop} {h : Heap} {g : Array GenState} {d : Drawn} {t : Nat} {os : OsState}
variable {nm q : Str} {C N : Addr} {bs bm bmB : List Value} {hdct : Bool} {sn : List Str} {sub : List Value} {ab : Bool} {col : Option Bool} {dd : Option Addr} {k0 k1 k2 k3 k5 : Option Value} {B newId initId : String}
variable {rest : List Value} {kw : List (Str × Value)}
theorem look_new_kw (FB : ExcBaseFacts B newId initId bmB) (same : ∀ T : String, bm.contains (.type T) = bmB.contains (.type T)) {Q : Unit → Shared → Prop}
    (hC : h.get? C = some (excClassObj nm q C N bs bm hdct sn sub ab col dd k0 k1 k2 k3 k5 newId)) (fin : Q () ⟨h, g, d, t, os⟩) : wpAny M A (checkBuiltinCall newId ⟨.ref C :: rest, kw⟩) Q E ⟨h, g, d, t, os⟩ := by
  have isB : (Value.ref C :: bm).contains (.type B) = true := by
    rw [List.contains_cons, same, FB.hasB, Bool.or_true]
  have ns := FB.noStar
  simp only [checkBuiltinCall, FB.newKind, FB.newSplit, FB.newRow]
  repeat (first | refine wpAny_loadPart_at hC ?_ | (refine wpAny_isSubtype_exc hC ?_; rw [isB]) | refine wpAny_staticBase_exc hC ?_ | refine wpAny_madeBy_exc hC ?_ | simp only [bne_self_eq_false, Bool.false_eq_true, if_false] | wp_step)
  exact fin
theorem new_kw (FB : ExcBaseFacts B newId initId bmB) (same : ∀ T : String, bm.contains (.type T) = bmB.contains (.type T))
    (hC : h.get? C = some (excClassObj nm q C N bs bm hdct sn sub ab col dd k0 k1 k2 k3 k5 newId)) (sz : rest.length ≤ sizeLine)
    (fin : R (.ok (.ret (.ref (h.objs.size + 1)))) ⟨(h.push (W.kdv_tup rest)).push (HandSPX.excO C h.objs.size), g, d, t, os⟩) :
    codeAny (model prog w) A (.builtin newId ⟨.ref C :: rest, kw⟩) R ⟨h, g, d, t, os⟩ := by
  have en := FB.ends
  have isB : (Value.ref C :: bm).contains (.type B) = true := by
    rw [List.contains_cons, same, FB.hasB, Bool.or_true]
  have noA : (Value.ref C :: bm).contains (.type "AttributeError") = false := by
    rw [List.contains_cons, same, FB.noAttr]
    rfl
  have noN : (Value.ref C :: bm).contains (.type "NameError") = false := by
    rw [List.contains_cons, same, FB.noName]
    rfl
  refine codeAny_builtinAt FB.entry ?_
  unfold Builtin.«BaseException.__new__»
  refine wpAt_bind ?_
  show wpAt _ _ _ (stack >>= _) _ _ _
  refine wpAt_bind (wpAt_stack fun p below => wpAt_of_wpAny ?_)
  wp_walk
  refine wpAt_of_wpAny ?_
  rw [FB.owner]
  repeat (first | with_reducible refine wpAny_madeHere_exc FB.canon hC ?_ | with_reducible refine wpAny_loadPart_at hC ?_ | (with_reducible refine wpAny_isSubtype_exc hC ?_; first | rw [isB] | rw [noA] | rw [noN]) | wp_step)
  show R _ _
  rw [Heap.size_push]
  exact fin
theorem typeCall_kw (FB : ExcBaseFacts B newId initId bmB) (same : ∀ T : String, bm.contains (.type T) = bmB.contains (.type T)) {fI : Addr} {Q : Fin → Shared → Prop}
    (hC : h.get? C = some (excClassObj nm q C N bs bm hdct sn sub ab col dd k0 k1 k2 k3 k5 newId))
    (hi : W.Looks (model prog w) h (typeLookup (.ref C) "__init__") (some (.ref fI))) (hb : ∀ self, W.Looks (model prog w) h (bindSpecial (.ref fI) self) (.ref fI, [self])) (sz : rest.length ≤ sizeLine)
    (fin : codeAny (model prog w) A (.call (.ref fI) ⟨.ref (h.objs.size + 1) :: rest, kw⟩)
      (fun r s2 => match r with | .ok (.ret v) => v = .none ∧ Q (.done (.ret (.ref (h.objs.size + 1)))) s2 | .ok _ => False | .error e => E e s2)
      ⟨(h.push (W.kdv_tup rest)).push (HandSPX.excO C h.objs.size), g, d, t, os⟩) :
    wpAny (model prog w) A (Builtin.«type.__call__» ⟨.ref C :: rest, kw⟩) Q E ⟨h, g, d, t, os⟩ := by
  repeat (first | with_reducible refine wpAny_loadPart_at hC ?_ | with_reducible refine wpAny_madeBy_exc hC ?_ | wp_step)
  refine codeAny_call_builtin_code (Code.quiet_builtin _ FB.quiet) (look_new_kw FB same hC ?_)
  refine new_kw FB same hC sz ?_
  show wpAny _ _ _ _ _ _
  have kp : ∀ b o, h.get? b = some o → ((h.push (W.kdv_tup rest)).push (HandSPX.excO C h.objs.size)).get? b = some o := fun b o e => Heap.get?_push_of_some _ (Heap.get?_push_of_some _ e)
  have hC2 := kp _ _ hC
  have got : ((h.push (W.kdv_tup rest)).push (HandSPX.excO C h.objs.size)).get? (h.objs.size + 1) = some (HandSPX.excO C h.objs.size) := by heap_get
  have isC : (Value.ref C :: bm).contains (.ref C) = true := by simp
  have i2 := hi.keeps kp
  have b2 := (hb (.ref (h.objs.size + 1))).keeps kp
  unfold isInstance
  repeat (first | with_reducible refine wpAny_loadPart_at got ?_ | (with_reducible refine wpAny_isSubtype_exc hC2 ?_; rw [isC]) | wp_step)
  show wpAny _ _ (typeLookup (.ref C) _) _ _ _
  refine i2.at ?_
  refine wpAny_holding (wpAny_bind (b2.at ?_))
  refine wpAny_bind (wpAny_call (codeAny_mono fin fun r s2 z => ?_))
  rcases r with e | (v | _ | _ | _) <;> first | exact z | exact z.elim | skip
  obtain ⟨rfl, z⟩ := z
  first
    | exact wpAny_pure (wpAny_pure z)
    | (wp_walk; exact z)
theorem look_call_kw {Q : Unit → Shared → Prop} (hC : h.get? C = some (excClassObj nm q C N bs bm hdct sn sub ab col dd k0 k1 k2 k3 k5 newId)) (fin : Q () ⟨h, g, d, t, os⟩) :
    wpAny M A (checkBuiltinCall "type.__call__" ⟨.ref C :: rest, kw⟩) Q E ⟨h, g, d, t, os⟩ := by
  have f3 := tc_sub
  have ty : (⟨h, g, d, t, os⟩ : Shared).TypeIs (.ref C) "type" := ⟨_, hC, rfl⟩
  simp only [checkBuiltinCall, tc_kind, tc_split]
  repeat (any_goals (first | assumption | with_reducible refine wpAny_loadPart_at hC ?_ | with_reducible refine wpAny_onRaise ?_ | with_reducible refine wpAny_map ?_ | wp_step))
theorem callCls_kw (FB : ExcBaseFacts B newId initId bmB) (same : ∀ T : String, bm.contains (.type T) = bmB.contains (.type T)) {fI : Addr}
    (hC : h.get? C = some (excClassObj nm q C N bs bm hdct sn sub ab col dd k0 k1 k2 k3 k5 newId))
    (hi : W.Looks (model prog w) h (typeLookup (.ref C) "__init__") (some (.ref fI))) (hb : ∀ self, W.Looks (model prog w) h (bindSpecial (.ref fI) self) (.ref fI, [self])) (sz : rest.length ≤ sizeLine)
    (fin : codeAny (model prog w) (A.under (.builtin "type.__call__" ⟨.ref C :: rest, kw⟩)) (.call (.ref fI) ⟨.ref (h.objs.size + 1) :: rest, kw⟩) (W.InitBack (h.objs.size + 1) R)
      ⟨(h.push (W.kdv_tup rest)).push (HandSPX.excO C h.objs.size), g, d, t, os⟩) :
    codeAny (model prog w) A (.call (.ref C) ⟨rest, kw⟩) R ⟨h, g, d, t, os⟩ := by
  have f1 := tc_lookup
  have f2 := tc_bind (.ref C)
  have ty : (⟨h, g, d, t, os⟩ : Shared).TypeIs (.ref C) "type" := ⟨_, hC, rfl⟩
  refine codeAny_of_tree ?_
  show wpAny _ _ (callAny (.ref C) _) _ _ _
  repeat (any_goals (first | assumption | with_reducible refine wpAny_loadPart_at hC ?_ | wp_step))
  refine ⟨rfl, ?_⟩
  refine codeAny_call_builtin_at (Code.quiet_builtin _ (by decide +kernel)) entry_typeCall (look_call_kw hC (typeCall_kw FB same hC hi hb sz ?_))
  refine codeAny_mono fin fun r s2 z => ?_
  rcases r with e | (v | _ | _ | _) <;> exact z
end
end SlX

set_option Elab.async false
set_option linter.all false
set_option maxRecDepth 100000
set_option maxHeartbeats 4000000
namespace SlX
open PySem PySem.W PySem.Calls PyProof.Rows PySem.Spec L2
open Builtin Builtin.ObjectAttr
/-- self.f = f, for each of the fields -/
inductive Inits : List Stmt → List Str → Prop
  | nil : Inits [] []
  | cons {f : Str} {fs : List Str} {r : List Stmt} (q1 q2 q3 q4 : Pos) : Inits r fs → Inits (.Assign [.Attribute (.Name "self" q1) f q2] (.Name f q3) q4 :: r) (f :: fs)
/-- an exception class of the program whose __init__ (at fI, the statement st) stores the fields fs -/
structure EC (K : Frag) (C fI : Addr) (qual : Str) (st : Stmt) (fs : List Str) : Prop where
  ob : ∃ B newId initId bmB nm q N bs bm sn sub ab col dd k0 k1 k2 k3 k5, ExcBaseFacts B newId initId bmB ∧ StoreFacts B bmB "object.__setattr__" "object" ∧
    K.lookup C = some (excClassObj nm q C N bs bm true sn sub ab col dd k0 k1 k2 k3 k5 newId) ∧ excTail bmB bm = true
  sa : findIn K (.ref C) "__setattr__" = some (some (.builtin "object.__setattr__"))
  ga : findIn K (.ref C) "__getattribute__" = some (some (.builtin "BaseException.__getattribute__"))
  gg : findIn K (.ref C) "__getattr__" = some none
  no : ∀ f ∈ fs, findIn K (.ref C) f = some none
  iC : findIn K (.ref C) "__init__" = some (some (.ref fI))
  tI : typeIn K (.ref fI) = some (.type "function")
  kC : keepIn K (.ref C) = true
  exC : subIn K (.ref C) (.type "BaseException") = some true
  tyC : typeIn K (.ref C) = some (.type "type")
  hdC : hasDictIn K C = true
  fn : ∃ (oc : Value) (od : Option Addr) (kV doc pm : Value) (an : Option Addr) (cdv ct : Value) (osl : Array (Option Value)),
    K.lookup fI = some ⟨oc, od, .func (fnOf "__init__" qual (defArgs st) (defBody st) (defScope st) .none kV doc pm an cdv ct), osl⟩ ∧ codeIn K cdv qual = true
/-- how the __init__ reads: names and fields of its text -/
structure InitTxt (st : Stmt) (fs : List Str) : Prop where
  body : Inits (defBody st) fs
  nd : (("self" : Str) :: fs).Nodup
  loc : ∀ y ∈ (("self" : Str) :: fs), (defScope st).names.lookup y = some .local ∧ (y == ("__debug__" : Str)) = false
  kind : (defScope st).kind = .function
  co : (defScope st).isCoroutine = false
  gen : (defScope st).isGenerator = false
/-- a made exception: at e, its dict at d -/
structure MadeE (h h2 : Heap) (e C d : Addr) (l : List (Str × Value)) : Prop where
  keep : ∀ b o, h.get? b = some o → h2.get? b = some o
  new : h.objs.size ≤ e
  obj : ∃ oe vs, h2.get? e = some oe ∧ oe.cls = .ref C ∧ oe.dict = some d ∧ oe.data = .fields vs ∧ vs[1]? = some .none ∧ vs[2]? = some .none
  dbig : h.objs.size ≤ d
  dne : d ≠ e
  ns : h2.Ns1 d (fun y => l.lookup y)
theorem look_put {α : Type} (f y : Str) (v : α) (l : List (Str × α)) : ((f, v) :: l).lookup y = if y = f then some v else l.lookup y := by
  by_cases h : y = f
  · subst h
    simp [List.lookup]
  · have e : (y == f) = false := by simpa using h
    rw [if_neg h]
    simp [List.lookup, e]
theorem with_keys {l : List (Str × Value)} : Within (fun y => l.lookup y) (l.map (·.1)) := fun y hy => by
  induction l with
  | nil => exact absurd rfl hy
  | cons p l ih =>
    obtain ⟨f, v⟩ := p
    dsimp only at hy
    rw [look_put] at hy
    by_cases e : y = f
    · rw [e]
      exact List.mem_cons_self ..
    · rw [if_neg e] at hy
      exact List.mem_cons_of_mem _ (ih hy)
section
variable {prog : Program} {w : World} {A : Around} {E : Value → Shared → Prop} {R : Result → Shared → Prop} {K : Frag} {C fI : Addr} {qual : Str} {st : Stmt} {fs : List Str}
theorem EC.over (T : EC K C fI qual st fs) : ∃ B bmB, StoreFacts B bmB "object.__setattr__" "object" ∧ excOver K C bmB = true := by
  obtain ⟨B, newId, initId, bmB, nm, q, N, bs, bm, sn, sub, ab, col, dd, k0, k1, k2, k3, k5, FB, SF, hC, ht⟩ := T.ob
  refine ⟨B, bmB, SF, ?_⟩
  have hcl : clsIn K C = some { name := nm, bases := bs, mro := .ref C :: bm, ns := N, qualname := q, hasDict := true, slotNames := sn, subclasses := sub, abstract := ab, collection := col, hasDel := false } := by
    unfold clsIn
    rw [hC] <;> rfl
  unfold excOver
  rw [hcl]
  simp [ht]
theorem rd_loc {M : Model} {s : Shared} {scope : Scope} {L a : Addr} {cd : Value} {m : Str → Option Value} {x : Str} {pos : Pos} {v : Value} {Q : Value → Shared → Prop} (hn : s.heap.Ns L m) (hv : m x = some v) (hk : scope.kind = .function) (hl : scope.names.lookup x = some .local)
    (hd : (x == ("__debug__" : Str)) = false) (h : Q v s) : wpAny M A (eval (.Name x pos) (envOfC qual scope L a cd)) Q E s := wpAny_Name (wpAny_loadName_local hk hl hn hv h) hd
/-- the later stores -/
theorem init_more {sc : Scope} {L dx x a : Addr} {cdv : Value} {m : Str → Option Value} {fv : Array Value} {val : Str → Value} (T : EC K C fI qual st fs) (hkind : sc.kind = .function) (hself : sc.names.lookup ("self" : Str) = some .local) (hmS : m "self" = some (.ref x)) (xL : x ≠ L) (dL : dx ≠ L) (xd : x ≠ dx) (nx : K.lookup x = none) (nd : K.lookup dx = none) :
    ∀ (body : List Stmt) (gs : List Str), Inits body gs → (∀ f ∈ gs, f ∈ fs ∧ m f = some (val f) ∧ sc.names.lookup f = some .local ∧ (f == ("__debug__" : Str)) = false) → ∀ (s : Shared) (l : List (Str × Value)) (Q : Flow → Shared → Prop), K.In s.heap → s.heap.Ns L m → l.length + gs.length ≤ 1000 →
      s.heap.get? x = some { cls := .ref C, dict := some dx, data := .fields fv } → s.heap.Ns1 dx (fun y => l.lookup y) →
      (∀ h2 tk, (∀ b o, b ≠ dx → s.heap.get? b = some o → h2.get? b = some o) → h2.Ns1 dx (fun y => ((gs.map fun f => (f, val f)).reverse ++ l).lookup y) → Q .next { s with heap := h2, toks := tk }) →
      wpAny (model prog w) A (execs body (envOfC qual sc L a cdv)) Q E s := by
  intro body gs I
  induction I with
  | nil => exact fun _ s l Q KX hn hz hx hd fin => wpAny_execs_nil (fin s.heap s.toks (fun _ _ _ e => e) hd)
  | @cons f gs r q1 q2 q3 q4 I ih =>
    intro hall s l Q KX hn hz hx hd fin
    obtain ⟨hf, hmf, hlf, hdf⟩ := hall f (List.mem_cons_self ..)
    obtain ⟨B, bmB, SF, ov⟩ := T.over
    obtain ⟨hp, g, dr, tk0, os⟩ := s
    refine wpAny_execs_cons (plainObj_wpAny_Assign_Attribute ?_)
    refine rd_loc hn hmf hkind hlf hdf (rd_loc hn hmS hkind hself (by decide) ?_)
    obtain ⟨oD, esD, epD, hoD, hdD, hrD⟩ := id hd
    refine set_plain KX (ox := { cls := .ref C, dict := some dx, data := .fields fv }) (od := some oD) ⟨hx, rfl, rfl, hoD⟩ T.sa ?_
    have hlen : (l.map (·.1)).length ≤ 1000 := by
      rw [List.length_map]
      have q : l.length + (gs.length + 1) ≤ 1000 := hz
      omega
    refine more_put SF KX hx hd with_keys hlen ov T.hdC (T.no f hf) (fun h2 tk2 k2 hd2 => ?_)
    show wpAny _ _ (execs r _) _ _ _
    have kl : ∀ y, (if y = f then some (val f) else l.lookup y) = ((f, val f) :: l).lookup y := fun y => (look_put f y _ l).symm
    refine ih (fun y hy => hall y (List.mem_cons_of_mem _ hy)) ⟨h2, g, dr, tk2, os⟩ ((f, val f) :: l) Q (fun b o e => k2 b o (fun z => by rw [z, nd] at e; cases e) (KX b o e)) (hn.at fun o e => k2 _ o (Ne.symm dL) e) ?_ (k2 _ _ xd hx) ?_ (fun h3 tk3 k3 hd3 => ?_)
    · show l.length + 1 + gs.length ≤ 1000
      have q : l.length + (gs.length + 1) ≤ 1000 := hz
      omega
    · have hd2' := hd2
      simp only [kl] at hd2'
      exact hd2'
    · refine fin h3 tk3 (fun b o hb e => k3 b o hb (k2 b o hb e)) ?_
      have e : ((gs.map fun f => (f, val f)).reverse ++ (f, val f) :: l) = (((f :: gs).map fun f => (f, val f)).reverse ++ l) := by simp
      rw [← e]
      exact hd3
end
end SlX

set_option Elab.async false
set_option linter.all false
set_option maxRecDepth 100000
set_option maxHeartbeats 4000000
namespace SlX
open PySem PySem.W PySem.Calls PyProof.Rows PySem.Spec L2
open Builtin Builtin.ObjectAttr
section
variable {prog : Program} {w : World} {A : Around} {E : Value → Shared → Prop} {R : Result → Shared → Prop} {K : Frag} {C fI : Addr} {qual : Str} {st : Stmt} {fs : List Str}
/-- the arguments as the __init__ takes them -/
def BindI (st : Stmt) (qual : Str) (fs : List Str) (args : Value → Args) (vals : List Value) : Prop :=
  ∀ (kV doc pm : Value) (an : Option Addr) (cdv ct u : Value) (s : Shared), BindsTo s (fnOf "__init__" qual (defArgs st) (defBody st) (defScope st) .none kV doc pm an cdv ct) (args u) ((("self" : Str), u) :: fs.zip vals)
theorem bound_at {ps : List Str} {us : List Value} {kindOf : Str → Option NameKind} {i : Nat} {y : Str} {v : Value} (nd : ps.Nodup) (h1 : ps[i]? = some y) (h2 : us[i]? = some v) (hk : kindOf y = some .local) :
    bindL kindOf (ps.zip us) (fun _ => none) y = some v := bindL_get nd h1 h2 hk
theorem vals_fun : ∀ {gs : List Str} {vs : List Value}, gs.Nodup → vs.length = gs.length → ∃ val : Str → Value, gs.map (fun f => (f, val f)) = gs.zip vs
  | [], _, _, _ => ⟨fun _ => .none, rfl⟩
  | f :: r, [], _, h => by cases h
  | f :: r, v :: vr, nd, h => by
    obtain ⟨val, hv⟩ := vals_fun (gs := r) (vs := vr) (List.nodup_cons.mp nd).2 (by simpa using h)
    refine ⟨fun y => if y = f then v else val y, ?_⟩
    show (f, if f = f then v else val f) :: _ = (f, v) :: r.zip vr
    rw [if_pos rfl, ← hv]
    congr 1
    refine List.map_congr_left fun y hy => ?_
    have ny : y ≠ f := fun z => (List.nodup_cons.mp nd).1 (by rw [← z]; exact hy)
    show (y, if y = f then v else val y) = _
    rw [if_neg ny]
/-- the __init__ of a fresh exception at x -/
theorem init_run {s : Shared} {x t0 : Addr} {v0 : Value} {vs : List Value} {f0 : Str} {gs : List Str} {args : Value → Args} (T : EC K C fI qual st (f0 :: gs)) (J : InitTxt st (f0 :: gs)) (B : BindI st qual (f0 :: gs) args (v0 :: vs)) (hlen : vs.length = gs.length) (hsz : gs.length ≤ 900) (KX : K.In s.heap)
    (lim : s.heap.NoLimit) (hx : s.heap.get? x = some (HandSPX.excO C t0)) (nx : K.lookup x = none) (room : A.depth < recursionLimit)
    (fin : ∀ h2 tk dx, (∀ b o, b ≠ x → s.heap.get? b = some o → h2.get? b = some o) → h2.get? x = some { cls := .ref C, dict := some dx, data := .fields #[.ref t0, .none, .none, .none, .bool false, .none] } → s.heap.objs.size ≤ dx → dx ≠ x →
      h2.Ns1 dx (fun y => (((f0 :: gs).zip (v0 :: vs)).reverse).lookup y) → R (.ok (.ret .none)) { s with heap := h2, toks := tk }) :
    codeAny (model prog w) A (.call (.ref fI) (args (.ref x))) R s := by
  obtain ⟨oc, od, kV, doc, pm, an, cdv, ct, osl, ho, hcd⟩ := T.fn
  obtain ⟨Bn, bmB, SF, ov⟩ := T.over
  have hself := (J.loc "self" (List.mem_cons_self ..)).1
  have hloc : ∀ f ∈ f0 :: gs, (defScope st).names.lookup f = some .local ∧ (f == ("__debug__" : Str)) = false := fun f hf => J.loc f (List.mem_cons_of_mem _ hf)
  have hall : ∀ y ∈ ((("self" : Str), Value.ref x) :: (f0 :: gs).zip (v0 :: vs)), ((defScope st).names.lookup y.1 == some NameKind.local || (defScope st).names.lookup y.1 == some NameKind.cell) = true := fun y hy => by
    have q : y.1 ∈ (("self" : Str) :: f0 :: gs) := by
      rcases List.mem_cons.mp hy with e | e
      · rw [e]
        exact List.mem_cons_self ..
      · exact List.mem_cons_of_mem _ (List.of_mem_zip (a := y.1) (b := y.2) e).1
    rw [(J.loc _ q).1]
    rfl
  refine Att.call_fn (binds := (("self" : Str), .ref x) :: (f0 :: gs).zip (v0 :: vs)) KX lim ho hcd room (B _ _ _ _ _ _ _ s) (List.all_eq_true.mpr hall) (fun s1 IC => ?_) J.co J.gen J.kind
  obtain ⟨h1, tk1, rfl⟩ := IC.toInCall.same
  have k : ∀ b o, s.heap.get? b = some o → h1.get? b = some o := IC.toInCall.keep
  have hn := IC.toInCall.ns
  have xL : x ≠ s.heap.objs.size := Nat.ne_of_lt (Heap.lt_size hx)
  have KX1 : K.In h1 := KX.keeps k
  have hx1 := k _ _ hx
  have z1 : s.heap.objs.size < h1.objs.size := hn.lt
  -- the frame's map
  have mS : bindL (envOfC qual (defScope st) s.heap.objs.size fI cdv).kindOf ((("self" : Str), Value.ref x) :: (f0 :: gs).zip (v0 :: vs)) (fun _ => none) "self" = some (.ref x) :=
    bound_at (ps := ("self" : Str) :: f0 :: gs) (us := .ref x :: v0 :: vs) (i := 0) J.nd rfl rfl hself
  have mF : ∀ (i : Nat) f v, (f0 :: gs)[i]? = some f → (v0 :: vs)[i]? = some v → bindL (envOfC qual (defScope st) s.heap.objs.size fI cdv).kindOf ((("self" : Str), Value.ref x) :: (f0 :: gs).zip (v0 :: vs)) (fun _ => none) f = some v := fun i f v e1 e2 =>
    bound_at (ps := ("self" : Str) :: f0 :: gs) (us := .ref x :: v0 :: vs) (i := i + 1) J.nd (by simpa using e1) (by simpa using e2) (hloc f (List.mem_of_getElem? e1)).1
  have body := J.body
  show wpAny _ _ (execs (defBody st) _) _ _ _
  generalize hB : defBody st = bd at body
  cases body with
  | cons q1 q2 q3 q4 I =>
    rename_i r
    obtain ⟨hl0, hd0⟩ := hloc f0 (List.mem_cons_self ..)
    refine wpAny_execs_cons (plainObj_wpAny_Assign_Attribute ?_)
    refine rd_loc hn (mF 0 f0 v0 rfl rfl) J.kind hl0 hd0 (rd_loc hn mS J.kind hself (by decide) ?_)
    refine set_plain KX1 (ox := HandSPX.excO C t0) (od := none) ⟨hx1, rfl, rfl, trivial⟩ T.sa ?_
    refine first_put SF KX1 hx1 ov T.hdC (T.no f0 (List.mem_cons_self ..)) (fun h3 tk3 dx k3 dn dne hx3 hn3 => ?_)
    show wpAny _ _ (execs r _) _ _ _
    have dbig : s.heap.objs.size ≤ dx := Nat.le_of_lt (Nat.lt_of_lt_of_le z1 dn)
    have dL : dx ≠ s.heap.objs.size := fun z => by
      have z2 : h1.objs.size ≤ s.heap.objs.size := z ▸ dn
      exact absurd (Nat.lt_of_lt_of_le z1 z2) (Nat.lt_irrefl _)
    have ndK : K.lookup dx = none := by
      cases e : K.lookup dx with
      | none => rfl
      | some o =>
        have z := Heap.lt_size (KX _ _ e)
        exact absurd (Nat.lt_of_lt_of_le z dbig) (Nat.lt_irrefl _)
    -- the value of a name of gs
    have hval := vals_fun (List.nodup_cons.mp (List.nodup_cons.mp J.nd).2).2 hlen
    obtain ⟨val, hv⟩ := hval
    have hgl : ∀ f ∈ gs, bindL (envOfC qual (defScope st) s.heap.objs.size fI cdv).kindOf ((("self" : Str), Value.ref x) :: (f0 :: gs).zip (v0 :: vs)) (fun _ => none) f = some (val f) := fun f hf => by
      obtain ⟨i, hi⟩ := List.getElem?_of_mem hf
      have e2 : (gs.map fun f => (f, val f))[i]? = some (f, val f) := by rw [List.getElem?_map, hi]; rfl
      rw [hv, List.getElem?_zip_eq_some] at e2
      exact mF (i + 1) f (val f) (by simpa using e2.1) (by simpa using e2.2)
    refine init_more (val := val) (l := [(f0, v0)]) (dx := dx) (x := x) T J.kind hself mS xL dL dne.symm nx ndK r gs I (fun f hf => ⟨List.mem_cons_of_mem _ hf, hgl f hf, hloc f (List.mem_cons_of_mem _ hf)⟩) ⟨h3, _, _, tk3, _⟩ _
      (fun b o e => k3 b o (fun z => by rw [z, nx] at e; cases e) (KX1 b o e)) (hn.at fun o e => k3 _ o xL.symm e) (by show 1 + gs.length ≤ 1000; omega) hx3 ?_ (fun h4 tk4 k4 hn4 => ?_)
    · have kl : ∀ y, (if y = f0 then some v0 else none) = ([(f0, v0)] : List (Str × Value)).lookup y := fun y => (look_put f0 y v0 []).symm
      have hn3' := hn3
      simp only [kl] at hn3'
      exact hn3'
    · refine fin h4 tk4 dx (fun b o hb e => ?_) (k4 _ _ dne.symm hx3) dbig dne ?_
      · have bd' : b ≠ dx := Nat.ne_of_lt (Nat.lt_of_lt_of_le (Heap.lt_size e) dbig)
        exact k4 b o bd' (k3 b o hb (k b o e))
      · have e : ((gs.map fun f => (f, val f)).reverse ++ [(f0, v0)]) = ((f0 :: gs).zip (v0 :: vs)).reverse := by rw [hv]; simp
        rw [← e]
        exact hn4
end
end SlX

set_option Elab.async false
set_option linter.all false
set_option maxRecDepth 100000
set_option maxHeartbeats 4000000
namespace SlX
open PySem PySem.W PySem.Calls PyProof.Rows PySem.Spec L2
section
variable {prog : Program} {w : World} {A : Around} {E : Value → Shared → Prop} {R : Result → Shared → Prop} {K : Frag} {C fI : Addr} {qual : Str} {st : Stmt} {fs : List Str}
/-- the class called -/
theorem made_run {s : Shared} {us : List Value} {kw : List (Str × Value)} {v0 : Value} {vs : List Value} {f0 : Str} {gs : List Str} (T : EC K C fI qual st (f0 :: gs)) (J : InitTxt st (f0 :: gs)) (B : BindI st qual (f0 :: gs) (fun u => ⟨u :: us, kw⟩) (v0 :: vs))
    (hlen : vs.length = gs.length) (hsz : gs.length ≤ 900) (husz : us.length ≤ sizeLine) (KX : K.In s.heap) (lim : s.heap.NoLimit) (room : A.depth + 1 < recursionLimit)
    (fin : ∀ h2 tk e d, MadeE s.heap h2 e C d (((f0 :: gs).zip (v0 :: vs)).reverse) → R (.ok (.ret (.ref e))) { s with heap := h2, toks := tk }) :
    codeAny (model prog w) A (.call (.ref C) ⟨us, kw⟩) R s := by
  obtain ⟨Bn, newId, initId, bmB, nm, q, N, bs, bm, sn, sub, ab, col, dd, k0, k1, k2, k3, k5, FB, SF, hC, ht⟩ := T.ob
  obtain ⟨hp, g, dr, tk, os⟩ := s
  have kp : ∀ b o, hp.get? b = some o → ((hp.push (W.kdv_tup us)).push (HandSPX.excO C hp.objs.size)).get? b = some o := fun b o e => Heap.get?_push_of_some _ (Heap.get?_push_of_some _ e)
  have got : ((hp.push (W.kdv_tup us)).push (HandSPX.excO C hp.objs.size)).get? (hp.objs.size + 1) = some (HandSPX.excO C hp.objs.size) := by heap_get
  have nx : K.lookup (hp.objs.size + 1) = none := by
    cases e : K.lookup (hp.objs.size + 1) with
    | none => rfl
    | some o =>
      have z : hp.get? (hp.objs.size + 1) = some o := KX _ _ e
      exact absurd (Nat.lt_of_succ_lt (Heap.lt_size z)) (Nat.lt_irrefl _)
  refine callCls_kw FB (fun T => excTail_contains T _ ht) (KX _ _ hC) (looks_findIn KX T.iC) (fun self => bind_fn KX self T.tI) husz ?_
  refine init_run (s := ⟨(hp.push (W.kdv_tup us)).push (HandSPX.excO C hp.objs.size), g, dr, tk, os⟩) (args := fun u => ⟨u :: us, kw⟩) T J B hlen hsz (KX.keeps kp) (lim.keeps kp) got nx ?_ fun h2 tk2 dx k2 hx2 dbig dne hns => ?_
  · have e : (A.under (Code.builtin "type.__call__" ⟨.ref C :: us, kw⟩)).depth = A.depth + 1 := make_depth
    rw [e]
    exact room
  · have z : hp.objs.size + 1 + 1 ≤ dx := by
      first
        | (simpa only [Heap.size_push] using dbig)
        | exact dbig
    refine ⟨rfl, fin h2 tk2 (hp.objs.size + 1) dx ⟨fun b o e => ?_, Nat.le_succ _, ⟨_, _, hx2, rfl, rfl, rfl, rfl, rfl⟩, Nat.le_trans (Nat.le_trans (Nat.le_succ _) (Nat.le_succ _)) z, dne, hns⟩⟩
    exact k2 b o (Nat.ne_of_lt (Nat.lt_succ_of_lt (Heap.lt_size e))) (kp b o e)
end
end SlX
namespace L2.Sl
open PySem PySem.W PySem.Calls PyProof.Rows PySem.Spec SlX
/-! ### over the layer -/
theorem zip_rel : ∀ {fs : List Str} {vs : List V} {us : List Value}, Vals vs us → ∀ y, RelO ((fs.zip vs).reverse.lookup y) ((fs.zip us).reverse.lookup y) := by
  have key : ∀ {fs : List Str} {vs : List V} {us : List Value} {l : List (Str × V)} {m : List (Str × Value)}, Vals vs us → (∀ y, RelO (l.lookup y) (m.lookup y)) → ∀ y, RelO (((fs.zip vs).reverse ++ l).lookup y) (((fs.zip us).reverse ++ m).lookup y) := by
    intro fs
    induction fs with
    | nil => intro vs us l m _ h y; exact h y
    | cons f r ih =>
      intro vs us l m hv h y
      cases hv with
      | nil => exact h y
      | @cons v u vr ur h1 h2 =>
        have e1 : ((f :: r).zip (v :: vr)).reverse ++ l = (r.zip vr).reverse ++ ((f, v) :: l) := by simp
        have e2 : ((f :: r).zip (u :: ur)).reverse ++ m = (r.zip ur).reverse ++ ((f, u) :: m) := by simp
        rw [e1, e2]
        refine ih h2 (fun y => ?_) y
        rw [look_put, look_put]
        by_cases e : y = f
        · rw [if_pos e, if_pos e]
          exact h1
        · rw [if_neg e, if_neg e]
          exact h y
  intro fs vs us hv y
  have q := key (fs := fs) (l := []) (m := []) hv (fun y => by trivial) y
  rw [List.append_nil, List.append_nil] at q
  exact q
/-- C(..), the fields fs stored; g: the arguments in the fields' order -/
def tMkE (C : Addr) (fs : List Str) (gV : List V → List V) (ta : TA) : St → Hp → XK → Prop := fun σ H Q => ta σ H fun vs H1 => (gV vs).length = fs.length ∧ vs.length = fs.length ∧ ∀ d, H1 d = none → Q (.ref C) (some d) (upd H1 d (.xd ((fs.zip (gV vs)).reverse)))
section
variable {X : Cx} {C fI : Addr} {qual : Str} {st : Stmt} {fs : List Str} {x : Str} {p pos : Pos}
/-- behind the class's call -/
theorem mk_back {pins : List (Addr × Obj)} {σ : St} {H1 : Hp} {Q : XK} {hp h2 : Heap} {g : Array GenState} {dr : Drawn} {tk tk2 : Nat} {os : OsState} {e d : Addr} {vs : List V} {us : List Value} (T : EC X.K C fI qual st fs)
    (I1 : Inv X pins σ H1 ⟨hp, g, dr, tk, os⟩) (rv : Vals vs us) (M : MadeE hp h2 e C d ((fs.zip us).reverse)) (q : ∀ d, H1 d = none → Q (.ref C) (some d) (upd H1 d (.xd ((fs.zip vs).reverse)))) : L2N.MkP X pins σ Q (.ref e) ⟨h2, g, dr, tk2, os⟩ := by
  obtain ⟨oe, fv, hoe, hc, hd, hdat, h1, h2c⟩ := M.obj
  have hns := M.ns
  obtain ⟨G, g1, g2⟩ := restrict h2 fun b => decide (b ≠ e)
  have gk : ∀ b, b ≠ e → G.get? b = h2.get? b := fun b hb => g1 b (decide_eq_true hb)
  have ge : G.get? e = none := g2 e (by simp)
  have old : ∀ b o, hp.get? b = some o → G.get? b = some o := fun b o q => (gk b (Nat.ne_of_lt (Nat.lt_of_lt_of_le (Heap.lt_size q) M.new))).trans (M.keep b o q)
  have ob : ObjOk X.prog X.w (upd H1 d (.xd ((fs.zip vs).reverse))) G d (.xd ((fs.zip vs).reverse)) :=
    ⟨_, hns.at (fun o q => (gk d M.dne).trans q), zip_rel rv⟩
  have J : Inv X pins σ (upd H1 d (.xd ((fs.zip vs).reverse))) ⟨G, g, dr, tk2, os⟩ := I1.laid (t' := tk2) old M.dbig ob
  refine ⟨e, oe, fv, ⟨G, g, dr, tk2, os⟩, _, .ref C, some d, rfl, J, fun b o q => ?_, ge, hoe, ⟨hc, hd, fun vs e => by rw [hdat] at e; cases e; exact h2c⟩, hdat, h1, ?_, rfl, I1.bare, raises_own T.exC T.tyC, q d (I1.hok.fresh M.dbig)⟩
  · by_cases hb : b = e
    · have q' : G.get? b = some o := q
      rw [hb, ge] at q'; cases q'
    · exact (gk b hb).symm.trans q
  · rw [upd_ne (Ne.symm M.dne)]
    exact I1.hok.fresh M.new
/-- C(e, ..) -/
theorem pmk_E {a : Expr} {es : List Expr} {ta : TA} {k : Nat} (T : EC X.K C fI qual st fs) (J : InitTxt st fs) (hB : ∀ us : List Value, us.length = fs.length → BindI st qual fs (fun u => ⟨u :: us, []⟩) us) (hne : 0 < fs.length ∧ fs.length ≤ 900) (hr : Room k X.A) (hm : X.mg x = some (.ref C))
    (ha : PA X (a :: es) ta) (hg : Gl X x := by rfl) (hdb : (x == ("__debug__" : Str)) = false := by decide)
    (he : starEach (a :: es) X.env = (false, eval a X.env) :: starEach es X.env := by rfl) (hpl : (backTo pos (starEach es X.env)).any (·.1) = false := by rfl) :
    L2N.PMk X (.Call (.Name x p) (a :: es) [] pos) (tMkE C fs id ta) := by
  intro pins s σ H Q I h
  refine wpAny_Call_Name_kw (ld_glob I hg hm ?_ hdb)
  refine PySem.W.callWith_K (h₀ := X.base) I.ok.mod.kin T.kC (thn (ha.run pos pins s σ H _ I h) fun us s1 hh => ?_) he hpl
  obtain ⟨vs, H1, I1, r1, hl, _, q1⟩ := hh
  refine ⟨I1.kIn, ?_⟩
  show wpAny _ _ (call (.ref C) us) _ _ _
  have lus : us.length = fs.length := r1.length.symm.trans hl
  have lim := I1.nolimit
  obtain ⟨hp, g, dr, tk, os⟩ := s1
  have hB1 := hB us lus
  have husz : us.length ≤ sizeLine := by
    rw [lus, sizeLine_eq]
    omega
  cases fs with
  | nil => exact absurd hne.1 (Nat.lt_irrefl _)
  | cons f0 gs =>
    cases us with
    | nil => cases lus
    | cons u0 ur =>
      have hgs : gs.length ≤ 900 := by
        have z := hne.2
        rw [List.length_cons] at z
        omega
      refine wpAny_call (made_run T J hB1 (by simpa using lus) hgs husz I1.kIn lim (by have := hr.dp; omega) fun h2 tk2 e d M => ?_)
      exact mk_back T I1 r1 M q1
/-- C(k = e, ..) -/
theorem pmk_Ek {kws : List Keyword} {ta : TA} {k : Nat} {ks : List Str} {gV : List V → List V} {gU : List Value → List Value} (T : EC X.K C fI qual st fs) (J : InitTxt st fs) (hrel : ∀ vs us, Vals vs us → vs.length = fs.length → Vals (gV vs) (gU us))
    (hB : ∀ us : List Value, us.length = fs.length → BindI st qual fs (fun u => ⟨[u], ks.zip us⟩) (gU us)) (hne : 0 < fs.length ∧ fs.length ≤ 900) (hr : Room k X.A) (hm : X.mg x = some (.ref C))
    (hkw : PK X kws ta) (hg : Gl X x := by rfl) (hdb : (x == ("__debug__" : Str)) = false := by decide)
    (hall : (backToKw pos (keywordEach kws X.env)).all (·.1.isSome) = true := by rfl) (hks : (backToKw pos (keywordEach kws X.env)).filterMap (·.1) = ks := by rfl)
    (hpl : ((backTo pos (starEach [] X.env)).any (·.1) || (backToKw pos (keywordEach kws X.env)).any (·.1.isNone)) = false := by rfl) :
    L2N.PMk X (.Call (.Name x p) [] kws pos) (tMkE C fs gV ta) := by
  intro pins s σ H Q I h
  refine wpAny_Call_Name_kw (ld_glob I hg hm ?_ hdb)
  refine PySem.W.callWith_KW0 (h₀ := X.base) I.ok.mod.kin T.kC hall (thn (hkw.run pos pins s σ H _ I h) fun us s1 hh => ?_) hpl
  obtain ⟨vs, H1, I1, r1, hl, hl0, q1⟩ := hh
  refine ⟨I1.kIn, ?_⟩
  rw [hks]
  show wpAny _ _ (call (.ref C) [] (ks.zip us)) _ _ _
  have lus : us.length = fs.length := r1.length.symm.trans hl0
  have r2 := hrel vs us r1 hl0
  have lim := I1.nolimit
  obtain ⟨hp, g, dr, tk, os⟩ := s1
  have hB1 := hB us lus
  have lg : (gU us).length = fs.length := r2.length.symm.trans hl
  generalize hG : gU us = gu at hB1 r2 lg
  cases fs with
  | nil => exact absurd hne.1 (Nat.lt_irrefl _)
  | cons f0 gs =>
    cases gu with
    | nil => cases lg
    | cons u0 ur =>
      have hgs : gs.length ≤ 900 := by
        have z := hne.2
        rw [List.length_cons] at z
        omega
      refine wpAny_call (made_run T J hB1 (by simpa using lg) hgs (Nat.zero_le _) I1.kIn lim (by have := hr.dp; omega) fun h2 tk2 e d M => ?_)
      exact mk_back T I1 r2 M q1
/-- C(k = e) -/
theorem pmk_Ek1 {kn : Str} {e : Expr} {kp : Pos} {te : TE} {k : Nat} (T : EC X.K C fI qual st fs) (J : InitTxt st fs) (hB : ∀ us : List Value, us.length = fs.length → BindI st qual fs (fun u => ⟨[u], ([kn] : List Str).zip us⟩) us) (hne : 0 < fs.length ∧ fs.length ≤ 900) (hr : Room k X.A) (hm : X.mg x = some (.ref C))
    (he : PE X e te) (hg : Gl X x := by rfl) (hdb : (x == ("__debug__" : Str)) = false := by decide) : L2N.PMk X (.Call (.Name x p) [] [⟨some kn, e, kp⟩] pos) (tMkE C fs id (tCons te tNil)) :=
  pmk_Ek (gV := id) (gU := id) (ks := [kn]) T J (fun _ _ r _ => r) hB hne hr hm (pk_cons he pk_nil) hg hdb rfl rfl rfl
/-- C(k = e, l = f) -/
theorem pmk_Ek2 {kn kn2 : Str} {e e2 : Expr} {kp kp2 : Pos} {te te2 : TE} {k : Nat} {gV : List V → List V} {gU : List Value → List Value} (T : EC X.K C fI qual st fs) (J : InitTxt st fs) (hrel : ∀ vs us, Vals vs us → vs.length = fs.length → Vals (gV vs) (gU us))
    (hB : ∀ us : List Value, us.length = fs.length → BindI st qual fs (fun u => ⟨[u], ([kn, kn2] : List Str).zip us⟩) (gU us)) (hne : 0 < fs.length ∧ fs.length ≤ 900) (hr : Room k X.A) (hm : X.mg x = some (.ref C))
    (he : PE X e te) (he2 : PE X e2 te2) (hg : Gl X x := by rfl) (hdb : (x == ("__debug__" : Str)) = false := by decide) : L2N.PMk X (.Call (.Name x p) [] [⟨some kn, e, kp⟩, ⟨some kn2, e2, kp2⟩] pos) (tMkE C fs gV (tCons te (tCons te2 tNil))) :=
  pmk_Ek (gV := gV) (gU := gU) (ks := [kn, kn2]) T J hrel hB hne hr hm (pk_cons he (pk_cons he2 pk_nil)) hg hdb rfl rfl rfl
end
end L2.Sl

set_option Elab.async false
set_option linter.all false
set_option maxRecDepth 100000
set_option maxHeartbeats 4000000
namespace L2.Sl
open PySem PySem.W PySem.Calls PyProof.Rows PySem.Spec SlX
/-- at a: an exception of the class cls, its dict at d, held as a value -/
def exH (cls : Value) (d : Option Addr) (a : Addr) : HO := .ext fun h => ∃ oe vs, h.get? a = some oe ∧ Zc cls d oe ∧ oe.data = .fields vs
theorem exH_ok {P : Program} {w : World} {H : Hp} {h : Heap} {a : Addr} {cls : Value} {d : Option Addr} {oe : Obj} {vs : Array Value} (e : h.get? a = some oe) (z : Zc cls d oe) (f : oe.data = .fields vs) : ObjOk P w H h a (exH cls d a) :=
  ⟨⟨oe, vs, e, z, f⟩, ⟨oe, e⟩, fun _ _ ⟨o, v, q, r⟩ k => ⟨o, v, k o q, r⟩⟩
theorem exH_at {P : Program} {w : World} {H : Hp} {h : Heap} {a : Addr} {cls : Value} {d : Option Addr} (ok : HOk P w H h) (e : H a = some (exH cls d a)) : ∃ oe vs, h.get? a = some oe ∧ Zc cls d oe ∧ oe.data = .fields vs := by
  have x : ObjOk P w H h a (.ext fun h => ∃ oe vs, h.get? a = some oe ∧ Zc cls d oe ∧ oe.data = .fields vs) := ok a _ e
  exact x.1
section
variable {X : Cx} {pins : List (Addr × Obj)} {σ : L2.St} {H : Hp} {s : Shared} {a : Addr} {cls : Value} {d : Option Addr} {oe : Obj} {vs : Array Value}
/-- an object of ours that nothing tracks: from now on tracked -/
theorem hold (I : Inv X pins σ H s) (new0 : X.s_0.heap.get? a = none) (na : H a = none) (ha : s.heap.get? a = some oe) (hz : Zc cls d oe) (hd : oe.data = .fields vs) (hp : ∀ p ∈ X.pn ++ pins, p.1 ≠ a) (nL : a ≠ X.env.locals) :
    Inv X pins σ (upd H a (exH cls d a)) s := by
  have tr : ∀ {b : Addr} {u : HO}, H b = some u → b ≠ a := fun {b u} e => ne_of_none e na
  have was : ∀ {b : Addr} {o : Obj}, X.s_0.heap.get? b = some o → b ≠ a := fun {b o} e z => by
    rw [z, new0] at e
    cases e
  refine ⟨I.ok, I.os, I.bare, ⟨I.base.keep, I.base.slot, fun b o e n hx => ?_, I.base.there, fun b xs e => ?_, fun b o u e => ?_, fun b ps e => ?_⟩, I.loc, I.cell, ?_, fun y c e => ?_, fun p hq => ?_, fun b u e => ?_, I.len⟩
  · rw [upd_ne (was e)]
    exact I.base.free b o e n hx
  · have q := I.base.tups b xs e
    rw [upd_ne (tr q)]
    exact q
  · have q := I.base.frzs b o u e
    rw [upd_ne (tr q)]
    exact q
  · obtain ⟨m, q⟩ := I.base.tbls b ps e
    exact ⟨m, by rw [upd_ne (tr q)]; exact q⟩
  · rw [upd_ne nL.symm]
    exact I.free
  · have hne : c ≠ a := fun z => by
      obtain ⟨v, o, ho, hdc⟩ := I.cell y c e
      rw [z, ha] at ho
      cases ho
      rw [hd] at hdc
      cases hdc
    rw [upd_ne hne]
    exact I.freeC y c e
  · obtain ⟨e1, e2, e3, e4, e5⟩ := I.pin p hq
    exact ⟨e1, by rw [upd_ne (hp p hq)]; exact e2, e3, e4, e5⟩
  · by_cases hb : b = a
    · subst hb
      rw [upd_same] at e
      cases e
      exact exH_ok ha hz hd
    · rw [upd_ne hb] at e
      exact (I.hok b u e).stay (fun _ _ _ q => q) (fun c q => by rw [upd_ne (tr q)]; exact q) fun c xs q => by rw [upd_ne (tr q)]; exact q
end
/-- an exception that is made, as a value -/
@[irreducible] def tHold (t : L2.St → Hp → XK → Prop) : TE := fun σ H Q => t σ H fun cls d H1 => ∀ a, H1 a = none → Q (.ref a) (upd H1 a (exH cls d a))
theorem pe_mkv {X : Cx} {e : Expr} {t : L2.St → Hp → XK → Prop} (he : L2N.PMk X e t) : PE X e (tHold t) := by
  refine ⟨fun pins s σ H Q I h => ?_⟩
  unfold tHold at h
  refine wpAny_mono (he pins s σ H _ I h) (fun u s2 hu => ?_) fun _ _ z => z
  obtain ⟨a, oe, vs, sI, H1, cls, d, rfl, J, kp, na0, ha, hz, hd, _, na, os, ag, _, q⟩ := hu
  have nw : ∀ {b : Addr} {o : Obj}, sI.heap.get? b = some o → b ≠ a := fun {b o} e z => by
    rw [z, na0] at e
    cases e
  have tr : ∀ {b : Addr} {u : HO}, H1 b = some u → b ≠ a := fun {b u} e => ne_of_none e na
  refine ⟨.ref a, upd H1 a (exH cls d a), J.call' (s' := s2) (ch := []) os ⟨fun b o e n _ _ => kp b o e, fun b o e n _ _ => ⟨o.slots, kp b o e⟩, fun b o e n _ => ?_, fun b o e _ => ⟨o, kp b o e⟩, fun b xs e => ?_, fun b o u e => ?_, fun b ps e => ⟨#[], ?_⟩⟩ (fun b u e => ?_) ag (fun b z => nomatch z), rfl, q a na⟩
  · rw [upd_ne (nw e)]
    exact n
  · rw [upd_ne (tr e)]
    exact e
  · rw [upd_ne (tr e)]
    exact e
  · rw [upd_ne (tr e), e]
    simp
  · by_cases hb : b = a
    · subst hb
      rw [upd_same] at e
      cases e
      exact exH_ok ha hz.zc hd
    · rw [upd_ne hb] at e
      exact (J.hok b u e).stay (fun c o _ q => kp c o q) (fun c q => by rw [upd_ne (tr q)]; exact q) fun c xs q => by rw [upd_ne (tr q)]; exact q
/-! ### e.f -/
/-- what a class must say, so that its instances' fields are read and isinstance asks them rightly -/
structure ExR (K : Frag) (D : Addr) : Prop where
  ga : findIn K (.ref D) "__getattribute__" = some (some (.builtin "BaseException.__getattribute__"))
  gg : findIn K (.ref D) "__getattr__" = some none
  exC : subIn K (.ref D) (.type "BaseException") = some true
  hdC : hasDictIn K D = true
  cl : findIn K (.ref D) "__class__" = some (some (.builtin "object.__class__"))
  sp : specialIn K (.builtin "object.__class__") "__get__" = some (some (.builtin "getset_descriptor.__get__"))
  tk : takesIn K (.builtin "object.__class__") = some true
  mr : mroIn K D (.type "object") = some true
theorem inst_at {P : Program} {w : World} {H : Hp} {h : Heap} {a D dd : Addr} {fs : List (Str × V)} (ok : HOk P w H h) (e : H a = some (exH (.ref D) (some dd) a)) (ed : H dd = some (.xd fs)) :
    ∃ oe od, InstAt h a oe D (some od) ∧ ∀ f v, fs.lookup f = some v → ∃ u, RelV v u ∧ lookIn f od = some (some u) := by
  obtain ⟨oe, vs, ho, hz, hd⟩ := exH_at ok e
  obtain ⟨mA, hns, hr⟩ := (show ObjOk P w H h dd (.xd fs) from ok dd _ ed)
  obtain ⟨od, hod, hl⟩ := lookIn_ns hns
  refine ⟨oe, od, ⟨ho, hz.1, by unfold notCls; rw [hd] <;> rfl, by rw [hz.2]; exact hod⟩, fun f v l => ?_⟩
  obtain ⟨u, hu, ru⟩ := RelO.some_of (v := v) (o := mA f) (by rw [← l]; exact hr f)
  exact ⟨u, ru, by rw [hl, hu]⟩
def tXh (K : Frag) (f : Str) (te : TE) : TE := fun σ H Q => te σ H fun x H1 => ∃ (a D dd : Addr) (fs : List (Str × V)) (v : V), x = .ref a ∧ H1 a = some (exH (.ref D) (some dd) a) ∧ H1 dd = some (.xd fs) ∧ ExR K D ∧ findIn K (.ref D) f = some none ∧ fs.lookup f = some v ∧ Q v H1
theorem pe_xh {X : Cx} {e : Expr} {te : TE} {pos : Pos} {n : Str} (he : PE X e te) (hb : attributeBase e n X.env (eval e X.env) = eval e X.env := by rfl) : PE X (.Attribute e n pos) (tXh X.K n te) := by
  refine ⟨fun pins s σ H Q I h => attr_of hb (thn (he.run pins s σ H _ I h) fun u s1 hh => ?_)⟩
  obtain ⟨x, H1, I1, rx, a, D, dd, fs, v, ex, ea, ed, T, hno, l, q⟩ := hh
  subst ex
  obtain rfl : u = Value.ref a := rx
  obtain ⟨oe, od, J, hl⟩ := inst_at I1.hok ea ed
  obtain ⟨u, ru, hu⟩ := hl n v l
  exact HandSPX.exc_get I1.kIn J T.ga T.gg T.exC (findObj_own T.hdC hno rfl hu) (handed_of ru) ⟨v, H1, I1.tok _, ru, q⟩
end L2.Sl

set_option Elab.async false
set_option linter.all false
set_option maxRecDepth 100000
set_option maxHeartbeats 4000000
namespace SlX
open PySem PySem.Spec PySem.Calls PyProof.Rows PySem.W
section
variable {prog : Program} {w : World} {A : Around} {E : Value → Shared → Prop} {s : Shared} {K : Frag} {x D : Addr} {ox : Obj} {od : Option Obj}
theorem found_data {C : Addr} {name : Str} {a g : Value} (hc : (clsIn K C).isSome = true) (ha : findIn K (.ref C) name = some (some a)) (hg : specialIn K a "__get__" = some (some g)) (ht : takesIn K a = some true) : findObj K C od name = some (.bind g a) := by
  obtain ⟨cd, hc'⟩ := Option.isSome_iff_exists.mp hc
  unfold findObj
  rw [hc', Option.bind_some, ha, Option.bind_some]
  simp [hg, ht]
/-- x.__class__ of an exception, with or without its dict -/
theorem classOf_exc {Q : Option Value → Shared → Prop} (T : L2.Sl.ExR K D) (KX : K.In s.heap) (I : InstAt s.heap x ox D od) (fin : Q (some (.ref D)) { s with toks := s.toks + 1 }) : wpAny (model prog w) A (getAttr? (.ref x) "__class__") Q E s := by
  have hf : findObj K D od "__class__" = some (.bind (.builtin "getset_descriptor.__get__") (.builtin "object.__class__")) := found_data (by obtain ⟨cd, hc, _⟩ := any_some T.hdC; rw [hc]; rfl) T.cl T.sp T.tk
  obtain ⟨hp, g, d, t, os⟩ := s
  have K0 := I.type (M := model prog w)
  have K1 := looks_findIn (M := model prog w) KX T.ga
  have K2 := looks_findIn (M := model prog w) KX T.gg
  have K3 := looks_find (M := model prog w) KX I hf
  have isB : Looks (model prog w) hp (isInstance (.ref x) (.type "BaseException")) true := K0.andThen (looks_subIn KX T.exC)
  have z0 : (false && onTheHeap (Value.builtin "BaseException.__getattribute__")) = false := rfl
  have z2 : (Value.builtin "BaseException.__getattribute__" == Value.builtin "object.__getattribute__") = false := by decide +kernel
  have z1 : (onTheHeap (Value.ref D) && Value.builtin "BaseException.__getattribute__" == Value.builtin "object.__getattribute__") = false := by
    rw [z2]
    rfl
  unfold getAttr? getAttrBy? getAttrBy
  refine wpAny_bind (wpAny_mkText (wpAny_bind (wpAny_attempt (wpAny_holding (wpAny_bind (K0.at (wpAny_bind (K1.at ?_))))))))
  show wpAny _ _ (if (onTheHeap (Value.ref D) && Value.builtin "BaseException.__getattribute__" == Value.builtin "object.__getattribute__") = true then _ else _) _ _ _
  rw [z1, if_neg Bool.false_ne_true]
  unfold getAttrByItsOwn hookBefore
  refine wpAny_bind ?_
  rw [if_pos (show onTheHeap (Value.ref D) = true from rfl)]
  refine K2.at (wpAny_bind (wpAny_attempt (wpAny_holding ?_)))
  unfold callGetattribute
  rw [z0, if_neg Bool.false_ne_true]
  unfold boundAndCalled
  rw [PySem.F.excAttr_ValueError.ga.bind (.ref x)]
  refine wpAny_bind (wpAny_pure ?_)
  show wpAny _ _ (call (.builtin "BaseException.__getattribute__") [.ref x, .str "__class__" t]) _ _ _
  refine wpAny_call (codeAny_call_builtin PySem.F.excAttr_ValueError.ga.plain PySem.F.entry_bexc_ga ?_)
  refine @check_slot (model prog w) _ _ ⟨hp, g, d, t + 1, os⟩ "BaseException.__getattribute__" "BaseException" "__getattribute__" (.ref x) [.str "__class__" t] [] _ (by decide +kernel)
    (by decide +kernel) isB (PySem.F.args_bexc_ga (.ref x) (.str "__class__" t)) ?_
  unfold Builtin.«object.__getattribute__»
  refine wpAny_bind (wpAny_of_eq (a := ((Value.ref x : Value), [Value.str "__class__" t])) (by first | rfl | (simp only [slotArgs]; rfl)) (wpAny_bind (wpAny_pure (wpAny_bind (K0.at (wpAny_bind (K3.at ?_)))))))
  show wpAny _ _ (holding [Value.builtin "object.__class__"] (call (.builtin "getset_descriptor.__get__") [.builtin "object.__class__", .ref x, .ref D]) >>= ret) _ _ _
  refine wpAny_bind (wpAny_holding (wpAny_call (class_get (s := ⟨hp, g, d, t + 1, os⟩) (ox := ox) (od := od) KX I T.mr (wpAny_pure ?_))))
  show wpAny _ _ (handedOut (.ref D)) _ _ _
  rw [handedOut_of (v := .ref D) rfl]
  first
    | exact wpAny_pure (wpAny_pure fin)
    | exact wpAny_pure fin
    | exact wpAny_pure (wpAny_bind (wpAny_pure (wpAny_pure fin)))
theorem kit_exc (T : L2.Sl.ExR K D) : KitX K (.ref x) (.ref D) (fun h => InstAt h x ox D od) where
  ty := fun _ _ _ I => I.type
  it := fun _ _ KX _ => by
    obtain ⟨cdD, hcD, _⟩ := any_some T.hdC
    unfold clsIn at hcD
    split at hcD
    · rename_i c' d' cd' sl' ho
      intro A' Q' E' s' k q
      unfold isType loadHead
      exact wpAny_bind (wpAny_loadPart (k _ _ (KX _ _ ho)) (wpAny_pure q))
    · cases hcD
  ne := fun h tp dd its n sl KX htp => by
    obtain ⟨cdD, hcD, _⟩ := any_some T.hdC
    refine Bool.eq_false_iff.mpr fun q => ?_
    have e : D = tp := Value.ref.inj (beq_iff_eq.mp q)
    subst e
    unfold clsIn at hcD
    split at hcD
    · rename_i c' d' cd' sl' ho
      cases (KX _ _ ho).symm.trans htp
    · cases hcD
  ca := fun KX I k => classOf_exc T KX I k
end
end SlX
namespace L2.Sl
open PySem PySem.W PySem.Calls PyProof.Rows PySem.Spec SlX
/-- isinstance(e, c), e a held exception -/
def rIsH (K : Frag) : List V → Hp → VK → Prop := fun xs H Q => ∃ (a D dd : Addr) (fs : List (Str × V)) (c : V) (cv : Value) (b : Bool), xs = [.ref a, c] ∧ H a = some (exH (.ref D) (some dd) a) ∧ H dd = some (.xd fs) ∧ ExR K D ∧ ClsV c cv ∧ kitOne K (.ref D) cv = some b ∧ Q (.bl b) H
theorem call_isH {X : Cx} : CallR X (.builtin "isinstance") (rIsH X.K) := by
  intro pins s σ H xs us Q I r h
  obtain ⟨a, D, dd, fs, c, cv, b, rfl, ea, ed, T, hc, e, q⟩ := h
  obtain ⟨u1, u2, rfl, r1, r2⟩ := vals2 r
  have e2 := hc.eq r2
  subst e2
  cases (show u1 = Value.ref a from r1)
  obtain ⟨oe, od, J, _⟩ := inst_at I.hok ea ed
  exact kia_one (kit_exc T) I.kIn J e (fun z => nomatch z) fun tk => ⟨.bl b, H, I.kept (t' := tk) fun _ _ z => z, rfl, q⟩
end L2.Sl

set_option Elab.async false
set_option linter.all false
set_option maxRecDepth 100000
set_option maxHeartbeats 4000000
namespace L2.Sl
open PySem PySem.W PySem.Calls PyProof.Rows PySem.Spec SlX
/-- how a suite ends whose name i held the exception at a: from then on the exception is tracked -/
def kept (D : Ends) (a : Addr) (cls : Value) (d : Option Addr) (i : Nat) : Ends where
  nx := fun σ H => H a = none → D.nx (σ.set i none) (upd H a (exH cls d a))
  rt := fun v H => H a = none → D.rt v (upd H a (exH cls d a))
  bk := fun σ H => H a = none → D.bk (σ.set i none) (upd H a (exH cls d a))
  ct := fun σ H => H a = none → D.ct (σ.set i none) (upd H a (exH cls d a))
abbrev Cl := Value × Nat × (Addr → Value → Option Addr → TS)
/-- what the clauses wish, one after the other -/
def wKeep (K : Frag) (Wout : WX) (D : Ends) : List Cl → WX
  | [] => Wout
  | (c, i, ts) :: r => fun cls d σ H => ∃ b, exmOne K cls c = some b ∧ (b = true → ∀ a, H a = none → ts a cls d (kept D a cls d i) (σ.set i (some (.ref a))) H) ∧ (b = false → wKeep K Wout D r cls d σ H)
inductive ClsOk (X : Cx) : List ExceptHandler → List Cl → Prop
  | nil : ClsOk X [] []
  | cons {x n : Str} {i : Nat} {c : Value} {ts : Addr → Value → Option Addr → TS} {b₀ : Stmt} {suite : List Stmt} {np pos2 : Pos} {hds : List ExceptHandler} {l : List Cl} (hc : Names X x c) (hi : X.N[i]? = some n) (hln : X.env.kindOf n = some .local)
      (hsu : ∀ (a : Addr) (oe : Obj) (cls : Value) (d : Option Addr) (pn : List (Addr × Obj)), L2N.Zn cls d oe → (∃ vs, oe.data = .fields vs) → PSs (X.suite a ((a, oe) :: pn)) (b₀ :: suite) (ts a cls d)) (r : ClsOk X hds l) :
      ClsOk X (.ExceptHandler (some (.Name x np)) (some n) (b₀ :: suite) pos2 :: hds) ((c, i, ts) :: l)
section
variable {X : Cx} {body : List Stmt} {h₀ : ExceptHandler} {hds : List ExceptHandler} {l : List Cl} {pos : Pos} {tb : WX → TS} {Wout : WX}
theorem ps_try_keep (hs : X.stack = X.env :: X.outer) (hf : X.env.frame = some X.env.locals) (hN : X.N.Nodup) (hex : X.ex = []) (tk : L2N.Takes X Wout)
    (hb : ∀ (W : WX) (pn : List (Addr × Obj)) (xe : Value → Shared → Prop), L2N.Takes (X.tr pn xe) W → PassesOwn (model X.prog X.w) X.A X.env xe → PSs (X.tr pn xe) body (tb W))
    (hh : ClsOk X (h₀ :: hds) l) : PS X (.Try body (h₀ :: hds) [] [] pos) (fun D σ H => tb (wKeep X.K Wout D l) D σ H) := by
  refine ⟨fun pins s σ H D I h => ?_⟩
  have okX := I.ok
  have frm : X.A.frames = some (X.env :: X.outer) := by rw [okX.frames, hs]
  refine wpAny_Try_except (wpAny_mono ((hb (wKeep X.K Wout D l) (X.pn ++ pins) (fun e t1 => wpAny (model X.prog X.w) X.A (noteFrame e X.env) (fun _ t2 => wpAny (model X.prog X.w) X.A (setFlight e none) (fun _ t3 =>
    wpAny (model X.prog X.w) X.A (handleBy e X.env (h₀ :: hds)) (SP X pins D) X.xe t3) X.xe t2) X.xe t1) (fun u s2 xx => ?_) PassesOwn.looking).run [] s σ H D (I.toTry _) h) (fun f s1 hsp => ?_) (fun e s1 he => he))
  · obtain ⟨a, B, sI, pins2, σ2, H2, cls, d, rfl, J0, nb, up, sky, na, os, ag, wish⟩ := xx
    have J : Inv X pins σ2 H2 sI := J0.ofTry okX
    have sky2 : Sky B (X.env :: X.outer) a (L2N.Zn cls d) X.env.locals s2.heap := by rw [← hs]; exact sky
    show wpAny (model X.prog X.w) X.A (noteFrame (.ref a) X.env) _ _ _
    refine L2N.Sky.land L2N.Zn.steady frm hf sky2 fun h3 fl3 up3 => ?_
    have J3 : Inv X pins σ2 H2 { s2 with heap := h3 } := J.landed nb fl3.1 (up.trans up3) os ag
    obtain ⟨oe3, vs3, he3, hz3, hd3⟩ := fl3.there
    have offFr : a ∉ frs (X.env :: X.outer) := fun hm => by
      obtain ⟨_, o', e', hnf⟩ := fl3.2.2.1.mem hm
      rw [he3] at e'
      cases e'
      exact hnf _ hd3
    have nL : a ≠ X.env.locals := fun z => offFr (List.mem_filterMap.mpr ⟨X.env, List.mem_cons_self, by rw [hf, z]⟩)
    have nF : a ∉ X.fs := fun hm => by
      obtain ⟨e, he, q⟩ := List.mem_filterMap.mp hm
      exact offFr (List.mem_filterMap.mpr ⟨e, List.mem_cons_of_mem _ he, q⟩)
    -- the exception is none of the objects that were there
    have newI : sI.heap.get? a = none := by
      cases e : sI.heap.get? a with
      | none => rfl
      | some o =>
        have z := nb a o e (by rw [hs]; exact offFr)
        rw [fl3.2.1] at z
        cases z
    have new0 : X.s_0.heap.get? a = none := by
      cases e : X.s_0.heap.get? a with
      | none => rfl
      | some o =>
        obtain ⟨o', z⟩ := J.base.there a o e (by rw [hex]; exact fun z => nomatch z)
        rw [newI] at z
        cases z
    have offPins : ∀ p ∈ X.pn ++ pins, p.1 ≠ a := fun p hp z => by
      have q := (J.pin p hp).1
      rw [z, newI] at q
      cases q
    have S3 := J3.suite he3 hd3 na nL nF
    have go : ∀ {hds2 : List ExceptHandler} {l2 : List Cl}, ClsOk X hds2 l2 → wKeep X.K Wout D l2 cls d σ2 H2 →
        wpAny (model X.prog X.w) X.A (handleBy (.ref a) X.env hds2) (SP X pins D) X.xe { s2 with heap := h3 } := by
      intro hds2 l2 hk
      induction hk with
      | nil =>
        intro wish
        refine wpAny_handleBy_nil ?_
        obtain ⟨k1, k2, k3, oe, vs, T, oT, ts2, he, hz, hd, h1, hr⟩ := id fl3
        unfold PySem.passOn
        refine wpAny_bind (wpAny_field he hd h1 ?_)
        rw [if_neg (show ¬ ((Value.ref T == Value.none) = true) from by simp)]
        have out : wpAny (model X.prog X.w) X.A (setFlight (.ref a) X.env.frame) (fun _ t4 => wpAny (model X.prog X.w) X.A (throw (.ref a) : Sem Flow) (SP X pins D) X.xe t4) X.xe { s2 with heap := h3 } := by
          rw [hf]
          exact HandSPX.setFlight_upZ fl3 fun h4 hh4 up4 => wpAny_throw (tk _ _ ⟨a, B, sI, pins, σ2, H2, cls, d, rfl, J, nb, (up.trans up3).trans up4, .inr (.inr (by rw [hs]; exact hh4)), na, os, ag, wish⟩)
        first
          | exact wpAny_bind (wpAny_pure (wpAny_bind out))
          | exact wpAny_bind out
      | @cons x n i c ts b₀ suite np pos2 hds3 l3 hc hi hln hsu r ih =>
        intro wish
        obtain ⟨b, hb1, yes, no⟩ := wish
        have locn : Loc X.env.scope n := .inl hln
        refine wpAny_handleBy_cons (codeAny_handlers_test ?_) (by intro q; cases q)
        have ty : Looks (model X.prog X.w) h3 (typeOf (.ref a)) cls := fun A Q E s k q => wpAny_typeOf_ref (k _ _ he3) (by rw [hz3.1]; exact q)
        have mt := exm_one (M := model X.prog X.w) (J3.kIn) ty hb1
        have test : ∀ {Q : Value → Shared → Prop} {E : Value → Shared → Prop}, Q c { s2 with heap := h3 } → wpAny (model X.prog X.w) (X.A.mark (some (.ref a))) (eval (.Name x np) X.env) Q E { s2 with heap := h3 } := fun {Q E} q => by
          obtain ⟨hg, hdbg, hm | ⟨hm, hv, hnn⟩⟩ := hc
          · exact ld_glob (X := X.suite a ((a, oe3) :: (X.pn ++ pins))) S3 hg hm q hdbg
          · exact ld_blt (X := X.suite a ((a, oe3) :: (X.pn ++ pins))) S3 hg hm hv q hnn hdbg
        refine test (mt.here ?_)
        cases b with
        | false =>
          show wpAny _ X.A (handleBy (.ref a) X.env hds3) _ _ _
          exact ih (no rfl)
        | true =>
          refine codeAny_handlers_suite_as (HandSPX.lands_againZ fl3 fun h4 fl4 up4 => ?_)
          have J4 : Inv X pins σ2 H2 { s2 with heap := h4 } := J.landed nb fl4.1 ((up.trans up3).trans up4) os ag
          obtain ⟨oe4, vs4, he4, hz4, hd4⟩ := fl4.there
          have S4 := J4.suite he4 hd4 na nL nF
          refine store_ok (X := X.suite a ((a, oe4) :: (X.pn ++ pins))) (v := .ref a) S4 hN hi locn rfl (fun s5 S5 => ?_) (.inr hln)
          refine wpAny_mono ((hsu a oe4 cls d (X.pn ++ pins) hz4 ⟨_, hd4⟩).run [] s5 _ H2 _ S5 (yes rfl a na)) (fun f s6 hsp => ?_) (fun _ _ z => False.elim z)
          have fin : ∀ {σ6 : L2.St} {H6 : Hp} {Q : Shared → Prop}, Inv (X.suite a ((a, oe4) :: (X.pn ++ pins))) [] σ6 H6 s6 → (H6 a = none → ∀ s7, Inv X pins (σ6.set i none) (upd H6 a (exH cls d a)) s7 → Q s7) →
              wpAny (model X.prog X.w) X.A (do bindName X.env n .none; unbindBehindTheSuite X.env n pos2) (fun _ s7 => Q s7) X.xe s6 := fun {σ6 H6 Q} S6 hq => by
            obtain ⟨e1, e2, e3, e4, e5⟩ := S6.pin (a, oe4) (List.mem_append_left _ List.mem_cons_self)
            exact gone_ok (hold (S6.unsuite okX) new0 e2 e1 hz4.zc hd4 offPins nL) hN hi hln fun s7 J7 => hq e2 s7 J7
          cases f with
          | next =>
            obtain ⟨σ6, H6, S6, q6⟩ := hsp
            exact fin S6 fun n6 s7 J7 => ⟨_, _, J7, q6 n6⟩
          | brk =>
            obtain ⟨σ6, H6, S6, q6⟩ := hsp
            exact fin S6 fun n6 s7 J7 => ⟨_, _, J7, q6 n6⟩
          | cont =>
            obtain ⟨σ6, H6, S6, q6⟩ := hsp
            exact fin S6 fun n6 s7 J7 => ⟨_, _, J7, q6 n6⟩
          | ret u =>
            obtain ⟨v6, σ6, H6, S6, r6, q6⟩ := hsp
            exact fin S6 fun n6 s7 J7 => ⟨_, _, _, J7, r6, q6 n6⟩
    exact go hh wish
  · cases f with
    | next =>
      obtain ⟨σ2, H2, J2, q⟩ := hsp
      exact wpAny_execs_nil ⟨σ2, H2, J2.ofTry okX, q⟩
    | brk =>
      obtain ⟨σ2, H2, J2, q⟩ := hsp
      exact ⟨σ2, H2, J2.ofTry okX, q⟩
    | cont =>
      obtain ⟨σ2, H2, J2, q⟩ := hsp
      exact ⟨σ2, H2, J2.ofTry okX, q⟩
    | ret u =>
      obtain ⟨v, σ2, H2, J2, r, q⟩ := hsp
      exact ⟨v, σ2, H2, J2.ofTry okX, r, q⟩
end
end L2.Sl

set_option Elab.async false
set_option linter.all false
set_option maxRecDepth 100000
set_option maxHeartbeats 4000000
namespace L2.Sl
open PySem PySem.Spec PyProof.Rows
/-- as FnOk, where nothing is being shown by repr around the call -/
structure FnG (P : Program) (w : World) (K : PySem.W.Frag) (mg : Str → Option Value) (base : Heap) (CX : CXT) (k : Nat) (f : Addr) (fd : FuncData) (ps : List Str) (sp : Sp) : Prop where
  len : ∀ vs H Q E, sp vs H Q E → vs.length = ps.length
  run : ∀ (A : Around) (outer : List Env) (s : Shared) (H : Hp) (args : Args) (us : List Value) (vs : List V) (Q : VK) (E : XK), A.guards = some [] → Room k A → Env0 P w K mg base A outer s H → BindsTo s fd args (ps.zip us) → Vals vs us →
    sp vs H Q E → codeAny (model P w) A (.call (.ref f) args) (CR CX outer P w H s Q E) s
section
variable {P : Program} {w : World} {K : PySem.W.Frag} {mg : Str → Option Value} {base : Heap} {CX : CXT}
theorem FnG.of {k : Nat} {f : Addr} {fd : FuncData} {ps : List Str} {sp : Sp} (F : FnOk P w K mg base CX k f fd ps sp) : FnG P w K mg base CX k f fd ps sp := ⟨F.len, fun A outer s H args us vs Q E _ => F.run A outer s H args us vs Q E⟩
theorem FnG.mono {j k : Nat} {f : Addr} {fd : FuncData} {ps : List Str} {sp : Sp} (F : FnG P w K mg base CX j f fd ps sp) (h : j ≤ k) : FnG P w K mg base CX k f fd ps sp :=
  ⟨F.len, fun A outer s H args us vs Q E hg hr => F.run A outer s H args us vs Q E hg (hr.mono h)⟩
theorem fnG_of {k : Nat} {f : Addr} {name qual : Str} {params : Arguments} {body : List Stmt} {scope : Scope} {dV kV doc pm cdv ct oc : Value} {an od : Option Addr} {osl : Array (Option Value)} {N ps : List Str} {sp : Sp}
    (lk : K.lookup f = some ⟨oc, od, .func (PySem.W.fnOf name qual params body scope dV kV doc pm an cdv ct), osl⟩) (hcd : PySem.W.codeIn K cdv qual = true) (S : FnScope N ps scope) (len : ∀ vs H Q E, sp vs H Q E → vs.length = ps.length)
    (bodyOk : ∀ (A : Around) (outer : List Env) (s : Shared) (H : Hp) (vs : List V) (Q : VK) (E : XK), A.guards = some [] → Room k (A.deeper (envOfC qual scope s.heap.objs.size f cdv)) → sp vs H Q E →
      ∃ t, PSs (cxOf CX P w K mg base N qual scope f cdv A outer s H E) body t ∧ t { nx := fun _ H2 => Q .non H2, rt := Q } (start N vs) H) :
    FnG P w K mg base CX (k + 1) f (PySem.W.fnOf name qual params body scope dV kV doc pm an cdv ct) ps sp := by
  refine ⟨len, fun A outer s H args us vs Q E hgu hro en bi rv hsp => ?_⟩
  have lvs := len _ _ _ _ hsp
  have KIn : K.In s.heap := en.mod.kin.keeps fun b o e => (en.bs b o e).1
  have noLim : s.heap.NoLimit := en.mod.nolimit.keeps fun b o e => (en.bs b o e).1
  have kinds : ∀ y ∈ ps.zip us, scope.names.lookup y.1 = some .local ∨ (scope.names.lookup y.1 = some .cell ∧ ((cellsFrom (s.heap.objs.size + 1) scope.names []).lookup y.1).isSome = true) := by
    rintro ⟨n, v⟩ hy
    rcases S.par n (List.of_mem_zip hy).1 with q | q
    · exact .inl q
    · exact .inr ⟨q, PySem.W.cellsFrom_some _ _ _ (.inl q)⟩
  refine codeAny_call_function hro.depth (KIn _ _ lk) rfl S.co S.gen rfl (PySem.W.codeRec_of KIn hcd) (bi _ _ _ _ (wpAny_newFunctionEnv_cells S.kind kinds fun env he s1 x => ?_))
  subst he
  refine ⟨noLim.keeps x.toInCall.keep, codeAny_func ?_⟩
  obtain ⟨t, ht, hq⟩ := bodyOk A outer s H vs Q E hgu (hro.deeper _) hsp
  have I := inv_start (CX := CX) (E := E) S hro.hd en lvs rv x
  refine wpAny_mono (ht.run [] s1 (start N vs) H _ I hq) (fun fl s2 hs => ?_) fun e s2 hs => hs
  have endd : ∀ {σ2 : L2.St} {H2 : Hp} {v : V} {u : Value}, Inv (cxOf CX P w K mg base N qual scope f cdv A outer s H E) [] σ2 H2 s2 → RelV v u → Q v H2 → CE outer P w H s Q u s2 := fun J r q => ⟨_, _, J.os, J.bare, J.base, J.hok, r, q⟩
  cases fl with
  | ret u =>
    obtain ⟨v, σ2, H2, J, r, q⟩ := hs
    exact endd J r q
  | next =>
    obtain ⟨σ2, H2, J, q⟩ := hs
    exact endd (v := V.non) (u := Value.none) J rfl q
  | brk =>
    obtain ⟨_, _, _, q⟩ := hs
    exact q.elim
  | cont =>
    obtain ⟨_, _, _, q⟩ := hs
    exact q.elim
/-- the body of a def, where nothing leaves it but by its return -/
theorem okG {x qual : Str} {st : Stmt} {f : Addr} {fd : FuncData} {N ps : List Str} {k : Nat} {sp : Sp} (F : Fun K x qual st f fd) (S : FnScope N ps (defScope st)) (len : ∀ vs H Q E, sp vs H Q E → vs.length = ps.length)
    (bodyOk : ∀ (cdv : Value) (A : Around) (outer : List Env) (s : Shared) (H : Hp) (vs : List V) (Q : VK) (E : XK), A.guards = some [] → Room k (A.deeper (envOfC qual (defScope st) s.heap.objs.size f cdv)) → sp vs H Q E →
      ∃ t, PSs (cxOf CX0 P w K mg base N qual (defScope st) f cdv A outer s H E).nox (defBody st) t ∧ t { nx := fun _ H2 => Q .non H2, rt := Q } (start N vs) H) : FnG P w K mg base CX0 (k + 1) f fd ps sp := by
  obtain ⟨oc, od, kV, doc, pm, an, cdv, ct, osl, rfl, lk, hcd⟩ := F.ex
  refine fnG_of lk hcd S len fun A outer s H vs Q E hg hr hsp => ?_
  obtain ⟨t, h, q⟩ := bodyOk cdv A outer s H vs Q E hg hr hsp
  exact ⟨t, h.nox, q⟩
end
section
variable {X : Cx} {CX : CXT} {k : Nat} {f : Addr} {fd : FuncData} {ps : List Str} {sp : Sp} {dvs : List V} {ds : List Value} {E : XK} {x : Str} {p pos : Pos} {e : Expr} {es : List Expr} {t : TA}
theorem run_fnG {pins : List (Addr × Obj)} {σ : L2.St} {H : Hp} {s : Shared} {Q : VK} {us : List Value} {vs : List V} (F : FnG X.prog X.w X.K X.mg X.base CX k f fd ps sp) (hgu : X.A.guards = some []) (hr : Room k X.A) (hb : Binds X.K fd ps ds) (hd : Vals dvs ds) (hx : Passes CX X E)
    (I : Inv X pins σ H s) (r : Vals vs us) (h : sp (vs ++ dvs) H Q E) : wpAny (model X.prog X.w) X.A (call (.ref f) us) (EP X pins σ Q) X.xe s := by
  have r2 := r.append hd
  have lus : (us ++ ds).length = ps.length := r2.length.symm.trans (F.len _ _ _ _ h)
  refine wpAny_call (codeAny_mono (F.run X.A X.stack s H ⟨us, []⟩ (us ++ ds) (vs ++ dvs) Q E hgu hr I.env0 (hb s us I.kIn lus) r2 h) fun r s2 hq => ?_)
  rcases r with er | fl
  · exact hx pins σ H s er s2 I hq
  · cases fl with
    | ret u => exact I.after hq
    | next => exact (hq : False).elim
    | brk => exact (hq : False).elim
    | cont => exact (hq : False).elim
theorem pe_callG (F : FnG X.prog X.w X.K X.mg X.base CX k f fd ps sp) (hgu : X.A.guards = some []) (hr : Room k X.A) (hg : Gl X x) (hm : X.mg x = some (.ref f)) (hk : PySem.W.keepIn X.K (.ref f) = true) (hb : Binds X.K fd ps ds) (hd : Vals dvs ds) (hx : Passes CX X E)
    (ha : PA X (e :: es) t) (hdb : (x == ("__debug__" : Str)) = false := by decide) (he : starEach (e :: es) X.env = (false, eval e X.env) :: starEach es X.env := by rfl) (hpl : (backTo pos (starEach es X.env)).any (·.1) = false := by rfl) :
    PE X (.Call (.Name x p) (e :: es) [] pos) (tCall sp dvs E t) :=
  ⟨fun pins s σ H Q I h => wpAny_Call_Name_kw (ld_glob I hg hm (PySem.W.callWith_K (h₀ := X.base) I.ok.mod.kin hk (thn (ha.run pos pins s σ H _ I h) fun us s1 ⟨vs, H1, I1, r, q⟩ => ⟨I1.kIn, run_fnG F hgu hr hb hd hx I1 r q⟩) he hpl) hdb)⟩
end
/-! ### repr of data -/
/-- repr(x): x data whose text fits -/
def rRepr (K : PySem.W.Frag) : List V → Hp → VK → Prop := fun xs H Q => ∃ (x : V) (d : PyData), xs = [x] ∧ Dp K H x d ∧ (∃ a, x = .ref a) ∧ d.showable = true ∧ d.hasDict = false ∧ d.depth ≤ 60 ∧ d.shown.length ≤ sizeLine ∧ Q (.str d.shown) H
theorem call_repr {X : Cx} (hgu : X.A.guards = some []) {k : Nat} (hr : Room k X.A) : CallR X (.builtin "repr") (rRepr X.K) := by
  intro pins s σ H xs us Q I r h
  obtain ⟨x, d, rfl, hd, ⟨a, rfl⟩, hs, hh, hdep, hz, q⟩ := h
  obtain ⟨u, rfl, ru⟩ : ∃ u, us = [u] ∧ RelV (.ref a) u := by
    cases r with
    | cons r1 r2 =>
      cases r2
      exact ⟨_, rfl, r1⟩
  cases (show u = Value.ref a from ru)
  obtain ⟨as, rd⟩ := Dp.reads I d (.ref a) (.ref a) hd rfl
  have hu := hr.units
  exact repr_of_reads' rd hs (fun e => by rw [hh] at e; cases e) hgu (by omega) (fun _ _ e => e) (fun h2 u tk kk => ⟨.str d.shown, H, I.kept (t' := tk) kk, ⟨u, rfl⟩, q⟩) hz
end L2.Sl

set_option Elab.async false
set_option linter.all false
set_option maxRecDepth 100000
set_option maxHeartbeats 4000000
namespace L2.Sl
open PySem PySem.Spec PyProof.Rows
/-- the law's call, its promise held where nothing is being shown -/
theorem top_call {P : Program} {w : World} {K : PySem.W.Frag} {mg mb : Str → Option Value} {CX : CXT} {k : Nat} {fa a : Addr} {fd : FuncData} {x : Str} {sp : Sp} {s₁ : Shared} {vs : List Value} {ns : List Int}
    (KIn : K.In s₁.heap) (nsM : s₁.heap.Ns mainGlobals mg) (nsB : s₁.heap.Ns builtinsNs mb) (bb : ∀ x : Str, x ≠ "__name__" → mb x = bootBuiltins x) (lim : s₁.heap.NoLimit) (gens0 : s₁.gens = #[])
    (atA : s₁.heap.get? a = some { cls := .type "list", data := .seq vs.toArray }) (hints : IntsAre vs ns) (sz : ns.length ≤ sizeLine) (room : Room k callerA)
    (F : ∀ base : Heap, K.In base → base.Ns mainGlobals mg → FnG P w K mg base CX k fa fd [x] sp) (bind : ∀ (s : Shared) (u : Value), BindsTo s fd ⟨[u], []⟩ [(x, u)])
    (hsp : ∀ H : Hp, Only H → SqL K H a (ns.map V.int) → sp [.ref a] H (fun v _ => v = .bl true) fun _ _ _ => False) (noX : ∀ H e s2, CX [] H s₁ (fun _ _ _ => False) e s2 → False) :
    codeAny (model P w) callerA (.call (.ref fa) ⟨[.ref a], []⟩) (fun r s2 => r = .ok (.ret (.bool true)) ∧ OldK s₁.heap s2.heap ∧ s2.os = s₁.os ∧ AllBare s2.gens) s₁ := by
  have rvs := vals_ints hints
  have lv := hints.length
  have main : ∀ H : Hp, Only H → SqL K H a (ns.map V.int) → HOk P w H s₁.heap → (∀ b, H b ≠ none → b = a) → (H a ≠ none → K.lookup a = none) →
      codeAny (model P w) callerA (.call (.ref fa) ⟨[.ref a], []⟩) (fun r s2 => r = .ok (.ret (.bool true)) ∧ OldK s₁.heap s2.heap ∧ s2.os = s₁.os ∧ AllBare s2.gens) s₁ := by
    intro H only hS ok onlyA notK
    have lay : ∀ {b : Addr} {o : Obj}, s₁.heap.get? b = some o → H b = none → (hidT s₁.heap H).get? b = some o := fun e n => hidT_get e n
    have dictFree : ∀ {b : Addr} {o : Obj} {es : Array DictEntry} {ep : Nat}, s₁.heap.get? b = some o → o.data = .dict es ep → H b = none := fun {b o es ep} e d => by
      cases q : H b with
      | none => rfl
      | some u =>
        have z : b = a := onlyA b (by rw [q]; simp)
        rw [z, atA] at e
        cases e
        have d2 : Data.seq vs.toArray _ = Data.dict es ep := d
        cases d2
    have nsOf : ∀ {b : Addr} {m : Str → Option Value}, s₁.heap.Ns b m → (hidT s₁.heap H).Ns b m := fun {b m} ⟨o, es, ep, e, d, r⟩ => ⟨o, es, ep, lay e (dictFree e d), d, r⟩
    have KB : K.In (hidT s₁.heap H) := fun b o e => lay (KIn b o e) (by
      cases q : H b with
      | none => rfl
      | some u =>
        have z : b = a := onlyA b (by rw [q]; simp)
        rw [z, notK (by rw [← z, q]; simp)] at e
        cases e)
    obtain ⟨mc, lim1, lim2⟩ := lim
    have MB : Mod K mg (hidT s₁.heap H) := ⟨KB, nsOf nsM, ⟨mb, nsOf nsB, bb⟩, ⟨mc, nsOf lim1, lim2⟩⟩
    have en : Env0 P w K mg (hidT s₁.heap H) callerA [] s₁ H := ⟨rfl, MB, fun b o e => of_hidT e, Nat.le_of_eq (hidT_size _ _), trivial, (fun b hb => absurd (show b ∈ ([] : List Addr) from hb) (by simp)), ok, .of_eq gens0⟩
    refine codeAny_mono ((F _ KB (nsOf nsM)).run callerA [] s₁ H ⟨[.ref a], []⟩ [.ref a] [.ref a] _ _ rfl room en (bind s₁ (.ref a)) (.cons rfl .nil) (hsp H only hS)) fun r s2 h => ?_
    rcases r with e | fl
    · exact (noX H e s2 h).elim
    · cases fl with
      | next => exact (h : False).elim
      | brk => exact (h : False).elim
      | cont => exact (h : False).elim
      | ret u =>
        obtain ⟨v, H2, os, bare, un, ok2, r, rfl⟩ := h
        obtain rfl : u = Value.bool true := r
        refine ⟨rfl, OldK.of_keep fun b o e => ?_, os, bare⟩
        cases q : H b with
        | none => exact un.keep b o e q (fun z => nomatch z) (by simp)
        | some u =>
          rcases only b with z | ⟨ob, xs, z⟩
          · rw [q] at z
            cases z
          · obtain ⟨e1, _⟩ := ok b _ z
            obtain ⟨e2, _⟩ := ok2 b _ (un.frzs b ob _ z)
            rw [e] at e1
            cases e1
            exact e2
  cases hk : K.lookup a with
  | some o =>
    have e := KIn a o hk
    rw [atA] at e
    cases e
    exact main (fun _ => none) (fun _ => .inl rfl) (.inr ⟨_, vs.toArray, _, hk, rfl, rfl, rfl, by rw [List.size_toArray, lv]; exact sz, by simpa using rvs⟩) (fun b u z => nomatch (show (none : Option HO) = some u from z)) (fun b z => absurd rfl z) fun z => absurd rfl z
  | none =>
    obtain ⟨H, hH⟩ : ∃ H : Hp, H = fun b => if b = a then some (.frz { cls := .type "list", data := .seq vs.toArray } (.lst (ns.map V.int))) else none := ⟨_, rfl⟩
    have h1 : H a = some (.frz { cls := .type "list", data := .seq vs.toArray } (.lst (ns.map V.int))) := by rw [hH]; exact if_pos rfl
    have h2 : ∀ {b}, b ≠ a → H b = none := fun {b} z => by rw [hH]; exact if_neg z
    refine main H (fun b => ?_) (.inl (.inr ⟨_, h1⟩)) (fun b u z => ?_) (fun b z => ?_) fun _ => hk
    · by_cases hb : b = a
      · exact .inr ⟨_, _, by rw [hb]; exact h1⟩
      · exact .inl (h2 hb)
    · by_cases hb : b = a
      · subst hb
        rw [h1] at z
        cases z
        exact ⟨atA, by rw [List.length_map]; exact sz, vs, _, rvs, atA⟩
      · rw [h2 hb] at z
        cases z
    · by_cases hb : b = a
      · exact hb
      · exact absurd (h2 hb) z
/-- as walk_of -/
theorem walk_G {l : PySem.W.OpenLaw} {n k : Nat} {q : Program} {loose : List Str} {XP : (Str → Option Value) → Heap → Prop} {YP : World → Heap → Prop} {d : DefRec} {K : Params → PySem.W.Frag} {CX : World → CXT} {sp : World → Sp} {x : Str}
    (hn : l.most = some n) (hn2 : n ≤ sizeLine) (hdf : d.params.defaults = []) (hr : Room k callerA) (hY : ∀ (w : World) (h : Heap), YP w h → (K w.params).In h)
    (F : ∀ (w : World) (mg : Str → Option Value) (fa : Addr) (h : Heap), (K w.params).In h → h.Ns mainGlobals mg → mg d.name = some (.ref fa) →
      ∃ fd : FuncData, (∀ (s : Shared) (u : Value), BindsTo s fd ⟨[u], []⟩ [(x, u)]) ∧ ∀ base : Heap, (K w.params).In base → base.Ns mainGlobals mg → FnG l.prog w (K w.params) mg base (CX w) k fa fd [x] (sp w))
    (hsp : ∀ (w : World) (H : Hp) (a : Addr) (ns : List Int), ns.length ≤ n → Only H → SqL (K w.params) H a (ns.map V.int) → sp w [.ref a] H (fun v _ => v = .bl true) fun _ _ _ => False)
    (noX : ∀ (w : World) (H : Hp) (s : Shared) (e : Value) (s2 : Shared), CX w [] H s (fun _ _ _ => False) e s2 → False) : PySem.W.WalkO q loose XP YP l.row.toRowW d [] (fun f vs => PySem.call f vs) :=
  Att.attach_call hn hdf fun w s₀ s₁ mg mb fa o pm cd doc a vs ns G Y ho hd hcd hmg hobj hints hlen hg => by
    have KIn := hY w _ Y
    obtain ⟨fd, hb, hF⟩ := F w mg fa _ KIn G.T.g hmg
    exact top_call KIn G.T.g G.T.b G.T.builtins G.T.nolimit hg hobj hints (Nat.le_trans hlen hn2) hr hF hb (fun H hO hS => hsp w H a ns hlen hO hS) fun H e s2 => noX w H s₁ e s2
end L2.Sl

set_option Elab.async false
set_option linter.all false
set_option maxRecDepth 100000
set_option maxHeartbeats 4000000
namespace L2.Sl
open PySem PySem.Spec PyProof.Rows
/-! ### how long the text of data is, at the most -/
mutual
def psz : PyData → Nat
  | .none => 4
  | .bool _ => 5
  | .int _ => 1921
  | .str x => (reprText x).length
  | .list xs => pszAll xs + 2
  | .tuple xs => pszAll xs + 2
  | .dict _ => 0
def pszAll : List PyData → Nat
  | [] => 0
  | x :: xs => psz x + 2 + pszAll xs
end
theorem list_text (ts : List Str) : (listText ts).length ≤ piled ts + 2 := by
  have key : ∀ (ts : List Str) (n : Nat) (a : Str), (textFrom n a ts).length ≤ a.length + piled ts := by
    intro ts
    induction ts with
    | nil => intro n a; exact Nat.le_refl _
    | cons t r ih =>
      intro n a
      unfold textFrom
      refine Nat.le_trans (ih _ _) ?_
      rw [piled_cons]
      split <;> simp only [strLen_append] <;> (have e : ((", " : String) : Str).length = 2 := rfl) <;> (have e0 : (("" : String) : Str).length = 0 := rfl) <;> omega
  have h := key ts 0 "["
  have e1 : ((("[" : String) : Str)).length = 1 := rfl
  have e2 : ((("]" : String) : Str)).length = 1 := rfl
  unfold listText
  rw [strLen_append]
  omega
mutual
theorem psz_le : ∀ d : PyData, d.showable = true → d.hasDict = false → d.shown.length ≤ psz d
  | .none, _, _ => by decide +kernel
  | .bool b, _, _ => by cases b <;> decide +kernel
  | .int i, h, _ => by
    have h2 : i.natAbs.log2 < 1920 := by simpa [PyData.showable] using h
    exact int_text_len_1921 h2
  | .str x, _, _ => by simp only [PyData.shown, psz]; exact Nat.le_refl _
  | .list xs, h, g => by
    have z := psz_leAll xs (by simpa [PyData.showable] using h) (by simpa [PyData.hasDict] using g)
    have t := list_text (PyData.shownAll xs)
    simp only [PyData.shown, psz]
    omega
  | .tuple xs, h, g => by
    have z := psz_leAll xs (by simpa [PyData.showable] using h) (by simpa [PyData.hasDict] using g)
    have t := fmt_text (PyData.shownAll xs)
    simp only [PyData.shown, psz]
    omega
  | .dict _, _, g => by simp [PyData.hasDict] at g
theorem psz_leAll : ∀ ds : List PyData, PyData.showableAll ds = true → PyData.hasDictAll ds = false → piled (PyData.shownAll ds) ≤ pszAll ds
  | [], _, _ => Nat.le_refl _
  | d :: r, h, g => by
    have h2 : d.showable = true ∧ PyData.showableAll r = true := by simpa [PyData.showableAll] using h
    have g2 : d.hasDict = false ∧ PyData.hasDictAll r = false := by simpa [PyData.hasDictAll] using g
    have z1 := psz_le d h2.1 g2.1
    have z2 := psz_leAll r h2.2 g2.2
    simp only [PyData.shownAll, pszAll]
    rw [piled_cons]
    omega
end
/-! ### data of tuples alone: it stands as long as the tuples stand -/
mutual
inductive Th (H : Hp) : V → PyData → Prop
  | non : Th H .non .none
  | bl (b : Bool) : Th H (.bl b) (.bool b)
  | int (i : Int) : Th H (.int i) (.int i)
  | str (x : Str) : Th H (.str x) (.str x)
  | tup {a : Addr} {xs : List V} {ds : List PyData} : H a = some (.tup xs) → ThAll H xs ds → Th H (.ref a) (.tuple ds)
inductive ThAll (H : Hp) : List V → List PyData → Prop
  | nil : ThAll H [] []
  | cons {v : V} {vs : List V} {d : PyData} {ds : List PyData} : Th H v d → ThAll H vs ds → ThAll H (v :: vs) (d :: ds)
end
/-- the tuples stand -/
def Tups (H H2 : Hp) : Prop := ∀ a xs, H a = some (.tup xs) → H2 a = some (.tup xs)
theorem Tups.of {H H2 : Hp} (s : Same H H2) : Tups H H2 := fun a xs e => s a _ e
theorem Tups.trans {H H1 H2 : Hp} (a : Tups H H1) (b : Tups H1 H2) : Tups H H2 := fun c xs e => b c xs (a c xs e)
mutual
theorem Th.mono {H H2 : Hp} (t : Tups H H2) : ∀ {v : V} {d : PyData}, Th H v d → Th H2 v d
  | _, _, .non => .non
  | _, _, .bl b => .bl b
  | _, _, .int i => .int i
  | _, _, .str x => .str x
  | _, _, .tup e r => .tup (t _ _ e) (ThAll.mono t r)
theorem ThAll.mono {H H2 : Hp} (t : Tups H H2) : ∀ {vs : List V} {ds : List PyData}, ThAll H vs ds → ThAll H2 vs ds
  | _, _, .nil => .nil
  | _, _, .cons h r => .cons (Th.mono t h) (ThAll.mono t r)
end
mutual
theorem Th.dp {K : PySem.W.Frag} {H : Hp} : ∀ {v : V} {d : PyData}, Th H v d → Dp K H v d
  | _, _, .non => .non
  | _, _, .bl b => .bl b
  | _, _, .int i => .int i
  | _, _, .str x => .str x
  | _, _, .tup e r => .tup (SqT.of e) (ThAll.dp r)
theorem ThAll.dp {K : PySem.W.Frag} {H : Hp} : ∀ {vs : List V} {ds : List PyData}, ThAll H vs ds → DpAll K H vs ds
  | _, _, .nil => .nil
  | _, _, .cons h r => .cons (Th.dp h) (ThAll.dp r)
end
end L2.Sl

set_option Elab.async false
set_option linter.all false
set_option maxRecDepth 100000
set_option maxHeartbeats 4000000
namespace SlX
open PySem PySem.Spec PyProof.Rows HotX
section
variable {prog : Program} {w : World} {A : Around} {E : Value → Shared → Prop} {s : Shared}
/-- a tuple's end, asked while an exception is handled -/
theorem tuple_end_hot {x1 it t : Addr} {i : Nat} {items : Array Value} {Q : Option Value → Shared → Prop} (hot : HotAt A x1 s.heap) (hx1 : x1 ≠ it) (hit : IsTupIter s.heap it t i) (ht : IsTup s.heap t items) (hx : items[i]? = none)
    (fin : ∀ h2, Heap.ExtBut it s.heap h2 → Q none { s with heap := h2 }) : wpAny (model prog w) A (pyNext (.ref it)) Q E s := by
  obtain ⟨o, ho, hc, hd⟩ := id hit
  obtain ⟨ol, hol, _, nl, hdl⟩ := ht
  obtain ⟨hh, o1, vs1, h1, d1, c1⟩ := hot
  unfold pyNext
  refine wpAny_bind (wpAny_attempt (wpAny_callSpecial?_slot (name := Str.ofString "__next__") hit.typeIs slot_tupleiter_next (wpAny_call_entry slot_tupleiter_next hit.typeIs entry_tupleiter_next ?_ (args_tupleiter_next _))))
  show wpAny _ _ (field (.ref it) 0 >>= _) _ _ s
  refine wpAny_bind (wpAny_field ho hd (x := .ref t) rfl ?_)
  show wpAny _ _ (if (Value.ref t == Value.none) = true then _ else _) _ _ s
  rw [if_neg (show ¬ ((Value.ref t == Value.none) = true) from Bool.false_ne_true)]
  show wpAny _ _ (field (.ref it) 1 >>= _) _ _ s
  refine wpAny_bind (wpAny_field ho hd (x := .int i 0) rfl ?_)
  show wpAny _ _ (seqItems? (.ref t) >>= _) _ _ s
  refine wpAny_bind (wpAny_seqItems hol hdl ?_)
  simp only [Int.toNat_natCast, hx]
  refine wpAny_bind (wpAny_rule (wpAny_bind (wpAny_setField ho hd (by simp) ?_)))
  show wpAny _ _ (newExc (.type "StopIteration") [] >>= _) _ _ _
  refine wpAny_bind ?_
  simp only [newExc, newTuple]
  refine wpAny_bind (wpAny_newObj_type ?_ (by size_fits))
  refine wpAny_bind (m := firstArgMember _ _) (wpAny_of_eq (a := Value.none) (by first | rfl | (simp only [firstArgMember]; rfl)) (wpAny_newObj_type ?_ (by size_fits)))
  have g1 : ∀ f o2 o3, (((s.heap.update it f).push o2).push o3).get? x1 = some o1 := fun f o2 o3 => by
    refine Heap.get?_push_of_some _ (Heap.get?_push_of_some _ ?_)
    rw [Heap.get?_update_ne _ _ _ _ hx1]
    exact h1
  refine raiseNew_hot ⟨hh, o1, vs1, g1 _ _ _, d1, c1⟩ ?_ (Heap.get?_push_size _ rfl) rfl (by first | (simp; done) | (simp; omega) | (simp only [Array.size_append]; simp; omega)) ?_
  · refine Nat.ne_of_lt (Nat.lt_of_lt_of_le (Heap.lt_size h1) ?_)
    simp only [Heap.size_push, Heap.size_update]
    omega
  · refine wpAny_bind (wpAny_isInstance (T := "StopIteration") (b := true) ⟨_, Heap.get?_update_self _ (Heap.get?_push_size _ rfl) rfl, rfl⟩ isSubtype_stop ?_)
    refine wpAny_pure (fin _ fun b ob hb e => ?_)
    have e2 := (Heap.get?_update_ne s.heap b it (Obj.mapFields (·.setIfInBounds 0 .none)) hb).trans e
    rw [Heap.get?_update_other _ _ (Nat.ne_of_gt (Heap.lt_size (Heap.get?_push_of_some _ e2)))]
    exact Heap.get?_push_of_some _ (Heap.get?_push_of_some _ e2)
theorem unpack_hot {x1 t : Addr} {items : Array Value} {Q : List Value → Shared → Prop} (hot : HotAt A x1 s.heap) (ht : IsTup s.heap t items) (fin : ∀ h2, Heap.ExtBut s.heap.objs.size s.heap h2 → Q items.toList { s with heap := h2 }) :
    wpAny (model prog w) A (unpackItems (.ref t) items.size none) Q E s := by
  have hlt : t ≠ s.heap.objs.size := by
    obtain ⟨o, ho, _⟩ := ht
    exact Nat.ne_of_lt (Heap.lt_size ho)
  obtain ⟨hh, o1, vs1, h1, d1, c1⟩ := hot
  have hx1 : x1 ≠ s.heap.objs.size := Nat.ne_of_lt (Heap.lt_size h1)
  unfold unpackItems notIterableAtAll
  refine wpAny_bind (wpAny_bind (wpAny_specialOf ht.typeIs slot_tuple_iter.lookup (wpAny_pure ?_)))
  simp only [Bool.false_eq_true, if_false]
  refine wpAny_bind (wpAny_holding (iter_tuple ht ?_))
  refine wpAny_bind (wpAny_holding (draw_tuple hlt items.size 0 _ _ ⟨_, Heap.get?_push_size _ rfl, rfl, rfl⟩ (ht.push _) (by omega) fun h2 hit2 sb2 => ?_))
  have all : List.take items.size (List.drop 0 items.toList) = items.toList := by
    rw [List.drop_zero]
    exact List.take_of_length_le (by simp)
  rw [all, if_neg (by simp)]
  have ht2 : IsTup h2 t items := (ht.push _).extBut sb2.extBut hlt
  have k2 : h2.get? x1 = some o1 := sb2.extBut _ _ hx1 (Heap.get?_push_of_some _ h1)
  refine wpAny_bind (wpAny_holding (tuple_end_hot ⟨hh, o1, vs1, k2, d1, c1⟩ hx1 hit2 ht2 (by simp) fun h3 e3 => ?_))
  simp only [Option.isSome_none, Bool.false_eq_true, if_false]
  exact wpAny_pure (fin h3 fun b o hb e => e3 b o hb (sb2.extBut b o hb (Heap.get?_push_of_some _ e)))
end
end SlX
namespace L2.Sl
open PySem PySem.W PySem.Calls PyProof.Rows PySem.Spec SlX
/-- a, b = x, y with plain local names, in a suite that holds an exception without context -/
theorem ps_parH {X : Cx} {i j : Nat} {x y : Str} {a b : Expr} {ta : TA} {px py pt pos : Pos} {kt k2 pt2} (hc : L2H.HotC X) (hN : X.N.Nodup) (hi : X.N[i]? = some x) (hj : X.N[j]? = some y) (hij : i ≠ j) (hx : X.env.scope.names.lookup x = some .local) (hy : X.env.scope.names.lookup y = some .local)
    (ha : PA X [a, b] ta) (hw : swappedStores [.Tuple [.Name x px, .Name y py] kt pt] (.Tuple [a, b] k2 pt2) X.env = pure (some [x, y])) (hs : swapsWithSole [.Tuple [.Name x px, .Name y py] kt pt] (.Tuple [a, b] k2 pt2) pos.line X.env = pure false := by rfl) :
    PS X (.Assign [.Tuple [.Name x px, .Name y py] kt pt] (.Tuple [a, b] k2 pt2) pos) (tPar i j ta) := by
  refine ⟨fun pins s σ H D I h => ?_⟩
  rw [exec_Assign_arm]
  refine wpAny_bind (wpAny_standAt ?_)
  rw [hs]
  refine wpAny_bind (wpAny_pure ?_)
  rw [if_neg (by decide)]
  refine wpAny_bind (Tuple_ (thn (ha.run _ pins s σ H _ I h) fun us t1 ⟨vs, H1, I1, r1, hq⟩ => ?_))
  obtain ⟨v1, v2, rfl, q1⟩ := hq
  obtain ⟨u1, u2, rfl, rv, rz⟩ := vals2 r1
  refine wpAny_newObj_type ?_ (by show 2 ≤ sizeLine; decide)
  have J2 : Inv X pins σ H1 { t1 with heap := t1.heap.push { cls := .type "tuple", data := .seq [u1, u2].toArray } } := I1.kept (t' := t1.toks) fun b o e => Heap.get?_push_of_some _ e
  rw [hw]
  refine wpAny_bind (wpAny_pure ?_)
  show wpAny (model X.prog X.w) X.A (do rule "assign.swapped-stores"; let items ← unpackItems (.ref t1.heap.objs.size) 2 none; assignInOrder [fun v => bindName X.env y v, fun v => bindName X.env x v] items.reverse; pure Flow.next) _ _ _
  obtain ⟨x1, hot⟩ := hc.at J2
  refine wpAny_bind (wpAny_rule (wpAny_bind (unpack_hot (items := #[u1, u2]) hot (IsTup.new t1.heap _) fun h2 ex2 => ?_)))
  have J3 := J2.kept (h' := h2) (t' := t1.toks) fun b o e => ex2 b o (Nat.ne_of_lt (Heap.lt_size e)) e
  show wpAny _ _ (assignInOrder [fun v => bindName X.env y v, fun v => bindName X.env x v] [u2, u1] >>= fun _ => pure Flow.next) _ _ _
  refine wpAny_bind (assignInOrder_cons (wpAny_bindName (store_ok J3 hN hj (.inl hy) rz (fun s2 J4 => ?_) (.inr hy))))
  refine assignInOrder_cons (wpAny_bindName (store_ok J4 hN hi (.inl hx) rv (fun s3 J5 => assignInOrder_nil (wpAny_pure ?_)) (.inr hx)))
  rw [List.set_comm _ _ (Ne.symm hij)] at J5
  exact ⟨_, H1, J5, q1⟩
/-- the suite's exception is held without context -/
theorem hot_suite {X : Cx} {a : Addr} {oe : Obj} {cls : Value} {d : Option Addr} {pn : List (Addr × Obj)} (hz : L2N.Zn cls d oe) (hf : ∃ vs, oe.data = .fields vs) : L2H.HotC (X.suite a ((a, oe) :: pn)) := by
  obtain ⟨vs, hd⟩ := hf
  exact ⟨(a, oe), ⟨rfl, vs, hd, hz.2.2 vs hd⟩, List.mem_cons_self⟩
section
variable {P : Program} {w : World} {K : PySem.W.Frag} {mg : Str → Option Value} {base : Heap}
/-- a def that may raise where nothing is handled -/
theorem okN {x qual : Str} {st : Stmt} {f : Addr} {fd : FuncData} {N ps : List Str} {k : Nat} {sp : Sp} (F : Fun K x qual st f fd) (S : FnScope N ps (defScope st)) (len : ∀ vs H Q E, sp vs H Q E → vs.length = ps.length)
    (bodyOk : ∀ (cdv : Value) (A : Around) (outer : List Env) (s : Shared) (H : Hp) (vs : List V) (Q : VK) (E : XK), Room k (A.deeper (envOfC qual (defScope st) s.heap.objs.size f cdv)) → sp vs H Q E →
      ∃ t, PSs (cxOf (L2N.CX P w) P w K mg base N qual (defScope st) f cdv A outer s H E) (defBody st) t ∧ t { nx := fun _ H2 => Q .non H2, rt := Q } (start N vs) H) : FnOk P w K mg base (L2N.CX P w) (k + 1) f fd ps sp := by
  obtain ⟨oc, od, kV, doc, pm, an, cdv, ct, osl, rfl, lk, hcd⟩ := F.ex
  exact fn_of lk hcd S len fun A outer s H vs Q E hr hsp => bodyOk cdv A outer s H vs Q E hr hsp
theorem takesN0 {X : Cx} : L2N.Takes X (fun _ _ _ _ => False) := fun _ _ x => by
  obtain ⟨_, _, _, _, _, _, _, _, _, _, _, _, _, _, _, _, z⟩ := x
  exact z.elim
end
end L2.Sl

set_option Elab.async false
set_option linter.all false
set_option maxRecDepth 100000
set_option maxHeartbeats 4000000
namespace L2.Sl
open PySem PySem.W PySem.Calls PyProof.Rows PySem.Spec SlX
/-- what a clause over three classes wishes -/
def wKeep3 (K : Frag) (Wout : WX) (D : Ends) (c1 c2 c3 : Value) (i : Nat) (ts : Addr → Value → Option Addr → TS) : WX :=
  fun cls d σ H => ∃ b, exmAny K cls [c1, c2, c3] = some b ∧ (b = true → ∀ a, H a = none → ts a cls d (kept D a cls d i) (σ.set i (some (.ref a))) H) ∧ (b = false → Wout cls d σ H)
theorem flyZ_keeps {B h h2 : Heap} {l : List Env} {e : Addr} {Z : Obj → Prop} (R : HandSPX.FlyingZ B l e Z h) (k : ∀ b o, h.get? b = some o → h2.get? b = some o) : HandSPX.FlyingZ B l e Z h2 := by
  obtain ⟨a1, a2, a3, oe, vs, T, oT, ts, a4, a5, a6, a7, a8, a9, b1, b2, b3⟩ := R
  exact ⟨fun b o q => k b o (a1 b o q), a2, a3.of_keeps (fun b o q _ => ⟨o, k b o q, rfl⟩), oe, vs, T, oT, ts, k _ _ a4, a5, a6, a7, a8, a9, k _ _ b1, b2, b3⟩
section
variable {X : Cx} {body : List Stmt} {pos pos2 p1 p2 p3 tpos : Pos} {kk : Nat} {x1 x2 x3 n : Str} {c1 c2 c3 : Value} {i : Nat} {ts : Addr → Value → Option Addr → TS} {b₀ : Stmt} {suite : List Stmt} {tb : WX → TS} {Wout : WX}
theorem ps_try_keep3 (hs : X.stack = X.env :: X.outer) (hf : X.env.frame = some X.env.locals) (hN : X.N.Nodup) (hex : X.ex = []) (tk : L2N.Takes X Wout)
    (hb : ∀ (W : WX) (pn : List (Addr × Obj)) (xe : Value → Shared → Prop), L2N.Takes (X.tr pn xe) W → PassesOwn (model X.prog X.w) X.A X.env xe → PSs (X.tr pn xe) body (tb W))
    (hc1 : Names X x1 c1) (hc2 : Names X x2 c2) (hc3 : Names X x3 c3) (hi : X.N[i]? = some n) (hln : X.env.kindOf n = some .local)
    (hsu : ∀ (a : Addr) (oe : Obj) (cls : Value) (d : Option Addr) (pn : List (Addr × Obj)), L2N.Zn cls d oe → (∃ vs, oe.data = .fields vs) → PSs (X.suite a ((a, oe) :: pn)) (b₀ :: suite) (ts a cls d)) :
    PS X (.Try body [.ExceptHandler (some (.Tuple [.Name x1 p1, .Name x2 p2, .Name x3 p3] kk tpos)) (some n) (b₀ :: suite) pos2] [] [] pos) (fun D σ H => tb (wKeep3 X.K Wout D c1 c2 c3 i ts) D σ H) := by
  refine ⟨fun pins s σ H D I h => ?_⟩
  have okX := I.ok
  have frm : X.A.frames = some (X.env :: X.outer) := by rw [okX.frames, hs]
  refine wpAny_Try_except (wpAny_mono ((hb (wKeep3 X.K Wout D c1 c2 c3 i ts) (X.pn ++ pins) (fun e t1 => wpAny (model X.prog X.w) X.A (noteFrame e X.env) (fun _ t2 => wpAny (model X.prog X.w) X.A (setFlight e none) (fun _ t3 =>
    wpAny (model X.prog X.w) X.A (handleBy e X.env [.ExceptHandler (some (.Tuple [.Name x1 p1, .Name x2 p2, .Name x3 p3] kk tpos)) (some n) (b₀ :: suite) pos2]) (SP X pins D) X.xe t3) X.xe t2) X.xe t1) (fun u s2 xx => ?_) PassesOwn.looking).run [] s σ H D (I.toTry _) h) (fun f s1 hsp => ?_) (fun e s1 he => he))
  · obtain ⟨a, B, sI, pins2, σ2, H2, cls, d, rfl, J0, nb, up, sky, na, os, ag, wish⟩ := xx
    have J : Inv X pins σ2 H2 sI := J0.ofTry okX
    have sky2 : Sky B (X.env :: X.outer) a (L2N.Zn cls d) X.env.locals s2.heap := by rw [← hs]; exact sky
    show wpAny (model X.prog X.w) X.A (noteFrame (.ref a) X.env) _ _ _
    refine L2N.Sky.land L2N.Zn.steady frm hf sky2 fun h3 fl3 up3 => ?_
    have J3 : Inv X pins σ2 H2 { s2 with heap := h3 } := J.landed nb fl3.1 (up.trans up3) os ag
    obtain ⟨oe3, vs3, he3, hz3, hd3⟩ := fl3.there
    have offFr : a ∉ frs (X.env :: X.outer) := fun hm => by
      obtain ⟨_, o', e', hnf⟩ := fl3.2.2.1.mem hm
      rw [he3] at e'
      cases e'
      exact hnf _ hd3
    have nL : a ≠ X.env.locals := fun z => offFr (List.mem_filterMap.mpr ⟨X.env, List.mem_cons_self, by rw [hf, z]⟩)
    have nF : a ∉ X.fs := fun hm => by
      obtain ⟨e, he, q⟩ := List.mem_filterMap.mp hm
      exact offFr (List.mem_filterMap.mpr ⟨e, List.mem_cons_of_mem _ he, q⟩)
    -- the exception is none of the objects that were there
    have newI : sI.heap.get? a = none := by
      cases e : sI.heap.get? a with
      | none => rfl
      | some o =>
        have z := nb a o e (by rw [hs]; exact offFr)
        rw [fl3.2.1] at z
        cases z
    have new0 : X.s_0.heap.get? a = none := by
      cases e : X.s_0.heap.get? a with
      | none => rfl
      | some o =>
        obtain ⟨o', z⟩ := J.base.there a o e (by rw [hex]; exact fun z => nomatch z)
        rw [newI] at z
        cases z
    have offPins : ∀ p ∈ X.pn ++ pins, p.1 ≠ a := fun p hp z => by
      have q := (J.pin p hp).1
      rw [z, newI] at q
      cases q
    have S3 := J3.suite he3 hd3 na nL nF
    obtain ⟨b, hb1, yes, no⟩ := wish
    have locn : Loc X.env.scope n := .inl hln
    refine wpAny_handleBy_cons (codeAny_handlers_test ?_) (by intro q; cases q)
    have ty : Looks (model X.prog X.w) h3 (typeOf (.ref a)) cls := fun A Q E s k q => wpAny_typeOf_ref (k _ _ he3) (by rw [hz3.1]; exact q)
    have test : ∀ {x : Str} {c : Value} {np : Pos}, Names X x c → ∀ {Q : Value → Shared → Prop} {E : Value → Shared → Prop}, Q c { s2 with heap := h3 } → wpAny (model X.prog X.w) (X.A.mark (some (.ref a))) (eval (.Name x np) X.env) Q E { s2 with heap := h3 } := fun {x c np} hc {Q E} q => by
      obtain ⟨hg, hdbg, hm | ⟨hm, hv, hnn⟩⟩ := hc
      · exact ld_glob (X := X.suite a ((a, oe3) :: (X.pn ++ pins))) S3 hg hm q hdbg
      · exact ld_blt (X := X.suite a ((a, oe3) :: (X.pn ++ pins))) S3 hg hm hv q hnn hdbg
    refine wpAny_Tuple (wpAny_items_cons (test hc1 (wpAny_items_cons (test hc2 (wpAny_items_cons (test hc3 (wpAny_items_nil ⟨by size_fits, ?_⟩)))))))
    have kp : ∀ q o, h3.get? q = some o → (h3.push { cls := .type "tuple", data := .seq [c1, c2, c3].toArray }).get? q = some o := fun _ _ z => Heap.get?_push_of_some _ z
    refine (exm_tup3 (M := model X.prog X.w) (J3.kIn.keeps kp) (ty.keeps kp) (Heap.get?_push_size h3 rfl) hb1).here ?_
    have fl5 := flyZ_keeps fl3 kp
    have up5 : h3.UpToSlots (h3.push { cls := .type "tuple", data := .seq [c1, c2, c3].toArray }) := Heap.UpToSlots.of_keeps kp
    generalize h3.push { cls := .type "tuple", data := .seq [c1, c2, c3].toArray } = h5 at kp fl5 up5 ⊢
    cases b with
    | false =>
      show wpAny _ X.A (handleBy (.ref a) X.env []) _ _ _
      refine wpAny_handleBy_nil ?_
      obtain ⟨k1, k2, k3, oe, vs, T, oT, ts2, he, hz, hd, h1, hr⟩ := id fl5
      unfold PySem.passOn
      refine wpAny_bind (wpAny_field he hd h1 ?_)
      rw [if_neg (show ¬ ((Value.ref T == Value.none) = true) from by simp)]
      have out : wpAny (model X.prog X.w) X.A (setFlight (.ref a) X.env.frame) (fun _ t4 => wpAny (model X.prog X.w) X.A (throw (.ref a) : Sem Flow) (SP X pins D) X.xe t4) X.xe { s2 with heap := h5 } := by
        rw [hf]
        exact HandSPX.setFlight_upZ fl5 fun h4 hh4 up4 => wpAny_throw (tk _ _ ⟨a, B, sI, pins, σ2, H2, cls, d, rfl, J, nb, ((up.trans up3).trans up5).trans up4, .inr (.inr (by rw [hs]; exact hh4)), na, os, ag, no rfl⟩)
      first
        | exact wpAny_bind (wpAny_pure (wpAny_bind out))
        | exact wpAny_bind out
    | true =>
      refine codeAny_handlers_suite_as (HandSPX.lands_againZ fl5 fun h4 fl4 up4 => ?_)
      have J4 : Inv X pins σ2 H2 { s2 with heap := h4 } := J.landed nb fl4.1 (((up.trans up3).trans up5).trans up4) os ag
      obtain ⟨oe4, vs4, he4, hz4, hd4⟩ := fl4.there
      have S4 := J4.suite he4 hd4 na nL nF
      refine store_ok (X := X.suite a ((a, oe4) :: (X.pn ++ pins))) (v := .ref a) S4 hN hi locn rfl (fun s5 S5 => ?_) (.inr hln)
      refine wpAny_mono ((hsu a oe4 cls d (X.pn ++ pins) hz4 ⟨_, hd4⟩).run [] s5 _ H2 _ S5 (yes rfl a na)) (fun f s6 hsp => ?_) (fun _ _ z => False.elim z)
      have fin : ∀ {σ6 : L2.St} {H6 : Hp} {Q : Shared → Prop}, Inv (X.suite a ((a, oe4) :: (X.pn ++ pins))) [] σ6 H6 s6 → (H6 a = none → ∀ s7, Inv X pins (σ6.set i none) (upd H6 a (exH cls d a)) s7 → Q s7) →
          wpAny (model X.prog X.w) X.A (do bindName X.env n .none; unbindBehindTheSuite X.env n pos2) (fun _ s7 => Q s7) X.xe s6 := fun {σ6 H6 Q} S6 hq => by
        obtain ⟨e1, e2, e3, e4, e5⟩ := S6.pin (a, oe4) (List.mem_append_left _ List.mem_cons_self)
        exact gone_ok (hold (S6.unsuite okX) new0 e2 e1 hz4.zc hd4 offPins nL) hN hi hln fun s7 J7 => hq e2 s7 J7
      cases f with
      | next =>
        obtain ⟨σ6, H6, S6, q6⟩ := hsp
        exact fin S6 fun n6 s7 J7 => ⟨_, _, J7, q6 n6⟩
      | brk =>
        obtain ⟨σ6, H6, S6, q6⟩ := hsp
        exact fin S6 fun n6 s7 J7 => ⟨_, _, J7, q6 n6⟩
      | cont =>
        obtain ⟨σ6, H6, S6, q6⟩ := hsp
        exact fin S6 fun n6 s7 J7 => ⟨_, _, J7, q6 n6⟩
      | ret u =>
        obtain ⟨v6, σ6, H6, S6, r6, q6⟩ := hsp
        exact fin S6 fun n6 s7 J7 => ⟨_, _, _, J7, r6, q6 n6⟩
  · cases f with
    | next =>
      obtain ⟨σ2, H2, J2, q⟩ := hsp
      exact wpAny_execs_nil ⟨σ2, H2, J2.ofTry okX, q⟩
    | brk =>
      obtain ⟨σ2, H2, J2, q⟩ := hsp
      exact ⟨σ2, H2, J2.ofTry okX, q⟩
    | cont =>
      obtain ⟨σ2, H2, J2, q⟩ := hsp
      exact ⟨σ2, H2, J2.ofTry okX, q⟩
    | ret u =>
      obtain ⟨v, σ2, H2, J2, r, q⟩ := hsp
      exact ⟨v, σ2, H2, J2.ofTry okX, r, q⟩
end
end L2.Sl

set_option Elab.async false
set_option linter.all false
set_option maxRecDepth 100000
set_option maxHeartbeats 4000000
namespace L2.Sl
open PySem PySem.W PySem.Calls PyProof.Rows PySem.Spec SlX
/-- told of slots of the right number -/
def wLen (n : Nat) (W : WX) : WX := fun cls d σ H => σ.length = n → W cls d σ H
section
variable {X : Cx} {body : List Stmt} {pos pos2 p1 p2 p3 tpos : Pos} {kk : Nat} {x1 x2 x3 n : Str} {c1 c2 c3 : Value} {i : Nat} {ts : Addr → Value → Option Addr → TS} {b₀ : Stmt} {suite : List Stmt} {tb : WX → TS} {Wout : WX}
theorem ps_try_keep3c (hs : X.stack = X.env :: X.outer) (hf : X.env.frame = some X.env.locals) (hN : X.N.Nodup) (hex : X.ex = []) (tk : L2.Takes X Wout)
    (hb : ∀ (W : WX) (pn : List (Addr × Obj)) (xe : Value → Shared → Prop), L2.Takes (X.tr pn xe) W → PassesOwn (model X.prog X.w) X.A X.env xe → PSs (X.tr pn xe) body (tb W))
    (hc1 : Names X x1 c1) (hc2 : Names X x2 c2) (hc3 : Names X x3 c3) (hi : X.N[i]? = some n) (hln : X.env.kindOf n = some .local)
    (hsu : ∀ (a : Addr) (oe : Obj) (cls : Value) (d : Option Addr) (pn : List (Addr × Obj)), Zc cls d oe → (∃ vs, oe.data = .fields vs) → PSs (X.suite a ((a, oe) :: pn)) (b₀ :: suite) (ts a cls d)) :
    PS X (.Try body [.ExceptHandler (some (.Tuple [.Name x1 p1, .Name x2 p2, .Name x3 p3] kk tpos)) (some n) (b₀ :: suite) pos2] [] [] pos) (fun D σ H => tb (wLen X.N.length (wKeep3 X.K Wout D c1 c2 c3 i ts)) D σ H) := by
  refine ⟨fun pins s σ H D I h => ?_⟩
  have okX := I.ok
  have frm : X.A.frames = some (X.env :: X.outer) := by rw [okX.frames, hs]
  refine wpAny_Try_except (wpAny_mono ((hb (wLen X.N.length (wKeep3 X.K Wout D c1 c2 c3 i ts)) (X.pn ++ pins) (fun e t1 => wpAny (model X.prog X.w) X.A (noteFrame e X.env) (fun _ t2 => wpAny (model X.prog X.w) X.A (setFlight e none) (fun _ t3 =>
    wpAny (model X.prog X.w) X.A (handleBy e X.env [.ExceptHandler (some (.Tuple [.Name x1 p1, .Name x2 p2, .Name x3 p3] kk tpos)) (some n) (b₀ :: suite) pos2]) (SP X pins D) X.xe t3) X.xe t2) X.xe t1) (fun u s2 xx => ?_) PassesOwn.looking).run [] s σ H D (I.toTry _) h) (fun f s1 hsp => ?_) (fun e s1 he => he))
  · obtain ⟨a, B, sI, pins2, σ2, H2, cls, d, rfl, J0, nb, up, sky, na, os, ag, wish⟩ := xx
    have J : Inv X pins σ2 H2 sI := J0.ofTry okX
    have sky2 : Sky B (X.env :: X.outer) a (Zc cls d) X.env.locals s2.heap := by rw [← hs]; exact sky
    show wpAny (model X.prog X.w) X.A (noteFrame (.ref a) X.env) _ _ _
    refine Sky.land Zc.steady frm hf sky2 fun h3 fl3 up3 => ?_
    have J3 : Inv X pins σ2 H2 { s2 with heap := h3 } := J.landed nb fl3.1 (up.trans up3) os ag
    obtain ⟨oe3, vs3, he3, hz3, hd3⟩ := fl3.there
    have offFr : a ∉ frs (X.env :: X.outer) := fun hm => by
      obtain ⟨_, o', e', hnf⟩ := fl3.2.2.1.mem hm
      rw [he3] at e'
      cases e'
      exact hnf _ hd3
    have nL : a ≠ X.env.locals := fun z => offFr (List.mem_filterMap.mpr ⟨X.env, List.mem_cons_self, by rw [hf, z]⟩)
    have nF : a ∉ X.fs := fun hm => by
      obtain ⟨e, he, q⟩ := List.mem_filterMap.mp hm
      exact offFr (List.mem_filterMap.mpr ⟨e, List.mem_cons_of_mem _ he, q⟩)
    -- the exception is none of the objects that were there
    have newI : sI.heap.get? a = none := by
      cases e : sI.heap.get? a with
      | none => rfl
      | some o =>
        have z := nb a o e (by rw [hs]; exact offFr)
        rw [fl3.2.1] at z
        cases z
    have new0 : X.s_0.heap.get? a = none := by
      cases e : X.s_0.heap.get? a with
      | none => rfl
      | some o =>
        obtain ⟨o', z⟩ := J.base.there a o e (by rw [hex]; exact fun z => nomatch z)
        rw [newI] at z
        cases z
    have offPins : ∀ p ∈ X.pn ++ pins, p.1 ≠ a := fun p hp z => by
      have q := (J.pin p hp).1
      rw [z, newI] at q
      cases q
    have S3 := J3.suite he3 hd3 na nL nF
    obtain ⟨b, hb1, yes, no⟩ := wish J.len
    have locn : Loc X.env.scope n := .inl hln
    refine wpAny_handleBy_cons (codeAny_handlers_test ?_) (by intro q; cases q)
    have ty : Looks (model X.prog X.w) h3 (typeOf (.ref a)) cls := fun A Q E s k q => wpAny_typeOf_ref (k _ _ he3) (by rw [hz3.1]; exact q)
    have test : ∀ {x : Str} {c : Value} {np : Pos}, Names X x c → ∀ {Q : Value → Shared → Prop} {E : Value → Shared → Prop}, Q c { s2 with heap := h3 } → wpAny (model X.prog X.w) (X.A.mark (some (.ref a))) (eval (.Name x np) X.env) Q E { s2 with heap := h3 } := fun {x c np} hc {Q E} q => by
      obtain ⟨hg, hdbg, hm | ⟨hm, hv, hnn⟩⟩ := hc
      · exact ld_glob (X := X.suite a ((a, oe3) :: (X.pn ++ pins))) S3 hg hm q hdbg
      · exact ld_blt (X := X.suite a ((a, oe3) :: (X.pn ++ pins))) S3 hg hm hv q hnn hdbg
    refine wpAny_Tuple (wpAny_items_cons (test hc1 (wpAny_items_cons (test hc2 (wpAny_items_cons (test hc3 (wpAny_items_nil ⟨by size_fits, ?_⟩)))))))
    have kp : ∀ q o, h3.get? q = some o → (h3.push { cls := .type "tuple", data := .seq [c1, c2, c3].toArray }).get? q = some o := fun _ _ z => Heap.get?_push_of_some _ z
    refine (exm_tup3 (M := model X.prog X.w) (J3.kIn.keeps kp) (ty.keeps kp) (Heap.get?_push_size h3 rfl) hb1).here ?_
    have fl5 := flyZ_keeps fl3 kp
    have up5 : h3.UpToSlots (h3.push { cls := .type "tuple", data := .seq [c1, c2, c3].toArray }) := Heap.UpToSlots.of_keeps kp
    generalize h3.push { cls := .type "tuple", data := .seq [c1, c2, c3].toArray } = h5 at kp fl5 up5 ⊢
    cases b with
    | false =>
      show wpAny _ X.A (handleBy (.ref a) X.env []) _ _ _
      refine wpAny_handleBy_nil ?_
      obtain ⟨k1, k2, k3, oe, vs, T, oT, ts2, he, hz, hd, h1, hr⟩ := id fl5
      unfold PySem.passOn
      refine wpAny_bind (wpAny_field he hd h1 ?_)
      rw [if_neg (show ¬ ((Value.ref T == Value.none) = true) from by simp)]
      have out : wpAny (model X.prog X.w) X.A (setFlight (.ref a) X.env.frame) (fun _ t4 => wpAny (model X.prog X.w) X.A (throw (.ref a) : Sem Flow) (SP X pins D) X.xe t4) X.xe { s2 with heap := h5 } := by
        rw [hf]
        exact HandSPX.setFlight_upZ fl5 fun h4 hh4 up4 => wpAny_throw (tk _ _ ⟨a, B, sI, pins, σ2, H2, cls, d, rfl, J, nb, ((up.trans up3).trans up5).trans up4, .inr (.inr (by rw [hs]; exact hh4)), na, os, ag, no rfl⟩)
      first
        | exact wpAny_bind (wpAny_pure (wpAny_bind out))
        | exact wpAny_bind out
    | true =>
      refine codeAny_handlers_suite_as (HandSPX.lands_againZ fl5 fun h4 fl4 up4 => ?_)
      have J4 : Inv X pins σ2 H2 { s2 with heap := h4 } := J.landed nb fl4.1 (((up.trans up3).trans up5).trans up4) os ag
      obtain ⟨oe4, vs4, he4, hz4, hd4⟩ := fl4.there
      have S4 := J4.suite he4 hd4 na nL nF
      refine store_ok (X := X.suite a ((a, oe4) :: (X.pn ++ pins))) (v := .ref a) S4 hN hi locn rfl (fun s5 S5 => ?_) (.inr hln)
      refine wpAny_mono ((hsu a oe4 cls d (X.pn ++ pins) hz4 ⟨_, hd4⟩).run [] s5 _ H2 _ S5 (yes rfl a na)) (fun f s6 hsp => ?_) (fun _ _ z => False.elim z)
      have fin : ∀ {σ6 : L2.St} {H6 : Hp} {Q : Shared → Prop}, Inv (X.suite a ((a, oe4) :: (X.pn ++ pins))) [] σ6 H6 s6 → (H6 a = none → ∀ s7, Inv X pins (σ6.set i none) (upd H6 a (exH cls d a)) s7 → Q s7) →
          wpAny (model X.prog X.w) X.A (do bindName X.env n .none; unbindBehindTheSuite X.env n pos2) (fun _ s7 => Q s7) X.xe s6 := fun {σ6 H6 Q} S6 hq => by
        obtain ⟨e1, e2, e3, e4, e5⟩ := S6.pin (a, oe4) (List.mem_append_left _ List.mem_cons_self)
        exact gone_ok (hold (S6.unsuite okX) new0 e2 e1 hz4 hd4 offPins nL) hN hi hln fun s7 J7 => hq e2 s7 J7
      cases f with
      | next =>
        obtain ⟨σ6, H6, S6, q6⟩ := hsp
        exact fin S6 fun n6 s7 J7 => ⟨_, _, J7, q6 n6⟩
      | brk =>
        obtain ⟨σ6, H6, S6, q6⟩ := hsp
        exact fin S6 fun n6 s7 J7 => ⟨_, _, J7, q6 n6⟩
      | cont =>
        obtain ⟨σ6, H6, S6, q6⟩ := hsp
        exact fin S6 fun n6 s7 J7 => ⟨_, _, J7, q6 n6⟩
      | ret u =>
        obtain ⟨v6, σ6, H6, S6, r6, q6⟩ := hsp
        exact fin S6 fun n6 s7 J7 => ⟨_, _, _, J7, r6, q6 n6⟩
  · cases f with
    | next =>
      obtain ⟨σ2, H2, J2, q⟩ := hsp
      exact wpAny_execs_nil ⟨σ2, H2, J2.ofTry okX, q⟩
    | brk =>
      obtain ⟨σ2, H2, J2, q⟩ := hsp
      exact ⟨σ2, H2, J2.ofTry okX, q⟩
    | cont =>
      obtain ⟨σ2, H2, J2, q⟩ := hsp
      exact ⟨σ2, H2, J2.ofTry okX, q⟩
    | ret u =>
      obtain ⟨v, σ2, H2, J2, r, q⟩ := hsp
      exact ⟨v, σ2, H2, J2.ofTry okX, r, q⟩
end
end L2.Sl

set_option Elab.async false
set_option linter.all false
set_option maxRecDepth 100000
set_option maxHeartbeats 4000000
namespace L2.Sl
open PySem PySem.W PySem.Calls PyProof.Rows PySem.Spec SlX
/-- an exception that is made, its context not told -/
theorem pmk_down {X : Cx} {e : Expr} {t : L2.St → Hp → XK → Prop} (h : L2N.PMk X e t) : L2.PMk X e t := fun pins s σ H Q I ht =>
  wpAny_mono (h pins s σ H Q I ht) (fun u s2 hu => by
    obtain ⟨a, oe, vs, sI, H2, cls, d, e1, J, k, hne, ha, hz, rest⟩ := hu
    exact ⟨a, oe, vs, sI, H2, cls, d, e1, J, k, hne, ha, hz.zc, rest⟩) fun _ _ z => z
end L2.Sl

set_option Elab.async false
set_option linter.all false
set_option maxRecDepth 100000
set_option maxHeartbeats 4000000
namespace L2.Sl
open PySem PySem.W PySem.Calls PyProof.Rows PySem.Spec SlX
/-- what a def may let out, told by the caller -/
def WD (E : XK) : WX := fun cls d _ H => E cls d H
section
variable {P : Program} {w : World} {K : PySem.W.Frag} {mg : Str → Option Value} {base : Heap}
/-- a def that may raise, the exception's context not told -/
theorem okX {x qual : Str} {st : Stmt} {f : Addr} {fd : FuncData} {N ps : List Str} {k : Nat} {sp : Sp} (F : Fun K x qual st f fd) (S : FnScope N ps (defScope st)) (len : ∀ vs H Q E, sp vs H Q E → vs.length = ps.length)
    (bodyOk : ∀ (cdv : Value) (A : Around) (outer : List Env) (s : Shared) (H : Hp) (vs : List V) (Q : VK) (E : XK), Room k (A.deeper (envOfC qual (defScope st) s.heap.objs.size f cdv)) → sp vs H Q E →
      L2.Takes (cxOf (L2.CX P w) P w K mg base N qual (defScope st) f cdv A outer s H E) (WD E) →
      ∃ t, PSs (cxOf (L2.CX P w) P w K mg base N qual (defScope st) f cdv A outer s H E) (defBody st) t ∧ t { nx := fun _ H2 => Q .non H2, rt := Q } (start N vs) H) : FnOk P w K mg base (L2.CX P w) (k + 1) f fd ps sp := by
  obtain ⟨oc, od, kV, doc, pm, an, cdv, ct, osl, rfl, lk, hcd⟩ := F.ex
  exact fn_of lk hcd S len fun A outer s H vs Q E hr hsp => bodyOk cdv A outer s H vs Q E hr hsp (L2.takes_of rfl rfl rfl rfl)
/-- where it raises nothing -/
theorem FnOk.quiet {k : Nat} {f : Addr} {fd : FuncData} {ps : List Str} {sp : Sp} (F : FnOk P w K mg base (L2.CX P w) k f fd ps sp) : FnOk P w K mg base CX0 k f fd ps (fun vs H Q _ => sp vs H Q fun _ _ _ => False) := by
  refine ⟨fun vs H Q E h => F.len vs H Q _ h, fun A outer s H args us vs Q E hr e0 hb r h => ?_⟩
  refine codeAny_mono (F.run A outer s H args us vs Q (fun _ _ _ => False) hr e0 hb r h) fun r s2 hq => ?_
  cases r with
  | error e =>
    obtain ⟨_, _, _, _, _, _, _, _, _, _, _, _, z⟩ := hq
    exact z.elim
  | ok fl => cases fl <;> exact hq
/-- a promise that follows -/
theorem FnOk.to {CX : CXT} {k : Nat} {f : Addr} {fd : FuncData} {ps : List Str} {sp sp2 : Sp} (F : FnOk P w K mg base CX k f fd ps sp) (h : ∀ vs H Q E, sp2 vs H Q E → sp vs H Q E) : FnOk P w K mg base CX k f fd ps sp2 :=
  ⟨fun vs H Q E z => F.len vs H Q E (h vs H Q E z), fun A outer s H args us vs Q E hr e0 hb r z => F.run A outer s H args us vs Q E hr e0 hb r (h vs H Q E z)⟩
end
section
variable {X : Cx} {CX : CXT} {k : Nat} {f : Addr} {fd : FuncData} {ps ks : List Str} {sp : Sp} {E : XK} {x : Str} {p pos : Pos} {kws : List Keyword} {tk : TA} {g : List Value → List Value → List Value} {gV : List V → List V → List V}
/-- what may leave a call leaves the def -/
theorem passD {E : XK} (tk : L2.Takes X (WD E)) : Passes (L2.CX X.prog X.w) X E := L2.passes_call tk (fun _ _ _ _ h => h)
/-- f(k = v, ..) -/
theorem pe_callKw (F : FnOk X.prog X.w X.K X.mg X.base CX k f fd ps sp) (hr : Room k X.A) (hg : Gl X x) (hm : X.mg x = some (.ref f)) (hk : PySem.W.keepIn X.K (.ref f) = true) (hb : KBn X.K fd ps 0 ks g gV) (hx : Passes CX X E) (hkw : PK X kws tk)
    (hall : (backToKw pos (keywordEach kws X.env)).all (·.1.isSome) = true := by rfl) (hks : (backToKw pos (keywordEach kws X.env)).filterMap (·.1) = ks := by rfl) (hdb : (x == ("__debug__" : Str)) = false := by decide)
    (hpl : ((backTo pos (starEach [] X.env)).any (·.1) || (backToKw pos (keywordEach kws X.env)).any (·.1.isNone)) = false := by rfl) :
    PE X (.Call (.Name x p) [] kws pos) (fun σ H Q => tk σ H fun zs H2 => zs.length = ks.length ∧ sp (gV [] zs) H2 Q E) := by
  refine ⟨fun pins s σ H Q I h => ?_⟩
  refine wpAny_Call_Name_kw (ld_glob I hg hm ?_ hdb)
  refine PySem.W.callWith_KW0 (h₀ := X.base) I.ok.mod.kin hk hall ?_ hpl
  refine thn (hkw.run pos pins s σ H _ I h) fun ws s2 ⟨zs, H2, I2, rz, l2, q2⟩ => ⟨I2.kIn, ?_⟩
  rw [hks]
  have r2 := hb.rel (vs := []) (us := []) .nil rz
  have hl : (g [] ws).length = ps.length := by rw [← r2.length]; exact F.len _ _ _ _ q2
  refine wpAny_call (codeAny_mono (F.run X.A X.stack s2 H2 ⟨[], ks.zip ws⟩ (g [] ws) (gV [] zs) Q E hr I2.env0 (hb.to s2 [] ws I2.kIn rfl (rz.length.symm.trans l2)) r2 q2) fun r s3 hq => ?_)
  cases r with
  | error e => exact hx pins σ H2 s2 e s3 I2 hq
  | ok fl =>
    cases fl with
    | ret u => exact I2.after hq
    | next => exact False.elim hq
    | brk => exact False.elim hq
    | cont => exact False.elim hq
end
def swV1 : List V → List V
  | [a, b] => [b, a]
  | l => l
def swU1 : List Value → List Value
  | [a, b] => [b, a]
  | l => l
theorem Vals.sw {vs : List V} {us : List Value} (r : Vals vs us) : Vals (swV1 vs) (swU1 us) := by
  cases r with
  | nil => exact .nil
  | cons h1 r1 =>
    cases r1 with
    | nil => exact .cons h1 .nil
    | cons h2 r2 =>
      cases r2 with
      | nil => exact .cons h2 (.cons h1 .nil)
      | cons h3 r3 => exact .cons h1 (.cons h2 (.cons h3 r3))
abbrev swV : List V → List V → List V := fun _ vs => swV1 vs
abbrev swU : List Value → List Value → List Value := fun _ us => swU1 us
end L2.Sl

set_option Elab.async false
set_option linter.all false
set_option maxRecDepth 100000
set_option maxHeartbeats 4000000
namespace L2.Sl
open PySem PySem.Spec PyProof.Rows
/-! ### a def whose code object is told -/
structure FunC (K : PySem.W.Frag) (x qual : Str) (st : Stmt) (f : Addr) (fd : FuncData) (c : Addr) : Prop where
  ex : ∃ (oc : Value) (od : Option Addr) (kV doc pm : Value) (an : Option Addr) (ct : Value) (osl : Array (Option Value)), fd = PySem.W.fnOf x qual (defArgs st) (defBody st) (defScope st) .none kV doc pm an (.ref c) ct ∧ K.lookup f = some ⟨oc, od, .func fd, osl⟩ ∧ PySem.W.codeIn K (.ref c) qual = true
  kp : PySem.W.keepIn K (.ref f) = true
section
variable {P : Program} {w : World} {K : PySem.W.Frag} {mg : Str → Option Value} {base : Heap} {x qual : Str} {st : Stmt} {f c : Addr} {fd : FuncData}
theorem FunC.fun (F : FunC K x qual st f fd c) : Fun K x qual st f fd := by
  obtain ⟨oc, od, kV, doc, pm, an, ct, osl, e, l, q⟩ := F.ex
  exact ⟨⟨oc, od, kV, doc, pm, an, .ref c, ct, osl, e, l, q⟩, F.kp⟩
theorem FunC.ok {N ps : List Str} {k : Nat} {sp : Sp} (F : FunC K x qual st f fd c) (S : FnScope N ps (defScope st)) (len : ∀ vs H Q E, sp vs H Q E → vs.length = ps.length)
    (bodyOk : ∀ (A : Around) (outer : List Env) (s : Shared) (H : Hp) (vs : List V) (Q : VK) (E : XK), Room k (A.deeper (envOfC qual (defScope st) s.heap.objs.size f (.ref c))) → sp vs H Q E →
      ∃ t, PSs (cxOf CX0 P w K mg base N qual (defScope st) f (.ref c) A outer s H E).nox (defBody st) t ∧ t { nx := fun _ H2 => Q .non H2, rt := Q } (start N vs) H) : FnOk P w K mg base CX0 (k + 1) f fd ps sp := by
  obtain ⟨oc, od, kV, doc, pm, an, ct, osl, rfl, lk, hcd⟩ := F.ex
  refine fn_of lk hcd S len fun A outer s H vs Q E hr z => ?_
  obtain ⟨t, y, q⟩ := bodyOk A outer s H vs Q E hr z
  exact ⟨t, y.nox, q⟩
theorem funC_of {p : Str × Option Str} (F : FunD K x qual (defArgs st) (defBody st) (defScope st) [] [] (He.fAd K p) fd) : FunC K x qual st (He.fAd K p) fd (He.codeOf K p) := by
  obtain ⟨⟨oc, od, dV, kV, doc, pm, an, cdv, ct, osl, rfl, lk, hcd, hD, _⟩, kp⟩ := F
  obtain ⟨c, rfl⟩ := He.codeIn_ref hcd
  have e := He.codeOf_eq lk rfl
  rcases hD with ⟨_, rfl⟩ | ⟨n, _⟩
  · rw [e]
    exact ⟨⟨oc, od, kV, doc, pm, an, ct, osl, rfl, lk, hcd⟩, kp⟩
  · exact absurd rfl n
end
/-! ### the law's call with tables of code objects, its promise held where nothing is being shown -/
def isTab (H : Hp) (l : List Addr) : Prop := ∀ b ∈ l, H b = some (.tbl #[])
theorem top_callT {P : Program} {w : World} {K : PySem.W.Frag} {mg mb : Str → Option Value} {CX : CXT} {k : Nat} {fa a : Addr} {cs : List (Addr × Addr)} {fd : FuncData} {x : Str} {sp : Sp} {s₁ : Shared} {vs : List Value} {ns : List Int}
    (KIn : K.In s₁.heap) (nsM : s₁.heap.Ns mainGlobals mg) (nsB : s₁.heap.Ns builtinsNs mb) (bb : ∀ x : Str, x ≠ "__name__" → mb x = bootBuiltins x) (lim : s₁.heap.NoLimit) (gens0 : s₁.gens = #[])
    (emp : ∀ p ∈ cs, s₁.heap.get? p.2 = some { cls := .none, data := .fields #[] }) (off : ∀ p ∈ cs, K.lookup p.2 = none) (cod : ∀ p ∈ cs, PySem.W.CodeHd s₁.heap p.1 p.2)
    (bmn : ∃ (m : Addr) (om : Obj), mg "__builtins__" = some (.ref m) ∧ m ≠ builtinsNs ∧ s₁.heap.get? m = some om ∧ om.cls = .type "module" ∧ om.dict = some builtinsNs ∧ om.data = .plain)
    (atA : s₁.heap.get? a = some { cls := .type "list", data := .seq vs.toArray }) (hints : IntsAre vs ns) (sz : ns.length ≤ sizeLine) (room : Room k callerA)
    (F : ∀ base : Heap, K.In base → base.Ns mainGlobals mg → (∀ p ∈ cs, LamX.TabB base mg p.1 p.2) → FnG P w K mg base CX k fa fd [x] sp) (bind : ∀ (s : Shared) (u : Value), BindsTo s fd ⟨[u], []⟩ [(x, u)])
    (hsp : ∀ H : Hp, isTab H (cs.map (·.2)) → SqL K H a (ns.map V.int) → sp [.ref a] H (fun v _ => v = .bl true) fun _ _ _ => False) (noX : ∀ H e s2, CX [] H s₁ (fun _ _ _ => False) e s2 → False) :
    codeAny (model P w) callerA (.call (.ref fa) ⟨[.ref a], []⟩) (fun r s2 => r = .ok (.ret (.bool true)) ∧ OldK s₁.heap s2.heap ∧ s2.os = s₁.os ∧ AllBare s2.gens) s₁ := by
  have rvs := vals_ints hints
  have lv := hints.length
  obtain ⟨l, el⟩ : ∃ l : List Addr, l = cs.map (·.2) := ⟨_, rfl⟩
  rw [← el] at hsp
  have inl : ∀ p ∈ cs, p.2 ∈ l := fun p hp => by rw [el]; exact List.mem_map.mpr ⟨p, hp, rfl⟩
  have tabs : ∀ b ∈ l, s₁.heap.get? b = some { cls := .none, data := .fields #[] } := fun b hb => by
    rw [el] at hb
    obtain ⟨p, hp, e⟩ := List.mem_map.mp hb
    exact e ▸ emp p hp
  have offl : ∀ b ∈ l, K.lookup b = none := fun b hb => by
    rw [el] at hb
    obtain ⟨p, hp, e⟩ := List.mem_map.mp hb
    exact e ▸ off p hp
  have naT : a ∉ l := fun hb => by
    have q := tabs a hb
    rw [atA] at q
    have z : Data.seq vs.toArray _ = Data.fields #[] := congrArg Obj.data (Option.some.inj q)
    cases z
  have main : ∀ H : Hp, isTab H l → (∀ b, H b = none ∨ b ∈ l ∨ ∃ o xs, H b = some (.frz o (.lst xs))) → SqL K H a (ns.map V.int) → HOk P w H s₁.heap → (∀ b, H b ≠ none → b = a ∨ b ∈ l) → (H a ≠ none → K.lookup a = none) →
      codeAny (model P w) callerA (.call (.ref fa) ⟨[.ref a], []⟩) (fun r s2 => r = .ok (.ret (.bool true)) ∧ OldK s₁.heap s2.heap ∧ s2.os = s₁.os ∧ AllBare s2.gens) s₁ := by
    intro H isT only hS ok onlyA notK
    have lay : ∀ {b : Addr} {o : Obj}, s₁.heap.get? b = some o → H b = none → (hidT s₁.heap H).get? b = some o := fun e n => hidT_get e n
    -- what is neither the script nor an empty table is not tracked
    have untr : ∀ {b : Addr} {o : Obj}, s₁.heap.get? b = some o → (∀ us n, o.data ≠ .seq us n) → o.data ≠ .fields #[] → H b = none := fun {b o} e h1 h2 => by
      cases q : H b with
      | none => rfl
      | some u =>
        rcases onlyA b (by rw [q]; simp) with z | z
        · rw [z, atA] at e
          cases e
          exact absurd rfl (h1 _ _)
        · rw [tabs b z] at e
          cases e
          exact absurd rfl h2
    have dictFree : ∀ {b : Addr} {o : Obj} {es : Array DictEntry} {ep : Nat}, s₁.heap.get? b = some o → o.data = .dict es ep → H b = none := fun {b o es ep} e d => untr e (fun us n z => by rw [d] at z; cases z) (fun z => by rw [d] at z; cases z)
    have nsOf : ∀ {b : Addr} {m : Str → Option Value}, s₁.heap.Ns b m → (hidT s₁.heap H).Ns b m := fun {b m} ⟨o, es, ep, e, d, r⟩ => ⟨o, es, ep, lay e (dictFree e d), d, r⟩
    have KB : K.In (hidT s₁.heap H) := fun b o e => lay (KIn b o e) (by
      cases q : H b with
      | none => rfl
      | some u =>
        rcases onlyA b (by rw [q]; simp) with z | z
        · rw [z, notK (by rw [← z, q]; simp)] at e
          cases e
        · rw [offl b z] at e
          cases e)
    obtain ⟨mc, lim1, lim2⟩ := lim
    have MB : Mod K mg (hidT s₁.heap H) := ⟨KB, nsOf nsM, ⟨mb, nsOf nsB, bb⟩, ⟨mc, nsOf lim1, lim2⟩⟩
    have notM : ∀ p ∈ cs, mainGlobals ≠ p.2 := fun p hp z => by
      obtain ⟨o, es, ep, e, d, _⟩ := nsM
      rw [z, emp p hp] at e
      cases e
      cases d
    have TB : ∀ p ∈ cs, LamX.TabB (hidT s₁.heap H) mg p.1 p.2 := fun p hp => by
      refine ⟨?_, ?_, notM p hp⟩
      · obtain ⟨o, us, file, tf, flags, tg, inF, text, tt, e1, r1, r2, r3, r4⟩ := cod p hp
        refine ⟨o, us, file, tf, flags, tg, inF, text, tt, lay e1 (untr e1 (fun vs n z => by rw [r2] at z; cases z) fun z => ?_), r1, r2, r3, r4⟩
        rw [r2] at z
        cases z
        simp at r3
      · obtain ⟨m, om, b1, b2, b3, b4, b5, b6⟩ := bmn
        refine ⟨m, om, b1, b2, fun q => ?_, fun q => ?_, lay b3 (untr b3 (fun vs n z => by rw [b6] at z; cases z) fun z => by rw [b6] at z; cases z), b4, b5, b6⟩
        · obtain ⟨o, es, ep, e, d, _⟩ := nsM
          rw [q, e] at b3
          cases b3
          rw [d] at b6
          cases b6
        · rw [q, emp p hp] at b3
          cases b3
          cases b6
    have en : Env0 P w K mg (hidT s₁.heap H) callerA [] s₁ H := ⟨rfl, MB, fun b o e => of_hidT e, Nat.le_of_eq (hidT_size _ _), trivial, (fun b hb => absurd (show b ∈ ([] : List Addr) from hb) (by simp)), ok, .of_eq gens0⟩
    refine codeAny_mono ((F _ KB (nsOf nsM) TB).run callerA [] s₁ H ⟨[.ref a], []⟩ [.ref a] [.ref a] _ _ rfl room en (bind s₁ (.ref a)) (.cons rfl .nil) (hsp H isT hS)) fun r s2 h => ?_
    rcases r with e | fl
    · exact (noX H e s2 h).elim
    · cases fl with
      | next => exact (h : False).elim
      | brk => exact (h : False).elim
      | cont => exact (h : False).elim
      | ret u =>
        obtain ⟨v, H2, os, bare, un, ok2, r, rfl⟩ := h
        obtain rfl : u = Value.bool true := r
        have stay : ∀ b o, b ∉ l → s₁.heap.get? b = some o → s2.heap.get? b = some o := fun b o nb e => by
          cases q : H b with
          | none => exact un.keep b o e q (fun z => nomatch z) (by simp)
          | some u =>
            rcases only b with z | z | ⟨ob, xs, z⟩
            · rw [q] at z
              cases z
            · exact absurd z nb
            · obtain ⟨e1, _⟩ := ok b _ z
              obtain ⟨e2, _⟩ := ok2 b _ (un.frzs b ob _ z)
              rw [e] at e1
              cases e1
              exact e2
        have more : ∀ b ∈ l, ∃ es : Array Value, s2.heap.get? b = some { cls := .none, data := .fields es } := fun b hb => by
          obtain ⟨es, z⟩ := un.tbls b #[] (isT b hb)
          exact ⟨_, ok2 b _ z⟩
        refine ⟨rfl, ⟨fun b o e => ?_, fun b o e => ?_⟩, os, bare⟩
        · by_cases hb : b ∈ l
          · obtain ⟨es, he⟩ := more b hb
            have hb2 := hb
            rw [el] at hb2
            obtain ⟨p, hp, rfl⟩ := List.mem_map.mp hb2
            rw [emp p hp] at e
            cases e
            exact .inr (.inl ⟨((cod p hp).tab (emp p hp)).isCodeTable, rfl, #[], es, rfl, by rw [Array.empty_append]; exact he⟩)
          · exact .inl (stay b o hb e)
        · by_cases hb : b ∈ l
          · obtain ⟨es, he⟩ := more b hb
            exact ⟨_, he⟩
          · exact ⟨o, stay b o hb e⟩
  have tabOk : ∀ b ∈ l, ∀ H, ObjOk P w H s₁.heap b (.tbl #[]) := fun b hb H => tabs b hb
  cases hk : K.lookup a with
  | some o =>
    have e := KIn a o hk
    rw [atA] at e
    cases e
    obtain ⟨H, hH⟩ : ∃ H : Hp, H = fun b => if b ∈ l then some (.tbl #[]) else none := ⟨_, rfl⟩
    have t1 : ∀ {b}, b ∈ l → H b = some (.tbl #[]) := fun {b} z => by rw [hH]; exact if_pos z
    have t2 : ∀ {b}, b ∉ l → H b = none := fun {b} z => by rw [hH]; exact if_neg z
    refine main H (fun b hb => t1 hb) (fun b => ?_) (.inr ⟨_, vs.toArray, _, hk, rfl, rfl, rfl, by rw [List.size_toArray, lv]; exact sz, by simpa using rvs⟩) (fun b u z => ?_) (fun b z => ?_) fun z => absurd (t2 naT) z
    · by_cases hb : b ∈ l
      · exact .inr (.inl hb)
      · exact .inl (t2 hb)
    · by_cases hb : b ∈ l
      · rw [t1 hb] at z
        cases z
        exact tabOk b hb H
      · rw [t2 hb] at z
        cases z
    · by_cases hb : b ∈ l
      · exact .inr hb
      · exact absurd (t2 hb) z
  | none =>
    obtain ⟨H, hH⟩ : ∃ H : Hp, H = fun b => if b = a then some (.frz { cls := .type "list", data := .seq vs.toArray } (.lst (ns.map V.int))) else if b ∈ l then some (.tbl #[]) else none := ⟨_, rfl⟩
    have h1 : H a = some (.frz { cls := .type "list", data := .seq vs.toArray } (.lst (ns.map V.int))) := by rw [hH]; exact if_pos rfl
    have t1 : ∀ {b}, b ∈ l → H b = some (.tbl #[]) := fun {b} z => by rw [hH]; exact (if_neg (fun y : b = a => naT (y ▸ z))).trans (if_pos z)
    have t2 : ∀ {b}, b ≠ a → b ∉ l → H b = none := fun {b} y z => by rw [hH]; exact (if_neg y).trans (if_neg z)
    refine main H (fun b hb => t1 hb) (fun b => ?_) (.inl (.inr ⟨_, h1⟩)) (fun b u z => ?_) (fun b z => ?_) fun _ => hk
    · by_cases hb : b = a
      · exact .inr (.inr ⟨_, _, by rw [hb]; exact h1⟩)
      · by_cases hb2 : b ∈ l
        · exact .inr (.inl hb2)
        · exact .inl (t2 hb hb2)
    · by_cases hb : b = a
      · subst hb
        rw [h1] at z
        cases z
        exact ⟨atA, by rw [List.length_map]; exact sz, vs, _, rvs, atA⟩
      · by_cases hb2 : b ∈ l
        · rw [t1 hb2] at z
          cases z
          exact tabOk b hb2 H
        · rw [t2 hb hb2] at z
          cases z
    · by_cases hb : b = a
      · exact .inl hb
      · by_cases hb2 : b ∈ l
        · exact .inr hb2
        · exact absurd (t2 hb hb2) z
/-- what is known of the law's promise at the head's heap -/
def TopAt (l : PySem.W.OpenLaw) (w : World) (K : PySem.W.Frag) (CX : CXT) (k n : Nat) (x : Str) (mg : Str → Option Value) (fa : Addr) (h : Heap) : Prop :=
  ∃ (fd : FuncData) (cs : List (Addr × Addr)) (sp : Sp), (∀ p ∈ cs, h.get? p.2 = some { cls := .none, data := .fields #[] } ∧ K.lookup p.2 = none ∧ PySem.W.CodeHd h p.1 p.2) ∧ (∀ (s : Shared) (u : Value), BindsTo s fd ⟨[u], []⟩ [(x, u)]) ∧
    (∀ (H : Hp) (a : Addr) (ns : List Int), ns.length ≤ n → isTab H (cs.map (·.2)) → SqL K H a (ns.map V.int) → sp [.ref a] H (fun v _ => v = .bl true) fun _ _ _ => False) ∧
    ∀ base : Heap, K.In base → base.Ns mainGlobals mg → (∀ p ∈ cs, LamX.TabB base mg p.1 p.2) → FnG l.prog w K mg base CX k fa fd [x] sp
theorem walk_GT {l : PySem.W.OpenLaw} {n k : Nat} {q : Program} {loose : List Str} {XP : (Str → Option Value) → Heap → Prop} {YP : World → Heap → Prop} {d : DefRec} {CX : World → CXT} {x : Str}
    (hn : l.most = some n) (hn2 : n ≤ sizeLine) (hdf : d.params.defaults = []) (hr : Room k callerA)
    (F : ∀ (w : World) (mg : Str → Option Value) (fa : Addr) (h : Heap), YP w h → h.Ns mainGlobals mg → mg d.name = some (.ref fa) → ∃ K : PySem.W.Frag, K.In h ∧ TopAt l w K (CX w) k n x mg fa h)
    (noX : ∀ (w : World) (H : Hp) (s : Shared) (e : Value) (s2 : Shared), CX w [] H s (fun _ _ _ => False) e s2 → False) : PySem.W.WalkO q loose XP YP l.row.toRowW d [] (fun f vs => PySem.call f vs) :=
  Att.attach_callB hn hdf fun w s₀ s₁ mg mb fa o pm cd doc a vs ns G Y ho hd hcd hmg hobj hints hlen hbits hg => by
    obtain ⟨K, KIn, fd, cs, sp, hT, hb, hsp, hF⟩ := F w mg fa _ Y G.T.g hmg
    exact top_callT KIn G.T.g G.T.b G.T.builtins G.T.nolimit hg (fun p hp => (hT p hp).1) (fun p hp => (hT p hp).2.1) (fun p hp => (hT p hp).2.2) G.T.bmain hobj hints (Nat.le_trans hlen hn2) hr hF hb (fun H hH hS => hsp H a ns hlen hH hS) fun H e s2 => noX w H s₁ e s2
end L2.Sl

set_option Elab.async false
set_option linter.all false
set_option maxRecDepth 100000
set_option maxHeartbeats 4000000
namespace L2.Sl
open PySem PySem.W PySem.Spec PyProof.Rows SlX
/-! ### exception classes of the written part, by one look -/
inductive B3 where
  | val | look | arith
def B3.name : B3 → String
  | .val => "ValueError"
  | .look => "LookupError"
  | .arith => "ArithmeticError"
def B3.bm (b : B3) : List Value := [.type b.name, .type "Exception", .type "BaseException", .type "object"]
def B3.new : B3 → String
  | .val => "ValueError.__new__"
  | .look => "LookupError.__new__"
  | .arith => "ArithmeticError.__new__"
theorem xat_of {K : Frag} {C : Addr} {bmB : List Value} {newId : String} (q : excInitIn K C bmB newId = true) (hd : hasDictIn K C = true) :
    ∃ nm qn N bs bm sn sub ab col dd k0 k1 k2 k3 k5, K.lookup C = some (excClassObj nm qn C N bs bm true sn sub ab col dd k0 k1 k2 k3 k5 newId) ∧ excTail bmB bm = true := by
  unfold hasDictIn clsIn at hd
  unfold excInitIn at q
  split at q
  · rename_i od cd sl el
    rw [el] at hd
    have dict : cd.hasDict = true := by simpa using hd
    split at q
    · rename_i C2 bm2 a0 a1 a2 a3 nid a5 em es
      simp only [beq_iff_eq, Bool.and_eq_true, Bool.not_eq_true'] at q
      obtain ⟨⟨⟨eC, en⟩, del⟩, tl⟩ := q
      obtain ⟨c1, c2, c3, c4, c5, c6, c7, c8, c9, c10, c11⟩ := cd
      dsimp only at em del dict
      have sle : sl = #[a0, a1, a2, a3, some (.builtin nid), a5] := by
        obtain ⟨l⟩ := sl
        dsimp only at es
        rw [es]
      subst em del dict sle eC en
      exact ⟨c1, _, c4, c2, bm2, _, _, _, _, od, a0, a1, a2, a3, a5, el, tl⟩
    · cases q
  · cases q
def okX11 (K : Frag) (C f : Addr) (fs : List Str) : Bool :=
  decide (findIn K (.ref C) "__setattr__" = some (some (.builtin "object.__setattr__"))) && (decide (findIn K (.ref C) "__getattribute__" = some (some (.builtin "BaseException.__getattribute__"))) && (decide (findIn K (.ref C) "__getattr__" = some none) &&
  (fs.all (fun x => decide (findIn K (.ref C) x = some none)) && (decide (typeIn K (.ref f) = some (.type "function")) && (keepIn K (.ref C) && (decide (subIn K (.ref C) (.type "BaseException") = some true) && (decide (typeIn K (.ref C) = some (.type "type")) && (hasDictIn K C &&
  (decide (findIn K (.ref C) "__class__" = some (some (.builtin "object.__class__"))) && decide (mroIn K C (.type "object") = some true))))))))))
/-- the class x over the built-in one, its __init__ storing fs -/
def ecB (K : Frag) (x : Str) (b : B3) (fs : List Str) : Bool := excInitIn K (He.ga K x) b.bm b.new && (decide (findIn K (.ref (He.ga K x)) "__init__" = some (some (.ref (He.ma K (He.ga K x) "__init__")))) && okX11 K (He.ga K x) (He.ma K (He.ga K x) "__init__") fs)
/-- what isinstance wants of built-in descriptors -/
def descB (K : Frag) : Bool := decide (specialIn K (.builtin "object.__class__") "__get__" = some (some (.builtin "getset_descriptor.__get__"))) && decide (takesIn K (.builtin "object.__class__") = some true)
theorem two {a b : Bool} (h : (a && b) = true) : a = true ∧ b = true := He.ba h
theorem ec_of {K : Frag} {x qual : Str} {b : B3} {st : Stmt} {fs : List Str} {fd : FuncData} (h : ecB K x b fs = true) (dB : descB K = true) (F : FunD K "__init__" qual (defArgs st) (defBody st) (defScope st) [] [] (He.fAd K (x, some "__init__")) fd) :
    EC K (He.ga K x) (He.ma K (He.ga K x) "__init__") qual st fs ∧ ExR K (He.ga K x) := by
  obtain ⟨q, h⟩ := two h
  obtain ⟨hi, h⟩ := two h
  obtain ⟨h1, h⟩ := two h
  obtain ⟨h2, h⟩ := two h
  obtain ⟨h3, h⟩ := two h
  obtain ⟨h4, h⟩ := two h
  obtain ⟨h5, h⟩ := two h
  obtain ⟨h6, h⟩ := two h
  obtain ⟨h7, h⟩ := two h
  obtain ⟨h8, h⟩ := two h
  obtain ⟨h9, h⟩ := two h
  obtain ⟨h10, h11⟩ := two h
  obtain ⟨d1, d2⟩ := two dB
  obtain ⟨nm, qn, N, bs, bm, sn, sub, ab, col, dd, k0, k1, k2, k3, k5, lk, tl⟩ := xat_of q h9
  have G := funC_of F
  obtain ⟨oc, od, kV, doc, pm, an, ct, osl, rfl, l, cq⟩ := G.ex
  have o2 := of_decide_eq_true h2
  have o3 := of_decide_eq_true h3
  have o7 := of_decide_eq_true h7
  have o10 := of_decide_eq_true h10
  have o11 := of_decide_eq_true h11
  refine ⟨⟨?_, of_decide_eq_true h1, o2, o3, fun f hf => of_decide_eq_true (List.all_eq_true.mp h4 f hf), of_decide_eq_true hi, of_decide_eq_true h5, h6, o7, of_decide_eq_true h8, h9, oc, od, kV, doc, pm, an, _, ct, osl, l, cq⟩, ⟨o2, o3, o7, h9, o10, of_decide_eq_true d1, of_decide_eq_true d2, o11⟩⟩
  cases b with
  | val => exact ⟨_, _, _, _, nm, qn, N, bs, bm, sn, sub, ab, col, dd, k0, k1, k2, k3, k5, PySem.F.excBase_ValueError, PySem.F.store_ValueError, lk, tl⟩
  | look => exact ⟨_, _, _, _, nm, qn, N, bs, bm, sn, sub, ab, col, dd, k0, k1, k2, k3, k5, PySem.F.excBase_LookupError, PySem.F.store_LookupError, lk, tl⟩
  | arith => exact ⟨_, _, _, _, nm, qn, N, bs, bm, sn, sub, ab, col, dd, k0, k1, k2, k3, k5, PySem.F.excBase_ArithmeticError, PySem.F.store_ArithmeticError, lk, tl⟩
/-- a def of the text at the top -/
abbrev dTop (x : Str) (s : Stmt) : He.DefD := ⟨(x, none), x, x, defArgs s, defBody s, defScope s, [], []⟩
/-- a class's __init__ -/
abbrev dIni (x q : Str) (s : Stmt) : He.DefD := ⟨(x, some "__init__"), "__init__", q, defArgs s, defBody s, defScope s, [], []⟩
section
variable {fa : List He.Fa} {fn : List He.DefD} {ts : List He.Tab} {tf : List He.Defn} {ex : Frag → Bool} {w : World} {h : Heap} {K : Frag} {mg : Str → Option Value}
theorem says_def (c : He.SaysX fa fn ts tf ex w h K) (i : Nat) {x : Str} {s : Stmt} (e : fn[i]? = some (dTop x s) := by rfl) : ∃ fd, FunC K x x s (He.ga K x) fd (He.codeOf K (x, none)) := by
  obtain ⟨fd, F⟩ := c.t.d.def_ i e
  exact ⟨fd, funC_of (p := (x, none)) F⟩
theorem says_ini (c : He.SaysX fa fn ts tf ex w h K) (i : Nat) {x q : Str} {s : Stmt} (e : fn[i]? = some (dIni x q s) := by rfl) : ∃ fd, FunD K "__init__" q (defArgs s) (defBody s) (defScope s) [] [] (He.fAd K (x, some "__init__")) fd := c.t.d.def_ i e
theorem says_glo (X : K.In h) (G : h.Ns mainGlobals mg) (c : He.SaysX fa fn ts tf ex w h K) (i : Nat) {x : Str} (e : fa[i]? = some (.glo x) := by rfl) : mg x = some (.ref (He.ga K x)) := He.glo_ok X G (c.t.d.fact i e)
theorem says_free (X : K.In h) (G : h.Ns mainGlobals mg) (c : He.SaysX fa fn ts tf ex w h K) (i : Nat) {x : Str} (e : fa[i]? = some (.free x) := by rfl) : mg x = none := He.free_ok X G (c.t.d.fact i e)
theorem says_int (X : K.In h) (G : h.Ns mainGlobals mg) (c : He.SaysX fa fn ts tf ex w h K) (i : Nat) {x : Str} {n : Int} (e : fa[i]? = some (.int x n) := by rfl) : ∃ t, mg x = some (.int n t) := He.int_ok X G (c.t.d.fact i e)
theorem says_str (X : K.In h) (G : h.Ns mainGlobals mg) (c : He.SaysX fa fn ts tf ex w h K) (i : Nat) {x z : Str} (e : fa[i]? = some (.str x z) := by rfl) : ∃ t, mg x = some (.str z t) := He.str_ok X G (c.t.d.fact i e)
theorem says_tab (X : K.In h) (c : He.SaysX fa fn ts tf ex w h K) (p : Str × Option Str) (m : p ∈ tf) : h.get? (He.cT K p).2 = some { cls := .none, data := .fields #[] } ∧ K.lookup (He.cT K p).2 = none ∧ CodeHd h (He.cT K p).1 (He.cT K p).2 :=
  ⟨c.empty p m, c.out p m, codeHd_of_K X (c.hd p m)⟩
end
end L2.Sl

set_option Elab.async false
set_option linter.all false
set_option maxRecDepth 100000
set_option maxHeartbeats 4000000
namespace L2.Sl
open PySem PySem.Spec PyProof.Rows
/-- list + list, either as it was handed in -/
def rCatF (K : PySem.W.Frag) : R2 := fun x y H Q => ∃ l b xs zs, x = .ref l ∧ y = .ref b ∧ SqL K H l xs ∧ SqL K H b zs ∧ xs.length + zs.length ≤ sizeLine ∧ ∀ p, H p = none → Q (.ref p) (upd H p (.lst (xs ++ zs)))
theorem op_catF {X : Cx} : OpR X (binaryOp .Add) (rCatF X.K) := by
  intro pins s σ H x y v u Q I rx ry h
  obtain ⟨l, b, xs, zs, rfl, rfl, h1, h2, hz, q⟩ := h
  cases rx
  cases ry
  obtain ⟨us, r, ⟨⟨c1, d1, t1, s1⟩, n, e1, k1, _, g1⟩, _⟩ := I.list h1
  obtain ⟨ws, r2, ⟨⟨c2, d2, t2, s2⟩, n2, e2, k2, _, g2⟩, _⟩ := I.list h2
  have l1 := r.length
  have l2 := r2.length
  simp only at k1 g1 k2 g2
  subst k1 g1 k2 g2
  have ee : us.toArray ++ ws.toArray = (us ++ ws).toArray := by simp
  refine concat_meets ⟨_, e1, rfl⟩ ⟨_, e2, rfl⟩ noFill_list_add seq_list_add PySem.F.slot_list_add PySem.F.entry_list_add (PySem.F.args_list_add_2 _ _) (list_addW l b us.toArray ws.toArray n n2 d1 d2 s1 s2 (by rw [List.size_toArray, List.size_toArray, ← l1, ← l2]; exact hz)) ⟨e1, e2, ?_⟩
  rw [ee]
  exact ⟨.ref _, _, I.lnew (t' := s.toks) (r.append r2) (by rw [List.length_append]; exact hz), rfl, q _ I.fresh⟩
/-- a reading that asks for more -/
theorem pe_by {X : Cx} {e : Expr} {t t2 : TE} (h : PE X e t) (i : ∀ σ H Q, t2 σ H Q → t σ H Q) : PE X e t2 := ⟨fun pins s σ H Q I z => h.run pins s σ H Q I (i σ H Q z)⟩
theorem pt_by {X : Cx} {e : Expr} {t t2 : TT} (h : PT X e t) (i : ∀ σ H Q, t2 σ H Q → t σ H Q) : PT X e t2 := ⟨fun pins s σ H Q I z => h.run pins s σ H Q I (i σ H Q z)⟩
theorem ps_by {X : Cx} {e : Stmt} {t t2 : TS} (h : PS X e t) (i : ∀ D σ H, t2 D σ H → t D σ H) : PS X e t2 := ⟨fun pins s σ H D I z => h.run pins s σ H D I (i D σ H z)⟩
theorem pss_by {X : Cx} {e : List Stmt} {t t2 : TS} (h : PSs X e t) (i : ∀ D σ H, t2 D σ H → t D σ H) : PSs X e t2 := ⟨fun pins s σ H D I z => h.run pins s σ H D I (i D σ H z)⟩
/-- what follows, proved once for several ways -/
theorem via {A : Prop} {J : Hp → Prop} (G : Hp → Prop) (t : ∀ H, J H → G H) (m : (∀ H, J H → G H) → A) : A := m t
theorem same_new {H : Hp} {p : Addr} {o : HO} (h : H p = none) : Same H (upd H p o) := fun b x e => by
  rw [upd_ne (ne_of_none e h)]
  exact e
theorem same_put {H H2 : Hp} {p : Addr} {o : HO} (s : Same H H2) (h : H p = none) : Same H (upd H2 p o) := fun b x e => by
  rw [upd_ne (ne_of_none e h)]
  exact s b x e
theorem mkN {H : Hp} {p : Addr} (o : HO) (n : H p = none) : ∃ G, G = upd H p o ∧ Same H G ∧ G p = some o := ⟨_, rfl, fun b x e => by rw [upd_ne (ne_of_none e n)]; exact e, upd_same⟩
end L2.Sl

set_option Elab.async false
set_option linter.all false
set_option maxRecDepth 100000
set_option maxHeartbeats 4000000
namespace L2.Sl
open PySem PySem.Spec PyProof.Rows
/-! ### keys that are tuples of any depth -/
mutual
inductive NK (H : Hp) : NestedKey → V → Prop
  | num (i : Int) : NK H (.num i) (.int i)
  | text (x : Str) : NK H (.text x) (.str x)
  | tup {a : Addr} {xs : List V} {ks : List NestedKey} : H a = some (.tup xs) → NKs H ks xs → NK H (.tup ks) (.ref a)
inductive NKs (H : Hp) : List NestedKey → List V → Prop
  | nil : NKs H [] []
  | cons {k : NestedKey} {ks : List NestedKey} {x : V} {xs : List V} : NK H k x → NKs H ks xs → NKs H (k :: ks) (x :: xs)
end
mutual
theorem NK.is {P : Program} {w : World} {H : Hp} {h : Heap} (ok : HOk P w H h) : ∀ (k : NestedKey) (x : V) (u : Value), NK H k x → RelV x u → NestedIs h k u
  | .none, _, _, n, _ => nomatch n
  | .num i, _, _, n, r => by
    cases n
    obtain ⟨t, rfl⟩ := r
    exact .int i t
  | .text x, _, _, n, r => by
    cases n
    obtain ⟨t, rfl⟩ := r
    exact .text x t
  | .tup ks, _, _, n, r => by
    cases n with
    | tup e t =>
      obtain ⟨_, its, rv, o, h1, h2, m, h3⟩ := ok _ _ e
      cases r
      exact .tup h1 h2 h3 (NKs.all ok ks _ _ t (by simpa using rv))
theorem NKs.all {P : Program} {w : World} {H : Hp} {h : Heap} (ok : HOk P w H h) : ∀ (ks : List NestedKey) (xs : List V) (us : List Value), NKs H ks xs → Vals xs us → NestedAll h ks us
  | [], _, _, n, r => by
    cases n
    cases r
    exact .nil
  | k :: ks, _, _, n, r => by
    cases n with
    | cons n1 n2 =>
      cases r with
      | cons r1 r2 => exact .cons (NK.is ok k _ _ n1 r1) (NKs.all ok ks _ _ n2 r2)
end
mutual
theorem NK.tups {H H2 : Hp} (t : Tups H H2) : ∀ (k : NestedKey) (x : V), NK H k x → NK H2 k x
  | .none, _, n => nomatch n
  | .num i, _, n => by
    cases n
    exact .num i
  | .text x, _, n => by
    cases n
    exact .text x
  | .tup ks, _, n => by
    cases n with
    | tup e r => exact .tup (t _ _ e) (NKs.tups t ks _ r)
theorem NKs.tups {H H2 : Hp} (t : Tups H H2) : ∀ (ks : List NestedKey) (xs : List V), NKs H ks xs → NKs H2 ks xs
  | [], _, n => by
    cases n
    exact .nil
  | k :: ks, _, n => by
    cases n with
    | cons a b => exact .cons (NK.tups t k _ a) (NKs.tups t ks _ b)
end
/-- a key and where it stands -/
def NKey (H : Hp) (k : NestedKey) (b : Addr) : Prop := NK H k (.ref b) ∧ k.depth ≤ 8
theorem NKey.tups {H H2 : Hp} {k : NestedKey} {b : Addr} (t : Tups H H2) (x : NKey H k b) : NKey H2 k b := ⟨NK.tups t _ _ x.1, x.2⟩
/-- a dict of such keys, each with True -/
def NDo (w : World) (a : Addr) (xs : List (NestedKey × Addr)) : HO := .ext fun h => xs.length ≤ sizeLine ∧ (a == sysModules) = false ∧
  ∃ o es ep, h.get? a = some o ∧ o.ExactDict ∧ o.data = .dict es ep ∧ es.toList = xs.map (fun x => (⟨x.1.hash w, .ref x.2, .bool true⟩ : DictEntry)) ∧ (xs.map (·.1)).Nodup
def withT (xs : List (NestedKey × Addr)) : List (NestedKey × Addr × Value) := xs.map fun x => (x.1, x.2, Value.bool true)
theorem withT_keys (xs : List (NestedKey × Addr)) : (withT xs).map (·.1) = xs.map (·.1) := by
  unfold withT
  rw [List.map_map]
  rfl
theorem withT_len (xs : List (NestedKey × Addr)) : (withT xs).length = xs.length := List.length_map ..
theorem withT_ent {P : Program} {w : World} (xs : List (NestedKey × Addr)) : (withT xs).map (entryOfKey (nestedKind P w)) = xs.map (fun x => (⟨x.1.hash w, .ref x.2, .bool true⟩ : DictEntry)) := by
  unfold withT
  rw [List.map_map]
  rfl
section
variable {X : Cx} {pins : List (Addr × Obj)} {σ : St} {H : Hp} {s : Shared} {a : Addr} {xs : List (NestedKey × Addr)}
theorem ndo_ok {P : Program} {w : World} {H : Hp} {h : Heap} {a : Addr} {xs : List (NestedKey × Addr)} (hz : xs.length ≤ sizeLine) (hd : (a == sysModules) = false) (x : h.DictOfH (nestedKind P w) a (withT xs)) : ObjOk P w H h a (NDo w a xs) := by
  obtain ⟨o, es, ep, h1, h2, h3, h4, _, h5⟩ := x
  refine ⟨⟨hz, hd, o, es, ep, h1, h2, h3, ?_, ?_⟩, ⟨o, h1⟩, fun g1 g2 q st => ?_⟩
  · rw [h4, withT_ent]
  · rw [← withT_keys]
    exact h5
  · obtain ⟨z1, z2, o2, es2, ep2, q1, q2⟩ := q
    exact ⟨z1, z2, o2, es2, ep2, st _ q1, q2⟩
theorem nd_at (I : Inv X pins σ H s) (e : H a = some (NDo X.w a xs)) (k : ∀ x ∈ xs, NKey H x.1 x.2) : xs.length ≤ sizeLine ∧ (a == sysModules) = false ∧ s.heap.DictOfH (nestedKind X.prog X.w) a (withT xs) := by
  obtain ⟨⟨z1, z2, o, es, ep, h1, h2, h3, h4, h5⟩, _⟩ := I.hok a _ e
  refine ⟨z1, z2, o, es, ep, h1, h2, h3, ?_, fun x hx => ?_, ?_⟩
  · rw [h4, withT_ent]
  · obtain ⟨y, hy, rfl⟩ := List.mem_map.mp hx
    exact ⟨NK.is I.hok _ _ _ (k y hy).1 rfl, (k y hy).2⟩
  · rw [withT_keys]
    exact h5
theorem atKey_withT (k : NestedKey) : ∀ xs : List (NestedKey × Addr), (atKey (withT xs) k).isSome = decide (k ∈ xs.map (·.1))
  | [] => rfl
  | x :: r => by
    have ih := atKey_withT k r
    unfold atKey withT at ih ⊢
    rw [List.map_cons, List.find?_cons]
    by_cases e : x.1 = k
    · rw [decide_eq_true (show x.1 = k from e)]
      exact (decide_eq_true (List.mem_map.mpr ⟨x, List.mem_cons_self, e⟩)).symm
    · rw [decide_eq_false (show ¬ x.1 = k from e)]
      show ((List.find? (fun x => decide (x.1 = k)) (List.map (fun x => (x.1, x.2, Value.bool true)) r)).map (·.2)).isSome = _
      rw [ih]
      exact decide_eq_decide.mpr ⟨fun z => by rw [List.map_cons]; exact List.mem_cons_of_mem _ z, fun z => by
        rw [List.map_cons] at z
        exact (List.mem_cons.mp z).resolve_left fun y => e y.symm⟩
/-- k not in d -/
def rNotInN (w : World) : R2 := fun x y H Q => ∃ a xs b k, x = .ref b ∧ y = .ref a ∧ H a = some (NDo w a xs) ∧ (∀ z ∈ xs, NKey H z.1 z.2) ∧ NKey H k b ∧ Q (.bl (!decide (k ∈ xs.map (·.1)))) H
theorem op_notInN {w : World} (hw : X.w = w) (hu : X.A.units + 64 < cLine) : OpR X (compareOp .NotIn) (rNotInN w) := by
  subst hw
  intro pins s σ H x y v u Q I rx ry h
  obtain ⟨a, xs, b, k, rfl, rfl, e, ks, kb, q⟩ := h
  cases rx
  cases ry
  obtain ⟨z, hd, dd⟩ := nd_at I e ks
  refine wpAny_notIn_heap (knd := nestedKind X.prog X.w) (show X.A.in1.units + 8 < cLine from Nat.lt_of_le_of_lt (show X.A.units + 1 + 8 ≤ X.A.units + 64 by omega) hu) ⟨NK.is I.hok _ _ _ kb.1 rfl, kb.2⟩ hd dd ?_
  rw [atKey_withT]
  exact ⟨_, H, I.tok _, (show RelV (.bl (!decide (k ∈ xs.map fun x : NestedKey × Addr => x.1))) (.bool (!decide (k ∈ xs.map fun x : NestedKey × Addr => x.1))) from rfl), q⟩
/-- d[k] = True, k not there -/
def sNPut (w : World) (td ty tv : TE) : TS := fun D σ H => tv σ H fun v H1 => td σ H1 fun x H2 => ty σ H2 fun y H3 => ∃ a xs b k, v = .bl true ∧ x = .ref a ∧ y = .ref b ∧ H3 a = some (NDo w a xs) ∧ (∀ z ∈ xs, NKey H3 z.1 z.2) ∧ NKey H3 k b ∧ k ∉ xs.map (·.1) ∧ xs.length < sizeLine ∧ D.nx σ (upd H3 a (NDo w a (xs ++ [(k, b)])))
variable {o i e value : Expr} {pos pos' tpos : Pos} {td ty tv : TE}
theorem ps_nput {w : World} (hw : X.w = w) (hu : X.A.units + 64 < cLine) (ho : PE X o td) (hi : PE X i ty) (hv : PE X value tv) (hs : swapsWith value (some (.Subscript o i pos')) pos.line X.env = pure false) :
    PS X (.Assign [.Subscript o i pos'] value pos) (sNPut w td ty tv) := by
  subst hw
  refine ⟨fun pins s σ H D I h => ?_⟩
  refine wpAny_Assign_Subscript (thn (hv.run pins s σ H _ I h) fun r s1 ⟨v, H1, I1, rv, q1⟩ => thn (ho.run pins s1 σ H1 _ I1 q1) fun u s2 ⟨x, H2, I2, rx, q2⟩ => thn (hi.run pins s2 σ H2 _ I2 q2) fun iv s3 ⟨y, H3, I3, ry, a, xs, b, k, e1, e2, e3, e, ks, kb, kn, lz, q3⟩ => ?_) hs
  subst e1 e2 e3
  cases rv
  cases rx
  cases ry
  obtain ⟨z, hd, dd⟩ := nd_at I3 e ks
  refine wpAny_setItem_heap (knd := nestedKind X.prog X.w) (hsz := by rw [withT_len]; exact z) (show X.A.in1.units + 8 < cLine from Nat.lt_of_le_of_lt (show X.A.units + 1 + 8 ≤ X.A.units + 64 by omega) hu) ⟨NK.is I3.hok _ _ _ kb.1 rfl, kb.2⟩ dd fun h' dd' hs => ⟨σ, _, ?_, q3⟩
  have no : atKey (withT xs) k = none := by
    have z := atKey_withT k xs
    rw [decide_eq_false kn] at z
    exact Option.isSome_eq_false_iff.mp z |> Option.isNone_iff_eq_none.mp
  rw [storedH_new no, show withT xs ++ [(k, b, Value.bool true)] = withT (xs ++ [(k, b)]) by unfold withT; rw [List.map_append]; rfl] at dd'
  have he : ∃ q, h'.get? a = some q := let ⟨q, _, _, hq, _⟩ := dd'; ⟨q, hq⟩
  exact d_write I3 (by rw [e]; exact True.intro) hs he (ndo_ok (by rw [List.length_append]; exact lz) hd dd')
theorem nd_empty {P : Program} {w : World} {H : Hp} (h : Heap) (hb : sysModules < h.objs.size) : ObjOk P w H (h.push { cls := .type "dict", data := .dict #[] }) h.objs.size (NDo w h.objs.size []) :=
  ndo_ok (Nat.zero_le _) (beq_eq_false_iff_ne.mpr (Ne.symm (Nat.ne_of_lt hb))) (Heap.DictOfH.new h)
theorem wpAny_Dict_walkH {P : Program} {w : World} {K : Type} [DecidableEq K] {knd : HeapKind P w K} {A : Around} {E : Value → Shared → Prop} {s : Shared} {env : Env} {keys : List (Option Expr)} {values : List Expr} {pos : Pos} {Q : Value → Shared → Prop} (hu : knd.room A)
    (hall : keys.all (·.isSome) = true) (hl : keys.length = values.length) (h0 : keys ≠ []) (hlen : keys.length ≤ 15)
    (h : wpAny (model P w) A (evalPairs (pairTrees keys values env pos)) (fun vs s₁ => ∃ ps, CarriesH knd s₁.heap vs ps ∧ s₁.heap.DictOfH knd s.heap.objs.size [] ∧
      ∀ h' tk, h'.DictOfH knd s.heap.objs.size (storedAllH [] ps) → Heap.SameBut s.heap.objs.size s₁.heap h' → Q (.ref s.heap.objs.size) { s₁ with heap := h', toks := tk }) E
      { s with heap := s.heap.push { cls := .type "dict", data := .dict #[] } }) :
    wpAny (model P w) A (eval (.Dict keys values pos) env) Q E s := by
  have hn := pairTrees_length keys values env pos hall hl
  have h1 : pairTrees keys values env pos ≠ [] := fun he => by
    rw [he] at hn
    exact h0 (List.length_eq_zero_iff.mp hn.symm)
  rw [arm_eval_Dict, zip_pairTrees keys values env pos hall hl, dictDisplay_pairs _ h1 (by omega)]
  exact wpAny_bind (wpAny_standAt (wpAny_bind (wpAny_subDictH (knd := knd) (Q := fun d s' => wpAny (model P w) A (pure (Value.ref d)) Q E s') hu (by omega)
    (wpAny_mono h (fun vs s₁ h₁ => by
      obtain ⟨ps, hc, hm, hq⟩ := h₁
      exact ⟨ps, hc, hm, fun h' tk a b => wpAny_pure (hq h' tk a b)⟩) fun _ _ e => e))))
/-- {k: True}; the new dict stands empty while the pair is made -/
def tNDisp (w : World) (tk tv : TE) : TE := fun σ H Q => ∀ p, H p = none → tk σ (upd H p (NDo w p [])) fun x H1 => tv σ H1 fun y H2 => H2 p = some (NDo w p []) ∧ ∃ b k, x = .ref b ∧ y = .bl true ∧ NKey H2 k b ∧ Q (.ref p) (upd H2 p (NDo w p [(k, b)]))
theorem pe_ndisp {w : World} (hw : X.w = w) {ke ve : Expr} {tk tv : TE} (hu : X.A.units + 64 < cLine) (hk : PE X ke tk) (hv : PE X ve tv) : PE X (.Dict [some ke] [ve] pos) (tNDisp w tk tv) := by
  subst hw
  refine ⟨fun pins s σ H Q I q => ?_⟩
  have hn := I.hok.fresh (Nat.le_refl s.heap.objs.size)
  have I1 := I.laid (a := s.heap.objs.size) (o := NDo X.w s.heap.objs.size []) (h' := s.heap.push { cls := .type "dict", data := .dict #[] }) (t' := s.toks) (fun _ _ q => Heap.get?_push_of_some _ q) (Nat.le_refl _) (nd_empty s.heap I.big)
  refine wpAny_Dict_walkH (knd := nestedKind X.prog X.w) (show X.A.units + 8 < cLine by omega) rfl rfl (fun z => by cases z) (show 1 ≤ 15 by decide) (thn ((pps_cons hk hv pps_nil).run pins _ σ _ (fun ps H2 => match ps with
      | [(x, y)] => H2 s.heap.objs.size = some (NDo X.w s.heap.objs.size []) ∧ ∃ b k, x = .ref b ∧ y = .bl true ∧ NKey H2 k b ∧ Q (.ref s.heap.objs.size) (upd H2 s.heap.objs.size (NDo X.w s.heap.objs.size [(k, b)]))
      | _ => False) I1 (q _ hn)) fun ws s2 hw => ?_)
  obtain ⟨ps, H2, I2, rel, hw⟩ := hw
  cases rel with
  | nil => exact hw.elim
  | @cons p u ps us h1 r =>
    cases r with
    | cons _ _ => exact hw.elim
    | nil =>
      obtain ⟨x, y⟩ := p
      obtain ⟨v1, v2⟩ := u
      obtain ⟨e, b, k, rfl, rfl, kb, q2⟩ := hw
      obtain ⟨r1, r2⟩ := h1
      obtain rfl : v1 = .ref b := r1
      obtain rfl : v2 = .bool true := r2
      obtain ⟨z, hd, dd⟩ := nd_at I2 e (fun _ z => nomatch z)
      refine ⟨[(k, b, .bool true)], ⟨rfl, rfl, ⟨NK.is I2.hok _ _ _ kb.1 rfl, kb.2⟩, True.intro⟩, dd, fun h' tk dd' hs => ⟨.ref s.heap.objs.size, _, ?_, rfl, q2⟩⟩
      have he : ∃ q, h'.get? s.heap.objs.size = some q := let ⟨q, _, _, hq, _⟩ := dd'; ⟨q, hq⟩
      exact d_write I2 (by rw [e]; exact True.intro) hs he (ndo_ok (xs := [(k, b)]) (show 1 ≤ sizeLine by decide) hd dd')
end
end L2.Sl

set_option Elab.async false
set_option linter.all false
set_option maxRecDepth 100000
set_option maxHeartbeats 4000000
namespace L2.Sl
open PySem PySem.Spec PyProof.Rows
/-! ### sorted of data of any depth -/
abbrev srtD (xs : List V) (ds : List PyData) : List (V × PyData) := (xs.zip ds).mergeSort (PySem.W.dataLe false fun b : V × PyData => b.2)
section
variable {K : PySem.W.Frag} {H : Hp}
theorem dpAll_len : ∀ {xs : List V} {ds : List PyData}, DpAll K H xs ds → xs.length = ds.length
  | [], [], _ => rfl
  | _ :: _, _ :: _, .cons _ t => congrArg (· + 1) (dpAll_len t)
theorem zip_snd : ∀ {xs : List V} {ds : List PyData}, xs.length = ds.length → (xs.zip ds).map (fun b : V × PyData => b.2) = ds
  | [], [], _ => rfl
  | [], _ :: _, h => nomatch h
  | _ :: _, [], h => nomatch h
  | x :: xs, d :: ds, h => by
    have ih := zip_snd (xs := xs) (ds := ds) (Nat.succ.inj h)
    simp only [List.zip_cons_cons, List.map_cons, ih]
theorem zip_fst : ∀ {xs : List V} {ds : List PyData}, xs.length = ds.length → (xs.zip ds).map (fun b : V × PyData => b.1) = xs
  | [], [], _ => rfl
  | [], _ :: _, h => nomatch h
  | _ :: _, [], h => nomatch h
  | x :: xs, d :: ds, h => by
    have ih := zip_fst (xs := xs) (ds := ds) (Nat.succ.inj h)
    simp only [List.zip_cons_cons, List.map_cons, ih]
theorem each_rel : ∀ {us : List Value} {bs : List (V × PyData)}, PySem.W.EachIs (fun v (b : V × PyData) => RelV b.1 v) us bs → Vals (bs.map fun b => b.1) us
  | _, _, .nil => .nil
  | _, _, .cons h t => .cons h (each_rel t)
theorem rel_each : ∀ {xs : List V} {ds : List PyData} {us : List Value}, xs.length = ds.length → Vals xs us → PySem.W.EachIs (fun v (b : V × PyData) => RelV b.1 v) us (xs.zip ds)
  | [], [], _, _, r => by
    cases r
    exact .nil
  | [], _ :: _, _, h, _ => nomatch h
  | _ :: _, [], _, h, _ => nomatch h
  | x :: xs, d :: ds, _, h, r => by
    cases r with
    | cons a b => exact .cons a (rel_each (Nat.succ.inj h) b)
end
section
variable {X : Cx} {pins : List (Addr × Obj)} {σ : St} {H : Hp} {s : Shared}
theorem reads_each (I : Inv X pins σ H s) : ∀ {xs : List V} {ds : List PyData} {us : List Value}, DpAll X.K H xs ds → Vals xs us → PySem.W.EachIs (fun v (b : V × PyData) => ∃ as, Reads s.heap v b.2 as) us (xs.zip ds)
  | [], [], _, _, r => by
    cases r
    exact .nil
  | x :: xs, d :: ds, _, .cons h t, r => by
    cases r with
    | cons a b => exact .cons (Dp.reads I d x _ h a) (reads_each I t b)
/-- sorted(xs): items that read as alike data -/
def rSortedDa (K : PySem.W.Frag) : List V → Hp → VK → Prop := fun vs H Q => ∃ (a : Addr) (xs : List V) (ds : List PyData), vs = [.ref a] ∧ SqL K H a xs ∧ DpAll K H xs ds ∧ PySem.W.AllAlike ds ∧ PySem.W.Sortable ds ∧ (∀ d ∈ ds, d.depth ≤ 60) ∧
  ∀ p, H p = none → Q (.ref p) (upd H p (.lst ((srtD xs ds).map fun b => b.1)))
theorem cr_sortedDa (hu : X.A.units + 64 < cLine) : CallR X (.builtin "sorted") (rSortedDa X.K) := by
  intro pins s σ H vs us Q I r h
  obtain ⟨a, xs, ds, rfl, hs, dp, al, so, de, q⟩ := h
  obtain ⟨its, rv, hl, hz⟩ := I.list hs
  obtain ⟨u, rfl, ru⟩ := vals1 r
  obtain rfl : u = Value.ref a := ru
  have le := dpAll_len dp
  have lz : (xs.zip ds).length = xs.length := by rw [List.length_zip, le, Nat.min_self]
  refine PySem.W.sorted_data (bs := xs.zip ds) (enc := fun b : V × PyData => b.2) hl.isList (rel_each le rv) (reads_each I dp rv) (by rw [zip_snd le]; exact al) (by rw [zip_snd le]; exact so) (by rw [lz]; exact hz) (fun b hb => ?_) fun out lo eo => ?_
  · have := de b.2 (by rw [← zip_snd le]; exact List.mem_map.mpr ⟨b, hb, rfl⟩)
    omega
  · obtain ⟨c, hc⟩ := sortedAll_at s.heap its out.toArray
    refine ⟨.ref (s.heap.objs.size + 1), upd H (s.heap.objs.size + 1) (.lst ((srtD xs ds).map fun b => b.1)), I.laid (t' := s.toks) (fun b o e => sortedAll_old e) (Nat.le_succ _) ⟨?_, out, c, each_rel eo, hc⟩, rfl, q _ (I.hok.fresh (Nat.le_succ _))⟩
    rw [List.length_map, List.length_mergeSort, lz]
    exact hz
/-- sorted(d), d a dict of nested keys -/
def rSortedN (w : World) (K : PySem.W.Frag) : List V → Hp → VK → Prop := fun vs H Q => ∃ (a : Addr) (xs : List (NestedKey × Addr)) (ds : List PyData), vs = [.ref a] ∧ H a = some (NDo w a xs) ∧ DpAll K H (xs.map fun x => V.ref x.2) ds ∧ PySem.W.AllAlike ds ∧ PySem.W.Sortable ds ∧ (∀ d ∈ ds, d.depth ≤ 60) ∧
  ∀ p, H p = none → Q (.ref p) (upd H p (.lst ((srtD (xs.map fun x => V.ref x.2) ds).map fun b => b.1)))
theorem refs_at : ∀ {us : List Value} {xs : List (NestedKey × Addr)}, us.length = xs.length → (∀ (j : Nat) (v : Value), us[j]? = some v → ∃ x, xs[j]? = some x ∧ v = .ref x.2) → Vals (xs.map fun x => V.ref x.2) us
  | [], [], _, _ => .nil
  | u :: us, x :: xs, hl, h => by
    obtain ⟨y, e1, e2⟩ := h 0 u rfl
    have e3 : x = y := Option.some.inj e1
    subst e3
    exact .cons e2 (refs_at (Nat.succ.inj hl) fun j v e => h (j + 1) v e)
  | [], _ :: _, hl, _ => nomatch hl
  | _ :: _, [], hl, _ => nomatch hl
theorem cr_sortedN {w : World} (hw : X.w = w) (hcalm : X.calm = true) (hu : X.A.units + 64 < cLine) : CallR X (.builtin "sorted") (rSortedN w X.K) := by
  subst hw
  intro pins s σ H vs us Q I r h
  obtain ⟨a, xs, ds, rfl, e, dp, al, so, de, q⟩ := h
  obtain ⟨u, rfl, ru⟩ := vals1 r
  obtain rfl : u = Value.ref a := ru
  obtain ⟨⟨hz, lo, o, es, ep, h1, h2, h3, h4, h5⟩, _⟩ := I.hok a _ e
  have le := dpAll_len dp
  have esz : es.size = xs.length := by rw [← Array.length_toList, h4, List.length_map]
  have lz : ((xs.map fun x => V.ref x.2).zip ds).length = xs.length := by rw [List.length_zip, ← le, List.length_map, Nat.min_self]
  refine Calls.call_function_entry PyProof.Rows.kind_sorted PyProof.Rows.plain_sorted PyProof.Rows.entry_sorted (PyProof.Rows.args_sorted1 _) ?_
  unfold Builtin.«sorted»
  refine wpAny_bind (m := checkCount "sorted" 1 1 _) (wpAny_pure ?_)
  refine wpAny_bind (PySem.W.kdu_collect (A := X.A.in1) (KdlSrc.rawDict (es := es) (ep := ep) lo) (I.ok.hd hcalm) ⟨o, h1, h2, h3⟩ (by rw [esz]; exact hz) fun h' tk acc hk hacc => ?_)
  have hal : acc.toList.length = xs.length := by rw [Array.length_toList, hacc.1, esz]
  have rv : Vals (xs.map fun x => V.ref x.2) acc.toList := refs_at hal fun j v ev => by
    obtain ⟨hi, rfl⟩ := hacc.2 j v (by rw [← Array.getElem?_toList]; exact ev)
    have hj : j < xs.length := by omega
    refine ⟨xs[j], by simp [hj], ?_⟩
    have z : es.toList[j]? = some es[j] := by rw [Array.getElem?_toList]; simp [hi]
    rw [h4, List.getElem?_map, List.getElem?_eq_getElem hj] at z
    rw [← Option.some.inj z]
  have I1 : Inv X pins σ H { s with heap := h', toks := tk } := I.kept hk
  refine wpAny_bind (wpAny_newList ?_ (by rw [hal]; exact hz))
  have hoL : (h'.push (seqObj "list" acc.toList.toArray 0)).get? h'.objs.size = some (seqObj "list" acc.toList.toArray 0) := Heap.get?_push_size _ rfl
  show wpAny _ _ _ _ _ { s with heap := h'.push (seqObj "list" acc.toList.toArray 0), toks := tk }
  have old : ∀ b o, h'.get? b = some o → b ≠ h'.objs.size ∧ (h'.push (seqObj "list" acc.toList.toArray 0)).get? b = some o := fun b o e => ⟨Nat.ne_of_lt (Heap.lt_size e), Heap.get?_push_of_some _ e⟩
  have er : PySem.W.EachIs (fun v (b : V × PyData) => ∃ as, Reads (PySem.W.sortingHeap (h'.push (seqObj "list" acc.toList.toArray 0)) h'.objs.size acc.toList) v b.2 as) acc.toList ((xs.map fun x => V.ref x.2).zip ds) :=
    (reads_each I1 dp rv).mono fun _ _ ⟨as, r⟩ => ⟨as, PyProof.Rows.Reads.keeps (fun b o e => PySem.W.sortingHeap_old (old b o e).1 (old b o e).2) r⟩
  refine wpAny_bind (wpAny_holding (wpAny_call_entry PyProof.Rows.slot_list_sort ⟨_, hoL, rfl⟩ PyProof.Rows.entry_list_sort
    (PySem.W.list_sort_vals (s := { s with heap := h'.push (seqObj "list" acc.toList.toArray 0), toks := tk }) hoL
      (PySem.W.SortsAt.data (s := { s with heap := PySem.W.sortingHeap (h'.push (seqObj "list" acc.toList.toArray 0)) h'.objs.size acc.toList, toks := tk }) (PySem.W.each_map (R := fun v d => ∃ as, Reads (PySem.W.sortingHeap (h'.push (seqObj "list" acc.toList.toArray 0)) h'.objs.size acc.toList) v d as) (fun b : V × PyData => b.2) er) (by rw [zip_snd (by rw [← le])]; exact al) (by rw [zip_snd (by rw [← le])]; exact so) (fun d hd => ?_)) (by rw [hal]; exact hz) ⟨_, rfl, ?_⟩) (PyProof.Rows.args_list_sort _)))
  · have := de d (by rw [zip_snd (by rw [← le])] at hd; exact hd)
    show X.A.units + 1 + 1 + d.depth < cLine
    omega
  · have eo := PySem.W.sortVals_data (h' := PySem.W.sortingHeap (h'.push (seqObj "list" acc.toList.toArray 0)) h'.objs.size acc.toList) (enc := fun b : V × PyData => b.2) false (rel_each le rv) er (by rw [zip_snd (by rw [← le])]; exact al)
    obtain ⟨c, hc⟩ := PyProof.Rows.sortedHeap_at (vs := acc.toList) (out := (PySem.W.sortVals (PySem.W.dataKind (PySem.W.sortingHeap (h'.push (seqObj "list" acc.toList.toArray 0)) h'.objs.size acc.toList) (((xs.map fun x => V.ref x.2).zip ds).map fun b : V × PyData => b.2)) false acc.toList acc.toList).toArray) hoL
    refine wpAny_pure ⟨_, rfl, .ref h'.objs.size, upd H h'.objs.size (.lst ((srtD (xs.map fun x => V.ref x.2) ds).map fun b => b.1)), I1.laid (t' := tk) (fun b u e => ?_) (Nat.le_refl _) ⟨?_, _, c, each_rel eo, hc⟩, rfl, q _ (I1.hok.fresh (Nat.le_refl _))⟩
    · have hb : b < h'.objs.size := Heap.lt_size e
      rw [PyProof.Rows.sortedHeap_old (Nat.ne_of_lt hb) (by rw [size_push']; exact Nat.lt_succ_of_lt hb)]
      exact Heap.get?_push_of_some _ e
    · rw [List.length_map, List.length_mergeSort, lz]
      exact hz
end
end L2.Sl

set_option Elab.async false
set_option linter.all false
set_option maxRecDepth 100000
set_option maxHeartbeats 8000000
namespace L2.Sl
open PySem PySem.Spec PyProof.Rows
/-- the built-in kinds -/
def kinds7 : List String := ["int", "bool", "str", "NoneType", "tuple", "list", "dict"]
theorem meta7 {a : String} (h : a ∈ kinds7) (s' : Shared) : s'.TypeIs (.type a) "type" := by
  simp only [kinds7, List.mem_cons, List.mem_nil_iff, or_false] at h
  rcases h with rfl | rfl | rfl | rfl | rfl | rfl | rfl
  · exact PySem.TypeEq.meta_int s'
  · exact PySem.TypeEq.meta_bool s'
  · exact PySem.TypeEq.meta_str s'
  · exact PySem.TypeEq.meta_NoneType s'
  · exact PySem.TypeEq.meta_tuple s'
  · exact PySem.TypeEq.meta_list s'
  · exact PySem.TypeEq.meta_dict s'
/-- == of two built-in kinds -/
def rEqTy : R2 := fun x y H Q => ∃ a b, x = .ty a ∧ y = .ty b ∧ a ∈ kinds7 ∧ b ∈ kinds7 ∧ Q (.bl (decide (a = b))) H
theorem op_eqTy {X : Cx} : OpR X (compareOp .Eq) rEqTy := by
  intro pins s σ H x y v u Q I rx ry h
  obtain ⟨a, b, rfl, rfl, ha, hb, q⟩ := h
  cases (show v = Value.type a from rx)
  cases (show u = Value.type b from ry)
  by_cases e : a = b
  · subst e
    exact PySem.TypeEq.eq_type_same (meta7 ha) (fin_bl I q (decide_eq_true rfl))
  · exact PySem.TypeEq.eq_type_other (meta7 ha) (meta7 hb) (beq_eq_false_iff_ne.mpr fun z => e (Value.type.inj z)) (fin_bl I q (decide_eq_false e))
end L2.Sl
/-! != of two built-in kinds -/
namespace TyN
open PySem PySem.TypeEq PySem.Builtin
theorem slot_ne : Slot "type" (cmpInfo .NotEq).2.1 "object.__ne__" :=
  .of (owner := "object") (n := "__ne__") (by rw [typeLookup_type, builtinLookup_eq_fast] <;> kernel_rfl) (by decide +kernel) (by decide +kernel) (by decide +kernel) (Or.inl (by decide +kernel)) (by rw [isSubtype_type] <;> kernel_rfl)
theorem slot_ne2 : Slot "type" (cmpInfo .NotEq).2.2 "object.__ne__" :=
  .of (owner := "object") (n := "__ne__") (by rw [typeLookup_type, builtinLookup_eq_fast] <;> kernel_rfl) (by decide +kernel) (by decide +kernel) (by decide +kernel) (Or.inl (by decide +kernel)) (by rw [isSubtype_type] <;> kernel_rfl)
section
variable {prog : Program} {w : World} {A : Around} {E : Value → Shared → Prop} {s : Shared}
theorem entry_ne {X Y : String} {Q : Fin → Shared → Prop} (hX : ∀ s' : Shared, s'.TypeIs (.type X) "type") (h : Q (.done (.ret (if (Value.type X == Value.type Y) = true then .bool false else .notImplemented))) s) :
    wpAny (model prog w) A (Builtin.«object.__ne__» ⟨[.type X, .type Y], []⟩) Q E s := by
  unfold Builtin.«object.__ne__»
  have key : wpAny (model prog w) A (callSpecialIfBound? (.type X) (Str.ofString "__eq__") [.type Y]) (fun v s' => v = some (if (Value.type X == Value.type Y) = true then .bool true else .notImplemented) ∧ s' = s) E s := by
    refine wpAny_callSpecialIfBound?_slot (hX s) slot_type_eq ?_
    cases e : (Value.type X == Value.type Y) with
    | true => exact call_gives slot_type_eq (hX s) F.entry_object_eq (F.args_object_eq_2 _ _) (object_eq_same rfl e) ⟨rfl, rfl⟩
    | false => exact call_gives slot_type_eq (hX s) F.entry_object_eq (F.args_object_eq_2 _ _) (object_eq_other rfl e) ⟨rfl, rfl⟩
  repeat (first
    | (with_reducible refine wpAny_cRoomFor_or (.inl rfl) ?_)
    | (refine wpAny_bind (m := callSpecialIfBound? (.type X) (Str.ofString "__eq__") [.type Y]) (wpAny_mono key (fun v s' hv => ?_) fun _ _ x => x))
    | wp_step)
  obtain ⟨rfl, rfl⟩ := hv
  cases e : (Value.type X == Value.type Y) with
  | true =>
    rw [e] at h
    show wpAny (model prog w) A (truthy (.bool true) >>= fun c => ret (.bool !c)) Q E s'
    exact wpAny_bind (wpAny_truthy_bool (wpAny_pure h))
  | false =>
    rw [e] at h
    exact wpAny_pure h
/-- the call of the slot -/
theorem call_ne {X Y : String} {Q : Value → Shared → Prop} (hX : ∀ s' : Shared, s'.TypeIs (.type X) "type") {n : Str} (sl : Slot "type" n "object.__ne__") (h : Q (if (Value.type X == Value.type Y) = true then .bool false else .notImplemented) s) :
    wpAny (model prog w) A (call (.builtin "object.__ne__") [.type X, .type Y]) Q E s :=
  wpAny_call_entry sl (hX s) F.cmpEntry_ne (entry_ne hX ⟨_, rfl, h⟩) (F.cmpArgs_ne _ _)
theorem ne_same {X : String} {Q : Value → Shared → Prop} (hX : ∀ s' : Shared, s'.TypeIs (.type X) "type") (h : Q (.bool false) s) : wpAny (model prog w) A (compareOp .NotEq (.type X) (.type X)) Q E s := by
  show wpAny _ A (richCompare .NotEq _ _) Q E s
  refine wpAny_richCompare_same (T := "type") (hX s) (hX s) slot_ne (call_ne hX slot_ne ?_)
  rw [if_pos (beq_self_eq_true (Value.type X))]
  exact ⟨(fun z => by cases z), h⟩
theorem ne_other {X Y : String} {Q : Value → Shared → Prop} (hX : ∀ s' : Shared, s'.TypeIs (.type X) "type") (hY : ∀ s' : Shared, s'.TypeIs (.type Y) "type") (hne : X ≠ Y) (h : Q (.bool true) s) : wpAny (model prog w) A (compareOp .NotEq (.type X) (.type Y)) Q E s := by
  have b1 : (Value.type X == Value.type Y) = false := beq_eq_false_iff_ne.mpr fun z => hne (Value.type.inj z)
  have b2 : (Value.type Y == Value.type X) = false := beq_eq_false_iff_ne.mpr fun z => hne (Value.type.inj z).symm
  have q1 := slot_ne
  have q2 := slot_ne2
  show wpAny _ A (richCompare .NotEq _ _) Q E s
  rcases hi : cmpInfo CmpOp.NotEq with ⟨sym, f, r⟩
  rw [hi] at q1 q2
  simp only [richCompare, hi, (hX s).oneThing_none]
  refine wpAny_holding ?_
  refine wpAny_bind (wpAny_cRoomFor_or (.inl rfl) (wpAny_bind (wpAny_typeOf (hX s) (wpAny_bind (wpAny_typeOf (hY s) ?_)))))
  simp only [bne_self_eq_false, Bool.false_eq_true, if_false, pure_bind, Bool.not_false, if_true]
  refine wpAny_bind (wpAny_tryCompare_declines (hX s) q1 (call_ne hX q1 ?_))
  rw [if_neg (by rw [b1]; exact Bool.false_ne_true)]
  refine ⟨rfl, wpAny_bind (wpAny_tryCompare_declines (hY s) q2 (call_ne hY q2 ?_))⟩
  rw [if_neg (by rw [b2]; exact Bool.false_ne_true)]
  refine ⟨rfl, ?_⟩
  have sm : isSame (.type X) (.type Y) = pure false := by rw [isSame_plain (a := .type X) (b := .type Y) rfl, b1]
  exact wpAny_bind (wpAny_rule (wpAny_bind (wpAny_of_eq sm (wpAny_pure h))))
end
end TyN
namespace L2.Sl
open PySem PySem.Spec PyProof.Rows
/-- != of two built-in kinds -/
def rNeTy : R2 := fun x y H Q => ∃ a b, x = .ty a ∧ y = .ty b ∧ a ∈ kinds7 ∧ b ∈ kinds7 ∧ Q (.bl (!decide (a = b))) H
theorem op_neTy {X : Cx} : OpR X (compareOp .NotEq) rNeTy := by
  intro pins s σ H x y v u Q I rx ry h
  obtain ⟨a, b, rfl, rfl, ha, hb, q⟩ := h
  cases (show v = Value.type a from rx)
  cases (show u = Value.type b from ry)
  by_cases e : a = b
  · subst e
    exact TyN.ne_same (meta7 ha) (fin_bl I q (by rw [decide_eq_true rfl] <;> rfl))
  · exact TyN.ne_other (meta7 ha) (meta7 hb) e (fin_bl I q (by rw [decide_eq_false e] <;> rfl))


/-- a thing of a built-in kind, whatever stands in it -/
inductive Kd (H : Hp) : V → Prop
  | non : Kd H .non
  | bl (b : Bool) : Kd H (.bl b)
  | int (i : Int) : Kd H (.int i)
  | str (x : Str) : Kd H (.str x)
  | tup {p : Addr} {xs : List V} : H p = some (.tup xs) → Kd H (.ref p)
  | lst {p : Addr} {xs : List V} : H p = some (.lst xs) → Kd H (.ref p)
  | dct {p : Addr} {l : List (Key × V)} : H p = some (.dK l) → Kd H (.ref p)
theorem Kd.same {H H2 : Hp} {v : V} (s : Same H H2) (h : Kd H v) : Kd H2 v := by
  cases h with
  | non => exact .non
  | bl b => exact .bl b
  | int i => exact .int i
  | str x => exact .str x
  | tup e => exact .tup (s _ _ e)
  | lst e => exact .lst (s _ _ e)
  | dct e => exact .dct (s _ _ e)
def isIV : V → Bool
  | .int _ => true
  | _ => false
/-- no tuple -/
def NoT (H : Hp) (v : V) : Prop := ∀ p xs, v = .ref p → H p ≠ some (.tup xs)
theorem Kd.ty {K : PySem.W.Frag} {H : Hp} {v : V} (h : Kd H v) : ∃ T, TyB K H v T ∧ T ∈ kinds7 ∧ decide (T = "int") = isIV v ∧ ((decide (T = "tuple") = true ∧ ∃ p xs, v = .ref p ∧ H p = some (.tup xs)) ∨ (decide (T = "tuple") = false ∧ NoT H v)) := by
  cases h with
  | non => exact ⟨_, .non, by decide +kernel, (by decide +kernel : decide ("NoneType" = "int") = false), .inr ⟨(by decide +kernel : decide ("NoneType" = "tuple") = false), fun _ _ z => nomatch z⟩⟩
  | bl b => exact ⟨_, .bl b, by decide +kernel, (by decide +kernel : decide ("bool" = "int") = false), .inr ⟨(by decide +kernel : decide ("bool" = "tuple") = false), fun _ _ z => nomatch z⟩⟩
  | int i => exact ⟨_, .int i, by decide +kernel, (by decide +kernel : decide ("int" = "int") = true), .inr ⟨(by decide +kernel : decide ("int" = "tuple") = false), fun _ _ z => nomatch z⟩⟩
  | str x => exact ⟨_, .str x, by decide +kernel, (by decide +kernel : decide ("str" = "int") = false), .inr ⟨(by decide +kernel : decide ("str" = "tuple") = false), fun _ _ z => nomatch z⟩⟩
  | tup e => exact ⟨_, .tup (SqT.of e), by decide +kernel, (by decide +kernel : decide ("tuple" = "int") = false), .inl ⟨(by decide +kernel : decide ("tuple" = "tuple") = true), _, _, rfl, e⟩⟩
  | lst e => exact ⟨_, .lst (SqL.of e), by decide +kernel, (by decide +kernel : decide ("list" = "int") = false), .inr ⟨(by decide +kernel : decide ("list" = "tuple") = false), fun _ _ z y => by cases z; rw [e] at y; cases y⟩⟩
  | dct e => exact ⟨_, .dK e, by decide +kernel, (by decide +kernel : decide ("dict" = "int") = false), .inr ⟨(by decide +kernel : decide ("dict" = "tuple") = false), fun _ _ z y => by cases z; rw [e] at y; cases y⟩⟩
abbrev alphS : Str := "abcdefghijklmnopqrstuvwxyz"
/-- a sign that stands in the small letters -/
def hit (c : Nat) : Bool := !(Builtin.Str.occurrences alphS ⟨#[c]⟩ 0 alphS.length 1).isEmpty
def isNm (z : Str) : Bool := decide (0 < z.length) && (decide (z.length < 9) && z.cps.toList.all hit)
def nameOf : V → Bool
  | .str z => isNm z
  | _ => false
def isS : V → Bool
  | .str _ => true
  | _ => false
def wholeOf (lo hi : Int) : V → Bool
  | .int i => decide (lo ≤ i) && decide (i ≤ hi)
  | _ => false
theorem Kd.tyS {K : PySem.W.Frag} {H : Hp} {v : V} (h : Kd H v) : ∃ T, TyB K H v T ∧ T ∈ kinds7 ∧ decide (T = "str") = isS v := by
  cases h with
  | non => exact ⟨_, .non, by decide +kernel, (by decide +kernel : decide ("NoneType" = "str") = false)⟩
  | bl b => exact ⟨_, .bl b, by decide +kernel, (by decide +kernel : decide ("bool" = "str") = false)⟩
  | int i => exact ⟨_, .int i, by decide +kernel, (by decide +kernel : decide ("int" = "str") = false)⟩
  | str x => exact ⟨_, .str x, by decide +kernel, (by decide +kernel : decide ("str" = "str") = true)⟩
  | tup e => exact ⟨_, .tup (SqT.of e), by decide +kernel, (by decide +kernel : decide ("tuple" = "str") = false)⟩
  | lst e => exact ⟨_, .lst (SqL.of e), by decide +kernel, (by decide +kernel : decide ("list" = "str") = false)⟩
  | dct e => exact ⟨_, .dK e, by decide +kernel, (by decide +kernel : decide ("dict" = "str") = false)⟩
end L2.Sl

set_option Elab.async false
set_option linter.all false
set_option maxRecDepth 100000
set_option maxHeartbeats 4000000
namespace HT
open PySem PySem.Spec PyProof.Rows PySem.Calls
section
variable {prog : Program} {w : World} {A : Around} {E : Value → Shared → Prop} {s : Shared}
theorem adjust_rev (n : Nat) : Builtin.Slice.sliceAdjust none none (-1) (n : Int) = ((n : Int) - 1, -1) := by
  unfold Builtin.Slice.sliceAdjust
  first
    | rfl
    | simp
theorem places_rev (n : Nat) : Builtin.Slice.slicePlaces ((n : Int) - 1) (-1) (-1) = n := by
  unfold Builtin.Slice.slicePlaces
  have h1 : ¬ ((-1 : Int) > 0) := by decide
  have e2 : (- -1 : Int) = 1 := by decide
  simp only [h1, if_false, e2, Int.ediv_one]
  split <;> omega
theorem sliceApplied_rev {sl : Addr} {vl vu vs : Value} {n : Nat} {Q : Int × Int × Nat → Shared → Prop} (hs : s.heap.IsSliceOf sl vl vu vs) (pl : IsPart vl none) (pu : IsPart vu none) (ps : IsPart vs (some (-1)))
    (h : Q ((n : Int) - 1, -1, n) s) : wpAny (model prog w) A (Builtin.Slice.sliceApplied (.ref sl) (pure (n : Int))) Q E s := by
  obtain ⟨os, hos, hcs, hds⟩ := id hs
  unfold Builtin.Slice.sliceApplied Builtin.Slice.sliceFields
  refine wpAny_bind (wpAny_bind (wpAny_field hos hds (x := vl) rfl (wpAny_bind (wpAny_field hos hds (x := vu) rfl (wpAny_bind (wpAny_field hos hds (x := vs) rfl (wpAny_pure ?_)))))))
  refine wpAny_bind (slicePart_ ps ?_)
  show wpAny _ _ (if ((-1 : Int) == 0) = true then _ else _) _ _ s
  rw [if_neg (by decide)]
  refine wpAny_bind (slicePart_ pl (wpAny_bind (slicePart_ pu (wpAny_bind (wpAny_pure ?_)))))
  show wpAny _ _ (match Builtin.Slice.sliceAdjust none none (-1) (n : Int) with | (lo, hi) => pure (lo, (-1 : Int), Builtin.Slice.slicePlaces lo hi (-1))) _ _ s
  rw [adjust_rev n]
  show wpAny _ _ (pure ((n : Int) - 1, (-1 : Int), Builtin.Slice.slicePlaces ((n : Int) - 1) (-1) (-1))) _ _ s
  rw [places_rev]
  exact wpAny_pure h
theorem fm_congr {α β : Type} {f g : α → Option β} : ∀ {l : List α}, (∀ x ∈ l, f x = g x) → l.filterMap f = l.filterMap g
  | [], _ => rfl
  | x :: l, h => by
    rw [List.filterMap_cons, List.filterMap_cons, h x List.mem_cons_self, fm_congr fun y hy => h y (List.mem_cons_of_mem _ hy)]
theorem pick_rev (xs : Array Value) : ((List.range xs.size).filterMap fun (m : Nat) => xs[((xs.size : Int) - 1 + (m : Int) * -1).toNat]?).toArray = xs.toList.reverse.toArray := by
  have e : ((List.range xs.size).filterMap fun (m : Nat) => xs[((xs.size : Int) - 1 + (m : Int) * -1).toNat]?) = ((List.range xs.size).map fun k => xs.size - 1 - k).filterMap (xs[·]?) := by
    rw [List.filterMap_map]
    refine fm_congr fun m hm => ?_
    have := List.mem_range.mp hm
    show xs[((xs.size : Int) - 1 + (m : Int) * -1).toNat]? = xs[xs.size - 1 - m]?
    rw [show ((xs.size : Int) - 1 + (m : Int) * -1).toNat = xs.size - 1 - m by omega]
  rw [e, PySem.W.krv_range, List.filterMap_reverse, PySem.W.krv_all]
theorem getItem_tuple_rev {t sl : Addr} {items : Array Value} {vl vu vs : Value} {Q : Value → Shared → Prop} (ht : IsTup s.heap t items) (hs : s.heap.IsSliceOf sl vl vu vs) (pl : IsPart vl none) (pu : IsPart vu none) (ps : IsPart vs (some (-1)))
    (h : Q (.ref s.heap.objs.size) { s with heap := s.heap.push { cls := .type "tuple", data := .seq items.toList.reverse.toArray } })
    (hsz : items.size ≤ sizeLine) : wpAny (model prog w) A (getItem (.ref t) (.ref sl)) Q E s := by
  have htake : sizeOk (.seq items.toList.reverse.toArray) := by
    show items.toList.reverse.toArray.size ≤ sizeLine
    rw [List.size_toArray, List.length_reverse, Array.length_toList]
    exact hsz
  obtain ⟨os, hos, hcs, hds⟩ := id hs
  have hTs : s.TypeIs (.ref sl) "slice" := ⟨os, hos, hcs⟩
  unfold getItem
  try with_reducible refine wpAny_holding ?_
  first | refine wpAny_bind (wpAny_pure ?_) | skip
  refine wpAny_bind (wpAny_sequenceKey ht.typeIs (by decide) ?_)
  refine wpAny_bind (wpAny_callSpecial?_slot (name := Str.ofString "__getitem__") ht.typeIs PyProof.Rows.slot_tuple_getitem
    (wpAny_call_entry PyProof.Rows.slot_tuple_getitem ht.typeIs entry_tuple_getitem ?_ (args_tuple_getitem _ _)))
  show wpAny _ _ (Builtin.Tuple.tupleItemsOf (.ref t) >>= _) _ _ s
  refine wpAny_bind (tupleItemsOf_ ht ?_)
  refine wpAny_bind (wpAny_typeOf hTs ?_)
  rw [if_pos (by decide)]
  refine wpAny_bind (sliceApplied_rev hs pl pu ps ?_)
  have hno : ¬ (((items.size : Int) - 1 == 0 && (-1 : Int) == 1 && items.size == items.size) = true) := by
    intro q
    rw [Bool.and_eq_true, Bool.and_eq_true] at q
    exact absurd q.1.2 (by decide)
  show wpAny _ _ (if ((items.size : Int) - 1 == 0 && (-1 : Int) == 1 && items.size == items.size) = true then _ else _) _ _ s
  rw [if_neg hno, pick_rev]
  first
    | exact wpAny_bind (m := Builtin.Tuple.tupleExact _) (wpAny_newObj_type (wpAny_pure ⟨_, rfl, wpAny_pure h⟩) htake)
    | exact wpAny_bind (m := Builtin.Tuple.tupleExact _) (wpAny_newObj_type (wpAny_bind (wpAny_pure (wpAny_pure ⟨_, rfl, wpAny_pure h⟩))) htake)
    | exact wpAny_bind (wpAny_bind (m := Builtin.Tuple.tupleExact _) (wpAny_newObj_type (wpAny_pure (wpAny_pure ⟨_, rfl, wpAny_pure h⟩)) htake))
    | exact wpAny_bind (wpAny_bind (m := Builtin.Tuple.tupleExact _) (wpAny_newObj_type (wpAny_pure ⟨_, rfl, wpAny_pure h⟩) htake))
end
end HT
namespace L2.Sl
open PySem PySem.Spec PyProof.Rows
/-- t[::-1] of a tuple -/
def tRevT (K : PySem.W.Frag) (te : TE) : TE := fun σ H Q => te σ H fun x H1 => ∃ a xs, x = .ref a ∧ SqT K H1 a xs ∧ ∀ p, H1 p = none → Q (.ref p) (upd H1 p (.tup xs.reverse))
theorem pe_revT {X : Cx} {e : Expr} {te : TE} {k : Nat} {p1 p2 p3 pos : Pos} (he : PE X e te) : PE X (.Subscript e (.Slice none none (some (.UnaryOp .USub (.Constant (.int 1) k p1) p2)) p3) pos) (tRevT X.K te) := by
  refine ⟨fun pins s σ H Q I h => ?_⟩
  refine Subscript_ (thn (he.run pins s σ H _ I h) fun v s1 ⟨x, H1, I1, r1, q1⟩ => ?_)
  obtain ⟨a, xs, ex, hx, q⟩ := q1
  subst ex
  cases r1
  have hst : PO X (some (.UnaryOp .USub (.Constant (.int 1) k p1) p2)) (tPart (tUn (rU fun i => .int (-i)) (tC (.int 1)))) := po_some (pe_un un_neg pe_int)
  refine wpAny_Slice (thn (po_none.run pins s1 σ H1 (fun o H2 => o = none ∧ H2 = H1) I1 ⟨rfl, rfl⟩) fun vl s2 ⟨l, H2, I2, pl, el, e2⟩ => ?_)
  subst el e2
  refine thn (po_none.run pins s2 σ H2 (fun o H3 => o = none ∧ H3 = H2) I2 ⟨rfl, rfl⟩) fun vu s3 ⟨u, H3, I3, pu, eu, e3⟩ => ?_
  subst eu e3
  refine thn (hst.run pins s3 σ H3 (fun o H4 => o = some (-1) ∧ H4 = H3) I3 ⟨1, rfl, -1, rfl, rfl, rfl⟩) fun vs s4 ⟨o, H4, I4, ps, eo, e4⟩ => ?_
  subst eo e4
  have I5 : Inv X pins σ H4 { s4 with heap := s4.heap.push { cls := .type "slice", data := .fields #[vl, vu, vs] } } := I4.kept (t' := s4.toks) fun b ob q => Heap.get?_push_of_some _ q
  obtain ⟨its, r, ht, hz⟩ := I5.tuple hx
  have hlen := r.length
  show wpAny (model X.prog X.w) X.A (subscriptTail e (.Slice none none (some (.UnaryOp .USub (.Constant (.int 1) k p1) p2)) p3) (.ref a) (.ref s4.heap.objs.size)) (EP X pins σ Q) X.xe { s4 with heap := s4.heap.push { cls := .type "slice", data := .fields #[vl, vu, vs] } }
  refine tail_any (ops := [.ref a, .ref s4.heap.objs.size]) ht.typeIs (PyProof.Rows.slot_tuple_getitem.lookup) ?_ (by with_unfolding_all rfl)
  refine HT.getItem_tuple_rev ht (Heap.IsSliceOf.new _ vl vu vs) pl pu ps ?_ (by rw [List.size_toArray]; omega)
  refine ⟨.ref _, _, I5.laid (t' := s4.toks) (o := .tup xs.reverse) (fun b ob q => Heap.get?_push_of_some _ q) (Nat.le_refl _) ?_, rfl, q _ (I5.hok.fresh (Nat.le_refl _))⟩
  exact ⟨by rw [List.length_reverse]; exact hz, its.reverse, by simpa using r.reverse, IsTup.new _ _⟩
end L2.Sl

set_option Elab.async false
set_option linter.all false
set_option maxRecDepth 100000
set_option maxHeartbeats 4000000
namespace PyProof.Rows
open PySem
section
variable {prog : Program} {w : World} {A : Around} {E : Value → Shared → Prop} {s : Shared}
theorem collect_tup {l : Addr} {vs : List Value} {Q : List Value → Shared → Prop} (hl : IsTup s.heap l vs.toArray)
    (h : Q vs { s with heap := (s.heap.push (seqObj "list" #[] 0)).update s.heap.objs.size (Obj.mapSeq (· ++ vs.toArray)) }) (hsz : vs.length ≤ sizeLine) :
    wpAny (model prog w) A (collect (.ref l)) Q E s := by
  obtain ⟨o, ho, hc, n, hd⟩ := id hl
  unfold collect
  refine wpAny_bind (wpAny_runValue (codeAny_builtin entry_proto_collect' ?_))
  show wpAny _ _ (do again (.builtin "list.__iadd__" ⟨[← newList [], .ref l], []⟩)) _ _ s
  refine wpAny_bind (wpAny_newList (wpAny_pure ⟨Code.quiet_builtin _ (by decide +kernel), codeAny_builtin entry_list_iadd' ?_⟩))
  show wpAny _ _ (Builtin.List.listExtendWith (.ref s.heap.objs.size) (.ref l) (.ref s.heap.objs.size)) _ _ { s with heap := s.heap.push (seqObj "list" #[] 0) }
  unfold Builtin.List.listExtendWith
  have ho' : (s.heap.push (seqObj "list" #[] 0)).get? l = some o := Heap.get?_push_of_some _ ho
  refine wpAny_bind (wpAny_typeOf (T := "tuple") ⟨o, ho', hc⟩ ?_)
  have ht : (Value.type "tuple" == Value.type "tuple") = true := by rfl
  rw [if_pos (by rw [ht]; simp)]
  refine wpAny_bind (listItems_at ho' hd ?_)
  refine wpAny_bind (listItems_at (xs := #[]) (n := 0) (Heap.get?_push_size _ rfl) rfl ?_)
  rw [if_neg (by simp)]
  refine wpAny_bind (listUpdate_at (xs := #[]) (n := 0) (Heap.get?_push_size _ rfl) rfl ?_ (Nat.zero_le _) (by show (#[] ++ vs.toArray).size ≤ sizeLine + 1; simp only [Array.size_append, List.size_toArray, List.length_nil]; omega))
  refine wpAny_pure ?_
  show wpAny (model prog w) A (do
      let o ← load s.heap.objs.size
      match o.data with
      | .seq xs _ => pure xs.toList
      | _ => unsupported "internal:collect") Q E { s with heap := (s.heap.push (seqObj "list" #[] 0)).update s.heap.objs.size (Obj.mapSeq (· ++ vs.toArray)) }
  refine wpAny_bind (wpAny_load (get?_update_seq (Heap.get?_push_size _ rfl) _) ?_)
  show wpAny _ _ (pure ((#[] : Array Value) ++ vs.toArray).toList) Q E _
  rw [show ((#[] : Array Value) ++ vs.toArray).toList = vs by simp]
  exact wpAny_pure h
end
end PyProof.Rows
namespace SrtO
open PySem PyProof.Rows Srt
section
variable {prog : Program} {w : World} {A : Around} {E : Value → Shared → Prop} {s : Shared}
theorem sortedT_ord {l : Addr} {vs : List Value} {ltv : Value → Value → Bool} {Q : Value → Shared → Prop} (O : Swo ltv) (hl : IsTup s.heap l vs.toArray) (hz : vs.length ≤ sizeLine)
    (hS : 2 ≤ vs.length → ∀ (h₁ : Heap) (a : Addr), h₁.get? a = some (seqObj "list" vs.toArray 0) → (∀ b o, s.heap.get? b = some o → b ≠ a ∧ h₁.get? b = some o) → SortableO prog w A.in1.in1 { s with heap := h₁ } a vs ltv)
    (h : ∀ out : List Value, Srtd ltv out → Stb ltv out vs → Q (.ref (s.heap.objs.size + 1)) { s with heap := sortedAll s.heap vs out.toArray }) :
    wpAny (model prog w) A (call (.builtin "sorted") [.ref l]) Q E s := by
  refine Calls.call_function_entry kind_sorted plain_sorted entry_sorted (args_sorted1 _) ?_
  unfold Builtin.«sorted»
  refine wpAny_bind (m := checkCount "sorted" 1 1 _) (wpAny_pure ?_)
  refine wpAny_bind (collect_tup hl ?_ hz)
  refine wpAny_bind (wpAny_newList ?_ hz)
  have hsz : ((s.heap.push (seqObj "list" #[] 0)).update s.heap.objs.size (Obj.mapSeq (· ++ vs.toArray))).objs.size = s.heap.objs.size + 1 := by
    rw [Heap.size_update, size_push']
  have hoL : (((s.heap.push (seqObj "list" #[] 0)).update s.heap.objs.size (Obj.mapSeq (· ++ vs.toArray))).push (seqObj "list" vs.toArray 0)).get? (s.heap.objs.size + 1) = some (seqObj "list" vs.toArray 0) := by
    rw [← hsz]; exact Heap.get?_push_size _ rfl
  have keep : ∀ b o, s.heap.get? b = some o → b ≠ s.heap.objs.size + 1 ∧ (((s.heap.push (seqObj "list" #[] 0)).update s.heap.objs.size (Obj.mapSeq (· ++ vs.toArray))).push (seqObj "list" vs.toArray 0)).get? b = some o := fun b o q => by
    have hlt : b < s.heap.objs.size := Heap.lt_size q
    refine ⟨Nat.ne_of_lt (Nat.lt_succ_of_lt hlt), Heap.get?_push_of_some _ ?_⟩
    rw [Heap.get?_update_ne _ _ _ _ (Nat.ne_of_lt hlt)]
    exact Heap.get?_push_of_some _ q
  show wpAny _ _ _ _ _ { s with heap := ((s.heap.push (seqObj "list" #[] 0)).update s.heap.objs.size (Obj.mapSeq (· ++ vs.toArray))).push (seqObj "list" vs.toArray 0) }
  rw [hsz]
  refine wpAny_bind (wpAny_holding (wpAny_call_entry slot_list_sort ⟨_, hoL, rfl⟩ entry_list_sort (list_sort_ord O hoL hz (fun h2 => hS h2 _ _ hoL keep) fun out hs hb => ⟨_, rfl, ?_⟩) (args_list_sort _)))
  exact wpAny_pure ⟨_, rfl, h out hs hb⟩
end
end SrtO
namespace L2.Sl
open PySem PySem.Spec PyProof.Rows
/-- sorted(t), a tuple of ints -/
def rSortedIT (K : PySem.W.Frag) : List V → Hp → VK → Prop := fun vs H Q => ∃ (a : Addr) (ns : List Int), vs = [V.ref a] ∧ SqT K H a (ns.map V.int) ∧
  ∀ (ns' : List Int) (p : Addr), ns'.Perm ns → ns'.Pairwise (· ≤ ·) → H p = none → Q (.ref p) (upd H p (.lst (ns'.map V.int)))
theorem cr_sortedIT {X : Cx} : CallR X (.builtin "sorted") (rSortedIT X.K) := by
  intro pins s σ H vs us Q I r h
  obtain ⟨a, ns, rfl, hs, q⟩ := h
  obtain ⟨its, rv, hl, hz⟩ := I.tuple hs
  rw [Vals.ref1 r]
  have hi := rv.ints
  refine SrtO.sortedT_ord SrtO.swo_int hl (by rw [← rv.length]; exact hz) (fun h2 h₁ a' _ _ => SrtO.ints_sortable hi h2) fun out h1 h2 => ?_
  obtain ⟨k1, k2, k3⟩ := SrtO.ints_out hi h1 h2
  obtain ⟨ep, he'⟩ := PyProof.Rows.sortedAll_at s.heap its out.toArray
  have hlen : ((out.map SrtO.iv).map V.int).length ≤ sizeLine := by
    rw [List.length_map, k2.length_eq]
    rw [List.length_map] at hz
    exact hz
  exact ⟨.ref _, upd H (s.heap.objs.size + 1) (.lst ((out.map SrtO.iv).map V.int)), I.laid (t' := s.toks) (fun _ _ => PyProof.Rows.sortedAll_old) (Nat.le_succ _) ⟨hlen, out, ep, vals_of_ints k1, he'⟩, rfl, q _ _ k2 k3 (I.hok.fresh (Nat.le_succ _))⟩
end L2.Sl

set_option Elab.async false
set_option linter.all false
set_option maxRecDepth 100000
set_option maxHeartbeats 4000000
/-! lambdas with one parameter that has a default, a whole number: lambda k=0: .. -/
namespace L2.Ld
open PySem PySem.Spec PyProof.Rows L2 LamX
/-- its one own name is the parameter -/
structure ScD (sc scope : Scope) (kn : Str) : Prop where
  kind : scope.kind = .function
  co : scope.isCoroutine = false
  gen : scope.isGenerator = false
  own : ∀ y ∈ scope.names, y.2 ≠ .cell ∧ (y.2 = .local → y.1 = kn)
  free : ∀ y ∈ scope.names, y.2 = .free → sc.names.lookup y.1 = some .cell ∨ sc.names.lookup y.1 = some .free
  par : scope.names.lookup kn = some .local
def scDB (sc scope : Scope) (kn : Str) : Bool :=
  decide (scope.kind = .function) && (!scope.isCoroutine && (!scope.isGenerator && (decide (scope.names.lookup kn = some .local) && scope.names.all fun y => !decide (y.2 = .cell) && ((!decide (y.2 = .local) || decide (y.1 = kn)) && (!decide (y.2 = .free) || (decide (sc.names.lookup y.1 = some .cell) || decide (sc.names.lookup y.1 = some .free)))))))
theorem scD_by {sc scope : Scope} {kn : Str} (h : scDB sc scope kn = true) : ScD sc scope kn := by
  unfold scDB at h
  simp only [Bool.and_eq_true, Bool.or_eq_true, Bool.not_eq_true', decide_eq_true_eq, decide_eq_false_iff_not, List.all_eq_true] at h
  obtain ⟨h1, h2, h3, h5, h4⟩ := h
  refine ⟨h1, h2, h3, fun y hy => ⟨(h4 y hy).1, fun e => ?_⟩, fun y hy e => ?_, h5⟩
  · exact (h4 y hy).2.1.resolve_left fun n => n e
  · exact (h4 y hy).2.2.resolve_left fun n => n e
/-- the maker's names, the parameter's hidden -/
def hideN (N : List Str) (kn : Str) : List Str := N.map fun x => if x = kn then ("<>" : Str) else x
def cxD (X : Cx) (A : Around) (outer : List Env) (s : Shared) (H : Hp) (E : XK) (scope : Scope) (f c' : Addr) (kn : Str) : Cx := { lamCx X A outer s H E scope f c' with N := hideN X.N kn }
section
variable {X : Cx} {pins : List (Addr × Obj)} {σ : L2.St} {H HZ : Hp} {s s1 : Shared}
theorem has_free {scope : Scope} {kn : Str} (L : ScD X.env.scope scope kn) (ok : X.Ok) : ∀ y ∈ scope.names, y.2 = .free → ∃ c, X.env.cells.lookup y.1 = some c := fun y hy e => by
  rcases L.free y hy e with k | k
  · exact ok.has _ (.inl k)
  · exact ok.has _ (.inr k)
theorem hide_at {N : List Str} {kn y : Str} {i : Nat} (ne : y ≠ kn) (n0 : y ≠ ("<>" : Str)) (e : (hideN N kn)[i]? = some y) : N[i]? = some y := by
  unfold hideN at e
  rw [List.getElem?_map] at e
  cases h : N[i]? with
  | none =>
    rw [h] at e
    cases e
  | some x =>
    rw [h] at e
    have e : (if x = kn then ("<>" : Str) else x) = y := Option.some.inj e
    by_cases c : x = kn
    · rw [if_pos c] at e
      exact absurd e.symm n0
    · rw [if_neg c] at e
      rw [e]
/-- the body's start -/
theorem start {A : Around} {outer : List Env} {E : XK} {scope : Scope} {f c' : Addr} {h₁ : Heap} {tk : Nat} {kn : Str} {v : Value} (I : Inv X pins σ H s) (L : ScD X.env.scope scope kn) (n0 : ∀ y ∈ scope.names, y.1 ≠ ("<>" : Str)) (e0 : Env0 X.prog X.w X.K X.mg X.base A outer s1 HZ) (hd : A.handled = none)
    (un : Un (frs X.stack) [] H HZ s.heap s1.heap) (hns : h₁.Ns s1.heap.objs.size fun y => ([(kn, v)] : List (Str × Value)).reverse.lookup y) (kp : ∀ b o, s1.heap.get? b = some o → h₁.get? b = some o) :
    Inv (cxD X A outer s1 HZ E scope f c' kn) [] σ HZ { s1 with heap := h₁, toks := tk } := by
  have hfree := has_free L I.ok
  have up : ∀ {y c}, (cloFrom X.env.cells scope.names []).lookup y = some c → X.env.cells.lookup y = some c := fun {y c} e => by
    rcases cloFrom_mem (PySem.mem_of_lookup e) with hm | ⟨h1, h2⟩
    · cases hm
    · obtain ⟨c1, hc⟩ := hfree _ h1 rfl
      have hc : X.env.cells.lookup y = some c1 := hc
      have e2 : c = c1 := by
        rw [h2, hc] <;> rfl
      rw [e2]
      exact hc
  have down : ∀ {y}, scope.names.lookup y = some .free → ∃ c, (cloFrom X.env.cells scope.names []).lookup y = some c := fun {y} hl => by
    have hy : (y, NameKind.free) ∈ scope.names := PySem.mem_of_lookup hl
    exact mem_lookup (cloFrom_has (cells := X.env.cells) (acc := []) hy)
  have cellK : ∀ {c : Addr} {u : Option Value}, H c = none → s.heap.IsCell c u → h₁.IsCell c u := fun {c u} n ⟨o, ho, hd⟩ => by
    obtain ⟨sl, q⟩ := un.any ho n (by simp)
    exact ⟨_, kp _ _ q, hd⟩
  have noA : ∀ b : Addr, b ∉ (cxD X A outer s1 HZ E scope f c' kn).ex := fun b z => absurd (show b ∈ ([] : List Addr) from z) (by simp)
  refine ⟨⟨e0.mod, L.kind, rfl, rfl, Nat.le_refl _, fun y z c e1 e2 => I.ok.inj y z c (up e1) (up e2), fun y hy => ?_, fun y c z _ => ?_, fun _ => hd, Around.frames_deeper e0.frames, .inr ⟨rfl, rfl⟩, fun b z => absurd z (noA b), e0.bs, e0.bsz, fun b _ _ => noA b,
      fun b z => absurd z (noA b), e0.funs, e0.frf⟩,
    rfl, e0.bare, Un.kept kp, ⟨_, hns, fun i y u e1 e2 e3 => ?_⟩, fun y c e => ?_, e0.hok.fresh (Nat.le_refl _), fun y c e => ?_, fun q hq => absurd (show q ∈ ([] : List (Addr × Obj)) ++ [] from hq) (by simp), e0.hok.kept kp, ?_⟩
  · have hy : scope.names.lookup y = some .cell ∨ scope.names.lookup y = some .free := hy
    rcases hy with hy | hy
    · exact absurd rfl (L.own _ (PySem.mem_of_lookup hy)).1
    · exact down hy
  · have z : false = true := z
    cases z
  · have e3 : Vis scope y := e3
    have e1 : (hideN X.N kn)[i]? = some y := e1
    have ym : ∃ kd, (y, kd) ∈ scope.names := by
      rcases e3 with k | k | k
      · exact ⟨_, PySem.mem_of_lookup k⟩
      · exact ⟨_, PySem.mem_of_lookup k⟩
      · exact ⟨_, PySem.mem_of_lookup k⟩
    have y0 : y ≠ ("<>" : Str) := by
      obtain ⟨kd, h⟩ := ym
      exact n0 _ h
    have hid : y ≠ kn := fun z => by
      unfold hideN at e1
      rw [List.getElem?_map] at e1
      cases h : X.N[i]? with
      | none =>
        rw [h] at e1
        cases e1
      | some x =>
        rw [h] at e1
        have e1 : (if x = kn then ("<>" : Str) else x) = y := Option.some.inj e1
        by_cases c : x = kn
        · rw [if_pos c] at e1
          exact y0 e1.symm
        · rw [if_neg c] at e1
          exact c (e1.trans z)
    have e1 := hide_at hid y0 e1
    rcases e3 with k | k | k
    · exact absurd ((L.own _ (PySem.mem_of_lookup k)).2 rfl) hid
    · exact absurd rfl (L.own _ (PySem.mem_of_lookup k)).1
    · obtain ⟨m, hn, hl⟩ := I.loc
      have hvis : Vis X.env.scope y := (L.free _ (PySem.mem_of_lookup k) rfl).elim (fun k => .inr (.inl k)) (fun k => .inr (.inr k))
      obtain ⟨w', r, q⟩ := hl i y u e1 e2 hvis
      obtain ⟨c2, h2⟩ := down k
      refine ⟨w', r, .inr ⟨.inr k, c2, h2, ?_⟩⟩
      have c1 := up h2
      rcases q with ⟨k', _⟩ | ⟨_, c3, e', z⟩
      · have k' : X.env.scope.names.lookup y = some .local := k'
        rcases L.free _ (PySem.mem_of_lookup k) rfl with k2 | k2 <;> rw [show X.env.scope.names.lookup y = _ from k2] at k' <;> cases k'
      · rw [c1] at e'
        cases e'
        exact cellK (I.freeC y _ c1) z
  · obtain ⟨w', z⟩ := I.cell y c (up e)
    exact ⟨w', cellK (I.freeC y c (up e)) z⟩
  · obtain ⟨u, o, ho, hd⟩ := I.cell y c (up e)
    exact un.free c o ho (I.freeC y c (up e)) (by simp)
  · show σ.length = (hideN X.N kn).length
    unfold hideN
    rw [List.length_map]
    exact I.len
/-- the function object -/
abbrev fnD (q : Str) (params : Arguments) (body : Expr) (scope : Scope) (cl : List (Str × Addr)) (T : Addr) (doc pm cv ctv : Value) : FuncData := PySem.W.kdv_fn "<lambda>" q params (.expr body) scope cl (.ref T) doc pm cv ctv
abbrev obD (q : Str) (params : Arguments) (body : Expr) (scope : Scope) (cl : List (Str × Addr)) (T : Addr) (doc pm : Value) (c' : Addr) (ctv : Value) : Obj := PySem.W.kdv_obj "<lambda>" q params (.expr body) scope cl (.ref T) doc pm c' ctv
/-- what the binding of no arguments makes of the defaults -/
def BindD (params : Arguments) (body : Expr) (scope : Scope) (kn : Str) : Prop := ∀ (q : Str) (cl : List (Str × Addr)) (T : Addr) (doc pm cv ctv : Value), ∃ k : Option (Array Value) → Sem (List (Str × Value)),
  bindArgs (fnD q params body scope cl T doc pm cv ctv) ⟨[], []⟩ = seqItems? (.ref T) >>= k ∧ ∀ v : Value, k (some #[v]) = pure [(kn, v)]
/-- x(), in the def that got the lambda -/
theorem act {CXg : CXT} {Eg : XK} {Ng : List Str} {qg : Str} {sg : Scope} {g f c' T : Addr} {cdg pm doc ctv : Value} {params : Arguments} {body : Expr} {scope : Scope} {k i : Nat} {a kn : Str} {di : Int} {pn : List (Addr × Obj)} {xe : Value → Shared → Prop} {W : WX} {E : XK} {tb : TE} {p1 p2 : Pos}
    (I : Inv X pins σ H s) (L : ScD X.env.scope scope kn) (n0 : ∀ y ∈ scope.names, y.1 ≠ ("<>" : Str)) (hf : s.heap.get? f = some (obD (X.env.qual ++ "<lambda>") params body scope (cloFrom X.env.cells scope.names []) T doc pm c' ctv)) (hfn : H f = none) (hfr : f ∉ frs X.stack) (hT : H T = some (.tup [.int di]))
    (hbind : BindD params body scope kn)
    (tk : Takes ((cxOf CXg X.prog X.w X.K X.mg X.base Ng qg sg g cdg X.A X.stack s H Eg).tr pn xe) W) (hW : ∀ cls d σ' H', E cls d H' → W cls d σ' H') (hr : Room (k + 1) (X.A.deeper (envOfC qg sg s.heap.objs.size g cdg)))
    (hbody : ∀ (A : Around) (outer : List Env) (s : Shared) (H : Hp), Room k (A.deeper (lamEnv X scope s.heap.objs.size f c')) → PE (cxD X A outer s H E scope f c' kn) body tb)
    (hN : Ng[i]? = some a) (hv : Vis sg a) (hd : (a == ("__debug__" : Str)) = false := by decide) (hcd : (a == ("__classdict__" : Str)) = false := by decide) :
    PE ((cxOf CXg X.prog X.w X.K X.mg X.base Ng qg sg g cdg X.A X.stack s H Eg).tr pn xe) (.Call (.Name a p1) [] [] p2)
      (fun σZ HZ Q => σZ[i]? = some (some (.ref f)) ∧ HZ c' = some (CodeO c' (X.env.qual ++ "<lambda>")) ∧ tb σ HZ Q) := by
  refine ⟨fun pinsZ sZ σZ HZ Q IZ h => ?_⟩
  obtain ⟨hs, hc, ht⟩ := h
  refine wpAny_Call_Name_kw (thn ((pe_var (pos := p1) (i := i) hN hv hd hcd).run pinsZ sZ σZ HZ (fun v H1 => v = .ref f ∧ H1 = HZ) IZ ⟨.ref f, hs, rfl, rfl⟩) fun u s1 ⟨v, H1, I1, r1, q1⟩ => ?_)
  obtain ⟨ev, eH⟩ := q1
  subst ev
  rw [eH] at I1
  obtain rfl : u = Value.ref f := r1
  have of1 : s1.heap.get? f = some (obD (X.env.qual ++ "<lambda>") params body scope (cloFrom X.env.cells scope.names []) T doc pm c' ctv) := I1.base.keep f _ hf hfn hfr (fun z => nomatch (show f ∈ ([] : List Addr) from z))
  refine PySem.W.callWith_F0 ⟨_, _, _, _, of1⟩ ?_
  have un : Un (frs X.stack) [] H HZ s.heap s1.heap := I1.base
  obtain ⟨⟨oc, vs, t, hoc, hdc, hvc⟩, _, _⟩ := I1.hok c' _ hc
  obtain ⟨_, its, rv, oT, hT1, _, nT, hT2⟩ := I1.hok T _ (un.tups _ _ hT)
  obtain ⟨dv, rfl, _⟩ := vals1 rv
  have rc : codeAny (model X.prog X.w) (X.A.deeper (envOfC qg sg s.heap.objs.size g cdg)) (.call (.ref f) ⟨[], []⟩) (CR (L2.CX X.prog X.w) (envOfC qg sg s.heap.objs.size g cdg :: X.stack) X.prog X.w HZ s1 Q E) s1 := by
    refine PySem.W.kla_callFunE hr.depth of1 rfl L.co L.gen rfl ⟨c', oc, vs, t, rfl, hoc, hdc, hvc⟩ ?_
    obtain ⟨kk, b1, b2⟩ := hbind (X.env.qual ++ "<lambda>") (cloFrom X.env.cells scope.names []) T doc pm (.ref c') ctv
    refine BindsTo.of_defaults (binds := [(kn, dv)]) (k := kk) rfl hT1 hT2 b1 (b2 dv) _ _ _ _ ?_
    refine wpAny_newFunctionEnv (fun y hy => (L.own y hy).1) (fun y hy => ?_) (fun h₁ hns hsb => ⟨I1.nolimit.fresh _ hsb, ?_⟩) L.kind
    · rw [List.mem_singleton.mp hy]
      exact L.par
    show codeAny _ _ (.expr body (lamEnv X scope s1.heap.objs.size f c')) _ _
    have kp : ∀ b o, s1.heap.get? b = some o → h₁.get? b = some o := fun b o e => hsb.extBut b o (Nat.ne_of_lt (Heap.lt_size e)) (Heap.get?_push_of_some _ e)
    have J : Inv (cxD X (X.A.deeper (envOfC qg sg s.heap.objs.size g cdg)) (envOfC qg sg s.heap.objs.size g cdg :: X.stack) s1 HZ E scope f c' kn) [] σ HZ { s1 with heap := h₁, toks := s1.toks + ([(kn, dv)] : List (Str × Value)).length } :=
      start I L n0 I1.env0 hr.hd un hns kp
    refine PySem.W.kla_codeExpr (wpAny_mono ((hbody _ _ s1 HZ (hr.deeper _)).run [] _ _ HZ Q J ht) (fun v s' hq => ?_) fun e s' hq => hq)
    obtain ⟨w', H', J', rv, q⟩ := hq
    exact ⟨w', H', J'.os, J'.bare, J'.base, J'.hok, rv, q⟩
  have hx : Passes (L2.CX X.prog X.w) ((cxOf CXg X.prog X.w X.K X.mg X.base Ng qg sg g cdg X.A X.stack s H Eg).tr pn xe) E := passes_call tk hW
  refine wpAny_call (codeAny_mono rc fun r s' hq => ?_)
  cases r with
  | error e => exact hx pinsZ σZ HZ s1 e s' I1 hq
  | ok fl =>
    cases fl with
    | ret u => exact I1.after hq
    | next => exact False.elim hq
    | brk => exact False.elim hq
    | cont => exact False.elim hq
/-- the lambda is made -/
theorem make {T : List (Addr × Str)} {c P : Addr} {params : Arguments} {body de : Expr} {scope : Scope} {pos : Pos} {di : Int} {Q : Value → Shared → Prop} (I : Inv X pins σ H s) (TB : TabB X.base X.mg c P) (hcode : X.env.code = .ref c)
    (hm : (P, X.env.qual ++ "<lambda>") ∈ T) (hu : ∀ p ∈ T, p.1 = P → p.2 = X.env.qual ++ "<lambda>") (hT : Tabs T H) (hd : params.defaults = [de]) (hk0 : params.kw_defaults = []) (hde : PE X de (tC (.int di))) (hfree : ∀ y ∈ scope.names, y.2 = .free → ∃ c, X.env.cells.lookup y.1 = some c)
    (h : ∀ (f c' D : Addr) (doc pm ctv : Value) (H1 : Hp) (s' : Shared), Inv X pins σ H1 s' → ExtN H H1 → Tabs T H1 → H1 D = some (.tup [.int di]) →
      s'.heap.get? f = some (obD (X.env.qual ++ "<lambda>") params body scope (cloFrom X.env.cells scope.names []) D doc pm c' ctv) → H1 f = none → f ∉ frs X.stack → H1 c' = some (CodeO c' (X.env.qual ++ "<lambda>")) → Q (.ref f) s') :
    wpAny (model X.prog X.w) X.A (eval (.Lambda params body scope pos) X.env) Q X.xe s := by
  refine PySem.W.kdv_lam (by rw [hd] <;> rfl) hk0 ?_
  rw [hd]
  refine PySem.W.kdv_all1 (thn (hde.run pins s σ H (fun v H1 => v = .int di ∧ H1 = H) I ⟨rfl, rfl⟩) fun dv s1 ⟨v, H1, I1, r1, e1, e2⟩ => PySem.W.kdv_all0 ?_)
  subst e1
  rw [e2] at I1
  rw [makeFunction_eq]
  simp only [List.zip_nil_right, List.filterMap_nil, List.isEmpty_nil, if_true, pure_bind, List.isEmpty_cons, Bool.false_eq_true, if_false]
  refine wpAny_bind (wpAny_newTextTuple ?_)
  obtain ⟨D, eD⟩ : ∃ D, D = s1.heap.objs.size := ⟨_, rfl⟩
  have nD : H D = none := by rw [eD]; exact I1.hok.fresh (Nat.le_refl _)
  have I2 : Inv X pins σ (upd H D (.tup [.int di])) { s1 with heap := s1.heap.push { cls := .type "tuple", data := .seq [dv].toArray } } := by
    rw [eD]
    exact I1.laid (t' := s1.toks) (fun b o e => Heap.get?_push_of_some _ e) (Nat.le_refl _) (show ObjOk X.prog X.w _ _ _ (.tup [.int di]) from ⟨(show 1 ≤ sizeLine by decide), [dv], .cons r1 .nil, _, Heap.get?_push_size _ rfl, rfl, _, rfl⟩)
  have S0 : ∀ b o, H b = some o → (upd H D (.tup [.int di])) b = some o := fun b o e => by rw [upd_ne (ne_of_none e nD)]; exact e
  have hT2 : Tabs T (upd H D (.tup [.int di])) := hT.ext S0
  have eT : (upd H D (.tup [.int di])) D = some (.tup [.int di]) := upd_same
  rw [← eD]
  generalize hs2 : ({ s1 with heap := s1.heap.push { cls := .type "tuple", data := .seq [dv].toArray } } : Shared) = s2 at I2
  generalize hH2 : upd H D (.tup [.int di]) = H2 at I2 hT2 eT S0
  clear hs2 hH2 hT
  obtain ⟨ps, hP, ht, ha⟩ := hT2 _ hm
  have bP : s2.heap.BuiltinsAt X.mg P := TB.bm.keeps I2.bk
  have hP' : s2.heap.get? P = some { cls := .none, data := .fields ps } := I2.hok P _ hP
  have nofr : ∀ f, s2.heap.objs.size ≤ f → f ∉ frs X.stack := fun f hf z => by
    rcases List.mem_cons.mp (I2.stkSub _ z) with e | e
    · have h1 := I2.lt
      rw [← e] at h1
      exact Nat.lt_irrefl _ (Nat.lt_of_lt_of_le h1 hf)
    · exact I2.nofs hf e
  cases hc : codeAmong pos ps.toList with
  | none =>
    refine PySem.W.kdv_makeTail (mg := X.mg) (c := c) (P := P) (ps := ps) (closure_ok hfree) I2.ok.glob (I2.mod.glob.keeps I2.bk) hcode (TB.code.keeps I2.bk) hP' ht hc TB.gP bP fun c' ctv doc h' tk hx hge hlt hrec htb => ?_
    obtain ⟨c2, oc, vs, t, e2, hoc, hd, hv⟩ := hrec
    cases e2
    have hsz : s2.heap.objs.size ≤ h'.objs.size := Nat.le_trans hge (Nat.le_of_lt hlt)
    have nC : H2 c' = none := I2.hok.fresh hge
    have I3 := inv_table (t' := tk) (more := #[rawInt pos.line, rawInt pos.col, .ref c']) (h' := h'.push (obD (X.env.qual ++ "<lambda>") params body scope (cloFrom X.env.cells scope.names []) D doc ((X.mg "__name__").getD .none) c' ctv)) I2 hP
      (fun b o hb e => Heap.get?_push_of_some _ (hx b o hb e)) (Heap.get?_push_of_some _ htb) hge ⟨oc, vs, t, Heap.get?_push_of_some _ hoc, hd, hv⟩
    have hE : ExtN H2 (upd (upd H2 P (.tbl (ps ++ #[rawInt pos.line, rawInt pos.col, .ref c']))) c' (CodeO c' (X.env.qual ++ "<lambda>"))) := fun b o e n => by
      rw [upd_ne (ne_of_none e nC), upd_ne (fun z => n ps (Option.some.inj (e.symm.trans (by rw [z]; exact hP))))]
      exact e
    have eL : (ps ++ #[rawInt pos.line, rawInt pos.col, .ref c']).toList = ps.toList ++ [rawInt pos.line, rawInt pos.col, .ref c'] := by simp
    refine h h'.objs.size c' D doc ((X.mg "__name__").getD .none) ctv _ _ I3 ((ExtN.of S0).trans hE) (fun p hp => ?_) (hE _ _ eT fun _ z => nomatch z) (Heap.get?_push_size _ rfl) ?_ (nofr _ hsz) upd_same
    · by_cases hb : p.1 = P
      · rw [hu p hp hb, hb]
        refine ⟨_, by rw [upd_ne (ne_of_none hP nC), upd_same], by rw [eL]; exact PySem.TriplesOk_snoc _ _ _ _ ht, fun p' cv hcv => ?_⟩
        rw [eL] at hcv
        rcases among_app _ ht hcv with z | z
        · obtain ⟨c0, e1, e2⟩ := ha p' cv z
          exact ⟨c0, e1, hE _ _ e2 codeO_ne⟩
        · exact ⟨c', z, upd_same⟩
      · obtain ⟨ps', a1, a2, a3⟩ := hT2 p hp
        refine ⟨ps', by rw [upd_ne (ne_of_none a1 nC), upd_ne hb]; exact a1, a2, fun p' cv hcv => ?_⟩
        obtain ⟨c0, e1, e2⟩ := a3 p' cv hcv
        exact ⟨c0, e1, hE _ _ e2 codeO_ne⟩
    · have n1 : h'.objs.size ≠ c' := Nat.ne_of_gt hlt
      have n2 : h'.objs.size ≠ P := Nat.ne_of_gt (Nat.lt_of_lt_of_le (Heap.lt_size hP') hsz)
      rw [upd_ne n1, upd_ne n2]
      exact I2.hok.fresh hsz
  | some cv =>
    obtain ⟨c', e, hco⟩ := ha pos cv hc
    subst e
    refine PySem.W.kdv_makeTailHit (mg := X.mg) (c := c) (P := P) (ps := ps) (closure_ok hfree) I2.ok.glob (I2.mod.glob.keeps I2.bk) hcode (TB.code.keeps I2.bk) hP' ht hc bP fun ctv doc h' tk hx hsz => ?_
    have I3 : Inv X pins σ H2 { s2 with heap := h'.push (obD (X.env.qual ++ "<lambda>") params body scope (cloFrom X.env.cells scope.names []) D doc ((X.mg "__name__").getD .none) c' ctv), toks := tk } := I2.kept fun b o e => Heap.get?_push_of_some _ (hx b o e)
    exact h h'.objs.size c' D doc ((X.mg "__name__").getD .none) ctv H2 _ I3 (ExtN.of S0) hT2 eT (Heap.get?_push_size _ rfl) (I2.hok.fresh hsz) (nofr _ hsz) hco
/-- x(lambda k=0: body) -/
theorem pe_lamcall {T : List (Addr × Str)} {TT : (XK → Hp → VK → Prop) → Hp → VK → Prop} {x a kn : Str} {di : Int} {g c P : Addr} {k : Nat} {pg : Arguments} {bg : List Stmt} {sg : Scope} {dV kV doc pm cdv ct oc : Value} {an od : Option Addr} {osl : Array (Option Value)} {Ng : List Str}
    {params : Arguments} {body de : Expr} {scope : Scope} {t : XK → TE} {p lpos pos : Pos} (hg : Gl X x) (hm : X.mg x = some (.ref g)) (hk : PySem.W.keepIn X.K (.ref g) = true)
    (lk : X.K.lookup g = some ⟨oc, od, .func (PySem.W.fnOf x x pg bg sg dV kV doc pm an cdv ct), osl⟩) (hcg : PySem.W.codeIn X.K cdv x = true) (hb : L2.Binds X.K (PySem.W.fnOf x x pg bg sg dV kV doc pm an cdv ct) [a] []) (Sg : FnScope Ng [a] sg) (hNg : Ng[0]? = some a) (hva : Vis sg a)
    (hG : GivesTo X Ng x sg g cdv bg a (X.env.qual ++ "<lambda>") TT)
    (TB : TabB X.base X.mg c P) (hcode : X.env.code = .ref c) (hmT : (P, X.env.qual ++ "<lambda>") ∈ T) (hu : ∀ p ∈ T, p.1 = P → p.2 = X.env.qual ++ "<lambda>") (hr : Room (k + 2) X.A) (L : ScD X.env.scope scope kn) (n0 : ∀ y ∈ scope.names, y.1 ≠ ("<>" : Str)) (hd0 : params.defaults = [de]) (hk0 : params.kw_defaults = []) (hde : PE X de (tC (.int di)))
    (hbind : BindD params body scope kn)
    (hbody : ∀ (A : Around) (outer : List Env) (s : Shared) (H : Hp) (E : XK) (f c' : Addr), Room k (A.deeper (lamEnv X scope s.heap.objs.size f c')) → PE (cxD X A outer s H E scope f c' kn) body (t E))
    (hdb : (x == ("__debug__" : Str)) = false := by decide) (hd : (a == ("__debug__" : Str)) = false := by decide) (hcd : (a == ("__classdict__" : Str)) = false := by decide) :
    PE X (.Call (.Name x p) [.Lambda params body scope lpos] [] pos) (tLam T TT t) := by
  refine ⟨fun pins s σ H Q I h => ?_⟩
  obtain ⟨hT, h⟩ := h
  refine wpAny_Call_Name_kw (ld_glob I hg hm ?_ hdb)
  refine PySem.W.callWith_K (h₀ := X.base) I.ok.mod.kin hk ?_ (by rfl) (by rfl)
  show wpAny _ _ (spliced ((false, eval (.Lambda params body scope lpos) X.env) :: backTo pos (starEach [] X.env))) _ _ s
  refine Calls.spliced_cons (make I TB hcode hmT hu hT hd0 hk0 hde (has_free L I.ok) fun f c' D doc' pm' ctv H1 s' I1 eN T1 eD hf hfn hfr hco => ?_)
  refine Calls.spliced_nil ⟨I1.kIn, ?_⟩
  have rc : codeAny (model X.prog X.w) X.A (.call (.ref g) ⟨[.ref f], []⟩) (CR C8.CX0 X.stack X.prog X.w H1 s' Q C8.E0) s' := by
    refine run_ofS (N := Ng) (ps := [a]) (us := [.ref f]) (vs := [.ref f]) lk hcg Sg hr I1.env0 (hb s' [.ref f] I1.kIn rfl) (.cons rfl .nil) rfl fun hr' => ?_
    obtain ⟨t', ht', hq'⟩ := hG f c' s' H1 Q (fun E H' Q' => t E σ H' Q') (fun W pn xe E p1 p2 tk hW => act (i := 0) I1 L n0 hf hfn hfr eD hbind tk hW hr' (fun A outer s H hr2 => hbody A outer s H E f c' hr2) hNg hva hd hcd) hco (h H1 eN T1)
    exact ⟨t', ht'.nox, hq'⟩
  refine wpAny_call (codeAny_mono rc fun r s2 hq => ?_)
  cases r with
  | error e => exact (show False from hq).elim
  | ok fl =>
    cases fl with
    | ret u => exact I1.after hq
    | next => exact False.elim hq
    | brk => exact False.elim hq
    | cont => exact False.elim hq
end
end L2.Ld

set_option Elab.async false
set_option linter.all false
set_option maxRecDepth 100000
set_option maxHeartbeats 4000000
/-! the data layer: data by value, slots, what a state is of them -/
namespace L2.Dl
open PySem PySem.Spec PyProof.Rows L2.Sl
abbrev D := PyData
def kD : Key → D
  | .inl i => .int i
  | .inr x => .str x
mutual
/-- what reads as data; dicts by ints and texts too -/
inductive Dq (K : PySem.W.Frag) (H : Hp) : V → D → Prop
  | non : Dq K H .non .none
  | bl (b : Bool) : Dq K H (.bl b) (.bool b)
  | int (i : Int) : Dq K H (.int i) (.int i)
  | str (x : Str) : Dq K H (.str x) (.str x)
  | lst {a : Addr} {xs : List V} {ds : List D} : SqL K H a xs → Dqs K H xs ds → Dq K H (.ref a) (.list ds)
  | tup {a : Addr} {xs : List V} {ds : List D} : SqT K H a xs → Dqs K H xs ds → Dq K H (.ref a) (.tuple ds)
  | dic {a : Addr} {ps : List (Key × V)} {kvs : List (D × D)} : H a = some (.dK ps) → Dqk K H ps kvs → Dq K H (.ref a) (.dict kvs)
inductive Dqs (K : PySem.W.Frag) (H : Hp) : List V → List D → Prop
  | nil : Dqs K H [] []
  | cons {v : V} {vs : List V} {d : D} {ds : List D} : Dq K H v d → Dqs K H vs ds → Dqs K H (v :: vs) (d :: ds)
inductive Dqk (K : PySem.W.Frag) (H : Hp) : List (Key × V) → List (D × D) → Prop
  | nil : Dqk K H [] []
  | cons {k : Key} {v : V} {ps : List (Key × V)} {d : D} {kvs : List (D × D)} : Dq K H v d → Dqk K H ps kvs → Dqk K H ((k, v) :: ps) ((kD k, d) :: kvs)
end
theorem sqT_same {K : PySem.W.Frag} {H H' : Hp} {a : Addr} {xs : List V} (e : Same H H') (h : SqT K H a xs) : SqT K H' a xs := by
  rcases h with (h | ⟨o, h⟩) | h
  · exact .inl (.inl (e _ _ h))
  · exact .inl (.inr ⟨o, e _ _ h⟩)
  · exact .inr h
section
variable {K : PySem.W.Frag} {H H' : Hp}
mutual
theorem Dq.mono (s : Same H H') : ∀ (d : D) (v : V), Dq K H v d → Dq K H' v d
  | .none, _, h => by
    cases h
    exact .non
  | .bool b, _, h => by
    cases h
    exact .bl b
  | .int i, _, h => by
    cases h
    exact .int i
  | .str x, _, h => by
    cases h
    exact .str x
  | .list ds, _, h => by
    cases h with
    | lst a b => exact .lst (s.seq a) (Dqs.mono s ds _ b)
  | .tuple ds, _, h => by
    cases h with
    | tup a b => exact .tup (sqT_same s a) (Dqs.mono s ds _ b)
  | .dict kvs, _, h => by
    cases h with
    | dic a b => exact .dic (s _ _ a) (Dqk.mono s kvs _ b)
theorem Dqs.mono (s : Same H H') : ∀ (ds : List D) (vs : List V), Dqs K H vs ds → Dqs K H' vs ds
  | [], _, h => by
    cases h
    exact .nil
  | d :: ds, _, h => by
    cases h with
    | cons a b => exact .cons (Dq.mono s d _ a) (Dqs.mono s ds _ b)
theorem Dqk.mono (s : Same H H') : ∀ (kvs : List (D × D)) (ps : List (Key × V)), Dqk K H ps kvs → Dqk K H' ps kvs
  | [], _, h => by
    cases h
    exact .nil
  | (k, d) :: kvs, _, h => by
    cases h with
    | cons a b => exact .cons (Dq.mono s d _ a) (Dqk.mono s kvs _ b)
end
theorem Dq.up {v : V} {d : D} (h : Dq K H v d) (s : Same H H') : Dq K H' v d := Dq.mono s d v h
theorem Dqs.up {vs : List V} {ds : List D} (h : Dqs K H vs ds) (s : Same H H') : Dqs K H' vs ds := Dqs.mono s ds vs h
theorem Dqk.up {ps : List (Key × V)} {kvs : List (D × D)} (h : Dqk K H ps kvs) (s : Same H H') : Dqk K H' ps kvs := Dqk.mono s kvs ps h
end
mutual
/-- no dict within -/
def flat : D → Bool
  | .none => true
  | .bool _ => true
  | .int _ => true
  | .str _ => true
  | .list ds => flats ds
  | .tuple ds => flats ds
  | .dict _ => false
def flats : List D → Bool
  | [] => true
  | d :: ds => flat d && flats ds
end
section
variable {K : PySem.W.Frag} {H : Hp}
mutual
theorem Dq.dp : ∀ (d : D) (v : V), flat d = true → Dq K H v d → Dp K H v d
  | .none, _, _, h => by
    cases h
    exact .non
  | .bool b, _, _, h => by
    cases h
    exact .bl b
  | .int i, _, _, h => by
    cases h
    exact .int i
  | .str x, _, _, h => by
    cases h
    exact .str x
  | .list ds, _, f, h => by
    cases h with
    | lst a b => exact .lst a (Dqs.dp ds _ f b)
  | .tuple ds, _, f, h => by
    cases h with
    | tup a b => exact .tup a (Dqs.dp ds _ f b)
  | .dict kvs, _, f, h => nomatch f
theorem Dqs.dp : ∀ (ds : List D) (vs : List V), flats ds = true → Dqs K H vs ds → DpAll K H vs ds
  | [], _, _, h => by
    cases h
    exact .nil
  | d :: ds, _, f, h => by
    have f : (flat d && flats ds) = true := f
    rw [Bool.and_eq_true] at f
    cases h with
    | cons a b => exact .cons (Dq.dp d _ f.1 a) (Dqs.dp ds _ f.2 b)
end
theorem Dqs.len : ∀ {vs : List V} {ds : List D}, Dqs K H vs ds → vs.length = ds.length
  | [], [], _ => rfl
  | _ :: _, _ :: _, .cons _ t => congrArg (· + 1) t.len
theorem Dqs.at_ : ∀ {vs : List V} {ds : List D} {i : Nat} {d : D}, Dqs K H vs ds → ds[i]? = some d → ∃ v, vs[i]? = some v ∧ Dq K H v d
  | [], [], _, _, _, e => nomatch e
  | _ :: _, _ :: _, 0, _, .cons a _, e => by
    cases e
    exact ⟨_, rfl, a⟩
  | _ :: vs, _ :: ds, i + 1, _, .cons _ t, e => t.at_ (i := i) e
theorem Dqs.atV : ∀ {vs : List V} {ds : List D} {i : Nat} {v : V}, Dqs K H vs ds → vs[i]? = some v → ∃ d, ds[i]? = some d ∧ Dq K H v d
  | [], [], _, _, _, e => nomatch e
  | _ :: _, _ :: _, 0, _, .cons a _, e => by
    cases e
    exact ⟨_, rfl, a⟩
  | _ :: vs, _ :: ds, i + 1, _, .cons _ t, e => t.atV (i := i) e
theorem Dqs.app : ∀ {vs us : List V} {ds es : List D}, Dqs K H vs ds → Dqs K H us es → Dqs K H (vs ++ us) (ds ++ es)
  | [], _, [], _, _, h => h
  | _ :: _, _, _ :: _, _, .cons a t, h => .cons a (t.app h)
theorem Dqs.take : ∀ {vs : List V} {ds : List D} (n : Nat), Dqs K H vs ds → Dqs K H (vs.take n) (ds.take n)
  | _, _, 0, _ => .nil
  | [], [], _ + 1, _ => .nil
  | _ :: _, _ :: _, n + 1, .cons a t => .cons a (t.take n)
theorem Dqs.drop : ∀ {vs : List V} {ds : List D} (n : Nat), Dqs K H vs ds → Dqs K H (vs.drop n) (ds.drop n)
  | _, _, 0, h => h
  | [], [], _ + 1, _ => .nil
  | _ :: _, _ :: _, n + 1, .cons a t => t.drop n
theorem Dqs.rev : ∀ {vs : List V} {ds : List D}, Dqs K H vs ds → Dqs K H vs.reverse ds.reverse
  | [], [], _ => .nil
  | _ :: _, _ :: _, .cons a t => by
    rw [List.reverse_cons, List.reverse_cons]
    exact t.rev.app (.cons a .nil)
theorem Dqs.set : ∀ {vs : List V} {ds : List D} {v : V} {d : D} (n : Nat), Dqs K H vs ds → Dq K H v d → Dqs K H (vs.set n v) (ds.set n d)
  | [], [], _, _, _, _, _ => .nil
  | _ :: _, _ :: _, _, _, 0, .cons _ t, h => .cons h t
  | _ :: _, _ :: _, _, _, n + 1, .cons a t, h => .cons a (t.set n h)
theorem Dqs.ints : ∀ (l : List Int), Dqs K H (l.map V.int) (l.map PyData.int)
  | [] => .nil
  | i :: l => .cons (.int i) (Dqs.ints l)
theorem Dqs.strs : ∀ (l : List Str), Dqs K H (l.map V.str) (l.map PyData.str)
  | [] => .nil
  | i :: l => .cons (.str i) (Dqs.strs l)
end
/-! ### a family of draws: a thing that a law hands on and that its draws change -/
def CodeLike (o : HO) : Prop := ∃ c q, o = LamX.CodeO c q
/-- no tables there -/
def FD (F : Hp) : Prop := ∀ a ps, F a ≠ some (.tbl ps)
structure Fam where
  DR : Hp → V → Nat → List Addr → Prop
  loc : ∀ {H H' : Hp} {v : V} {n : Nat} {A : List Addr}, DR H v n A → (∀ a ∈ A, H' a = H a) → DR H' v n A
  trk : ∀ {H : Hp} {v : V} {n : Nat} {A : List Addr}, DR H v n A → ∀ a ∈ A, H a ≠ none
  ref : ∀ {H : Hp} {v : V} {n : Nat} {A : List Addr}, DR H v n A → ∃ a r, A = a :: r ∧ v = .ref a
  /-- what holds of the things that may change -/
  IN : Hp → List Addr → Prop
  inl : ∀ {H H' : Hp} {A : List Addr}, IN H A → (∀ a ∈ A, H' a = H a) → (∀ a o, CodeLike o → H a = some o → H' a = some o) → IN H' A
  /-- lambdas are made -/
  lam : Bool
  w : World
/-- none -/
def noFam (w : World) : Fam := ⟨fun _ _ _ _ => False, fun h => h.elim, fun h => h.elim, fun h => h.elim, fun _ _ => True, fun _ _ _ => True.intro, false, w⟩
inductive Slot where
  /-- data that is changed no more -/
  | imm (d : D)
  /-- a list, a dict that is this name's own -/
  | own (d : D)
  /-- such, while it is walked -/
  | lent (d : D)
  /-- the thing of the draws, n draws so far at most -/
  | drw (n : Nat)
  /-- a dict of this name's own, its keys data of any depth, each with True -/
  | nds (ks : List D)
/-- a thing of one's own -/
def Slot.isOwn : Slot → Bool
  | .own _ => true
  | .lent _ => true
  | .nds _ => true
  | _ => false
mutual
/-- data as a key -/
def kN : D → Option NestedKey
  | .int i => some (.num i)
  | .str x => some (.text x)
  | .tuple ds => (kNs ds).map NestedKey.tup
  | _ => none
def kNs : List D → Option (List NestedKey)
  | [] => some []
  | d :: ds => match kN d, kNs ds with
    | some k, some ks => some (k :: ks)
    | _, _ => none
end
abbrev Env' := List (Option Slot)
/-- what a def's body begins with: the heap, what is fixed data there, what may be changed -/
structure Bs where
  H0 : Hp
  F0 : Hp
  M : List Addr
def OC (K : PySem.W.Frag) (H F : Hp) (p : Addr) : D → Prop
  | .list ds => ∃ vs, H p = some (.lst vs) ∧ Dqs K F vs ds
  | .dict kvs => ∃ ps, H p = some (.dK ps) ∧ Dqk K F ps kvs
  | _ => False
/-- a dict by keys -/
def NdC (w : World) (K : PySem.W.Frag) (H F : Hp) (p : Addr) (ks : List D) : Prop := ∃ xs : List (NestedKey × Addr), H p = some (NDo w p xs) ∧ Dqs K F (xs.map fun x => V.ref x.2) ks ∧ ks.map kN = xs.map (fun x => some x.1) ∧ ∀ x ∈ xs, x.1.depth ≤ 8
def RS (fam : Fam) (K : PySem.W.Frag) (B : Bs) (A : List Addr) (H F : Hp) (v : V) : Slot → Prop
  | .imm d => Dq K F v d
  | .own d => ∃ p, v = .ref p ∧ B.H0 p = none ∧ F p = none ∧ p ∉ A ∧ OC K H F p d
  | .lent d => ∃ p, v = .ref p ∧ B.H0 p = none ∧ F p = none ∧ p ∉ A ∧ OC K H F p d
  | .drw n => fam.DR H v n A
  | .nds ks => ∃ p, v = .ref p ∧ B.H0 p = none ∧ F p = none ∧ p ∉ A ∧ NdC fam.w K H F p ks
def ownAt (Γ : Env') (i : Nat) : Prop := ∃ s : Slot, Γ[i]? = some (some s) ∧ s.isOwn = true
structure IV (fam : Fam) (K : PySem.W.Frag) (B : Bs) (A : List Addr) (σ : St) (H F : Hp) (Γ : Env') : Prop where
  sub : Same F H
  keep : ∀ a o, B.H0 a = some o → a ∉ B.M → H a = some o
  new : ∀ a o, F a = some o → B.F0 a = some o ∨ B.H0 a = none
  old : Same B.F0 F
  len : σ.length = Γ.length
  var : ∀ (i : Nat) (s : Slot), Γ[i]? = some (some s) → ∃ v, σ[i]? = some (some v) ∧ RS fam K B A H F v s
  dis : ∀ (i j : Nat), i ≠ j → ownAt Γ i → ownAt Γ j → σ[i]? ≠ σ[j]?
  mA : ∀ a ∈ B.M, a ∈ A
  tA : ∀ a ∈ A, H a ≠ none ∧ F a = none ∧ (B.H0 a = none ∨ a ∈ B.M)
  one : ∀ (i j n m : Nat), Γ[i]? = some (some (.drw n)) → Γ[j]? = some (some (.drw m)) → i = j
  inv : fam.IN H A
  ft : FD F
  h0 : fam.lam = true → FD B.H0
section
variable {fam : Fam} {K : PySem.W.Frag} {B : Bs} {A : List Addr} {σ : St} {H F H' F' : Hp} {Γ : Env'} {p : Addr} {o : HO} {v : V} {s : Slot}
theorem OC.step {d : D} (h : OC K H F p d) (sf : Same F F') (hp : ∀ o, H p = some o → H' p = some o) : OC K H' F' p d := by
  cases d with
  | list ds =>
    obtain ⟨vs, e, q⟩ := h
    exact ⟨vs, hp _ e, q.up sf⟩
  | dict kvs =>
    obtain ⟨ps, e, q⟩ := h
    exact ⟨ps, hp _ e, q.up sf⟩
  | _ => exact h.elim
theorem OC.trk {d : D} (h : OC K H F p d) : ∃ o, H p = some o := by
  cases d with
  | list ds =>
    obtain ⟨vs, e, q⟩ := h
    exact ⟨_, e⟩
  | dict kvs =>
    obtain ⟨ps, e, q⟩ := h
    exact ⟨_, e⟩
  | _ => exact h.elim
theorem OC.trkN {d : D} (h : OC K H F p d) : ∃ o, H p = some o ∧ (∀ ps, o ≠ .tbl ps) ∧ ¬ CodeLike o := by
  cases d with
  | list ds =>
    obtain ⟨vs, e, q⟩ := h
    exact ⟨_, e, (fun _ z => nomatch z), fun ⟨c, q, z⟩ => by unfold LamX.CodeO at z; cases z⟩
  | dict kvs =>
    obtain ⟨ps, e, q⟩ := h
    exact ⟨_, e, (fun _ z => nomatch z), fun ⟨c, q, z⟩ => by unfold LamX.CodeO at z; cases z⟩
  | _ => exact h.elim
/-- frozen it reads as data -/
theorem OC.dq {d : D} (h : OC K H F p d) (sf : Same F F') (e : ∀ o, H p = some o → F' p = some o) : Dq K F' (.ref p) d := by
  cases d with
  | list ds =>
    obtain ⟨vs, e1, q⟩ := h
    exact .lst (SqL.of (e _ e1)) (q.up sf)
  | dict kvs =>
    obtain ⟨ps, e1, q⟩ := h
    exact .dic (e _ e1) (q.up sf)
  | _ => exact h.elim
theorem NdC.step {w : World} {ks : List D} (h : NdC w K H F p ks) (sf : Same F F') (hp : ∀ o, H p = some o → H' p = some o) : NdC w K H' F' p ks := by
  obtain ⟨xs, e, q, r, l⟩ := h
  exact ⟨xs, hp _ e, q.up sf, r, l⟩
theorem ndo_code {w : World} {a : Addr} {xs : List (NestedKey × Addr)} : ¬ CodeLike (NDo w a xs) := fun ⟨c, q, z⟩ => by
  unfold NDo LamX.CodeO at z
  have e := HO.ext.inj z
  have g : (⟨Array.replicate (c + 1) { cls := .none, data := .fields #[.none, .str q 0] }, {}⟩ : Heap).get? c = some { cls := .none, data := .fields #[.none, .str q 0] } := by
    unfold Heap.get?
    simp
  have r := congrFun e ⟨Array.replicate (c + 1) { cls := .none, data := .fields #[.none, .str q 0] }, {}⟩
  have y : (∃ (oc : Obj) (vs : Array Value) (t : Tok), (⟨Array.replicate (c + 1) { cls := .none, data := .fields #[.none, .str q 0] }, {}⟩ : Heap).get? c = some oc ∧ oc.data = .fields vs ∧ vs[1]? = some (.str q t)) := ⟨_, _, 0, g, rfl, rfl⟩
  rw [← r] at y
  obtain ⟨_, _, o, es, ep, h1, _, h3, _⟩ := y
  unfold Heap.get? at h1
  have all : ∀ (j : Nat) (x : Obj), (Array.replicate (c + 1) ({ cls := .none, data := .fields #[.none, .str q 0] } : Obj))[j]? = some x → x = { cls := .none, data := .fields #[.none, .str q 0] } := fun j x h => by
    rw [Array.getElem?_replicate] at h
    split at h
    · exact (Option.some.inj h).symm
    · cases h
  split at h1
  · cases h1
  · have := all a o h1
    rw [this] at h3
    cases h3
theorem RS.ownR (h : RS fam K B A H F v s) (os : s.isOwn = true) : ∃ q o, v = .ref q ∧ B.H0 q = none ∧ F q = none ∧ q ∉ A ∧ H q = some o ∧ (∀ ps, o ≠ .tbl ps) ∧ ¬ CodeLike o := by
  cases s with
  | imm d => cases os
  | own d =>
    obtain ⟨q, e, a, b, c, oc⟩ := h
    obtain ⟨o, eo, n1, n2⟩ := oc.trkN
    exact ⟨q, o, e, a, b, c, eo, n1, n2⟩
  | lent d =>
    obtain ⟨q, e, a, b, c, oc⟩ := h
    obtain ⟨o, eo, n1, n2⟩ := oc.trkN
    exact ⟨q, o, e, a, b, c, eo, n1, n2⟩
  | drw n => cases os
  | nds ks =>
    obtain ⟨q, e, a, b, c, xs, eo, _⟩ := h
    exact ⟨q, _, e, a, b, c, eo, (by intro _ z; unfold NDo at z; cases z), ndo_code⟩
theorem RS.step (h : RS fam K B A H F v s) (sf : Same F F') (hp : ∀ q o, v = .ref q → F q = none → B.H0 q = none → q ∉ A → H q = some o → H' q = some o ∧ F' q = none) (ha : ∀ a ∈ A, H' a = H a) : RS fam K B A H' F' v s := by
  cases s with
  | imm d => exact Dq.up (show Dq K F v d from h) sf
  | own d =>
    obtain ⟨q, e, h0, f0, na, oc⟩ := h
    obtain ⟨o, eo⟩ := oc.trk
    exact ⟨q, e, h0, (hp q o e f0 h0 na eo).2, na, oc.step sf fun o2 e2 => (hp q o2 e f0 h0 na e2).1⟩
  | lent d =>
    obtain ⟨q, e, h0, f0, na, oc⟩ := h
    obtain ⟨o, eo⟩ := oc.trk
    exact ⟨q, e, h0, (hp q o e f0 h0 na eo).2, na, oc.step sf fun o2 e2 => (hp q o2 e f0 h0 na e2).1⟩
  | drw n => exact fam.loc h ha
  | nds ks =>
    obtain ⟨q, e, h0, f0, na, nd⟩ := h
    obtain ⟨xs, eo, _⟩ := id nd
    exact ⟨q, e, h0, (hp q _ e f0 h0 na eo).2, na, nd.step sf fun o2 e2 => (hp q o2 e f0 h0 na e2).1⟩
theorem RS.stepO (h : RS fam K B A H F v s) (os : s.isOwn = true) (sf : Same F F') (hp : ∀ q o, v = .ref q → F q = none → B.H0 q = none → q ∉ A → H q = some o → H' q = some o ∧ F' q = none) : RS fam K B A H' F' v s := by
  cases s with
  | imm d => cases os
  | own d =>
    obtain ⟨q, e, h0, f0, na, oc⟩ := h
    obtain ⟨o, eo⟩ := oc.trk
    exact ⟨q, e, h0, (hp q o e f0 h0 na eo).2, na, oc.step sf fun o2 e2 => (hp q o2 e f0 h0 na e2).1⟩
  | lent d =>
    obtain ⟨q, e, h0, f0, na, oc⟩ := h
    obtain ⟨o, eo⟩ := oc.trk
    exact ⟨q, e, h0, (hp q o e f0 h0 na eo).2, na, oc.step sf fun o2 e2 => (hp q o2 e f0 h0 na e2).1⟩
  | drw n => cases os
  | nds ks =>
    obtain ⟨q, e, h0, f0, na, nd⟩ := h
    obtain ⟨xs, eo, _⟩ := id nd
    exact ⟨q, e, h0, (hp q _ e f0 h0 na eo).2, na, nd.step sf fun o2 e2 => (hp q o2 e f0 h0 na e2).1⟩
theorem IV.none0 (I : IV fam K B A σ H F Γ) (h : H p = none) : B.H0 p = none := by
  cases e : B.H0 p with
  | none => rfl
  | some o =>
    by_cases hm : p ∈ B.M
    · exact absurd h (I.tA p (I.mA p hm)).1
    · rw [I.keep p o e hm] at h
      cases h
theorem IV.noneF (I : IV fam K B A σ H F Γ) (h : H p = none) : F p = none := by
  cases e : F p with
  | none => rfl
  | some o =>
    rw [I.sub p o e] at h
    cases h
theorem IV.noneA (I : IV fam K B A σ H F Γ) (h : H p = none) : p ∉ A := fun z => (I.tA p z).1 h
theorem ownAt.ref (I : IV fam K B A σ H F Γ) {i : Nat} (h : ownAt Γ i) : ∃ p o, σ[i]? = some (some (.ref p)) ∧ B.H0 p = none ∧ F p = none ∧ p ∉ A ∧ H p = some o := by
  obtain ⟨s, h, os⟩ := h
  obtain ⟨v, e, r⟩ := I.var i _ h
  obtain ⟨p, o, rfl, a, b, c, eo, _⟩ := r.ownR os
  exact ⟨p, o, e, a, b, c, eo⟩
/-- a new object, not tracked by a slot yet -/
theorem IV.fresh (I : IV fam K B A σ H F Γ) (h : H p = none) : IV fam K B A σ (upd H p o) F Γ := by
  have S : Same H (upd H p o) := same_new h
  refine ⟨fun a x e => S _ _ (I.sub a x e), fun a x e m => S _ _ (I.keep a x e m), I.new, I.old, I.len, fun i s e => ?_, I.dis, I.mA, fun a m => ?_, I.one, fam.inl I.inv (fun a m => upd_ne fun z => (I.tA a m).1 (by rw [z]; exact h)) (fun a o _ e => S _ _ e), I.ft, I.h0⟩
  · obtain ⟨v, ev, r⟩ := I.var i s e
    refine ⟨v, ev, r.step (fun _ _ z => z) (fun q x _ f0 _ _ hx => ⟨S _ _ hx, f0⟩) fun a m => ?_⟩
    exact upd_ne (fun z => (I.tA a m).1 (by rw [z]; exact h))
  · obtain ⟨a1, a2, a3⟩ := I.tA a m
    refine ⟨?_, a2, a3⟩
    rw [upd_ne (fun z => a1 (by rw [z]; exact h))]
    exact a1
/-- an object that no slot owns is fixed -/
theorem IV.fix (I : IV fam K B A σ H F Γ) (e : H p = some o) (nt : ∀ ps, o ≠ .tbl ps) (h0 : B.H0 p = none) (f0 : F p = none) (na : p ∉ A) (no : ∀ (i : Nat), ownAt Γ i → σ[i]? ≠ some (some (.ref p))) : IV fam K B A σ H (upd F p o) Γ := by
  have S : Same F (upd F p o) := same_new f0
  refine ⟨fun a x z => ?_, I.keep, fun a x z => ?_, fun a x z => S _ _ (I.old a x z), I.len, fun i s es => ?_, I.dis, I.mA, fun a m => ?_, I.one, I.inv, fun a ps z => ?_, I.h0⟩
  · by_cases c : a = p
    · subst c
      rw [upd_same] at z
      cases z
      exact e
    · rw [upd_ne c] at z
      exact I.sub a x z
  · by_cases c : a = p
    · subst c
      exact .inr h0
    · rw [upd_ne c] at z
      exact I.new a x z
  · obtain ⟨v, ev, r⟩ := I.var i s es
    refine ⟨v, ev, ?_⟩
    cases s with
    | imm d => exact Dq.up (show Dq K F v d from r) S
    | own d =>
      obtain ⟨q, rfl, b1, b2, b3, oc⟩ := r
      have nq : q ≠ p := fun z => no i ⟨_, es, rfl⟩ (by rw [ev, z])
      exact ⟨q, rfl, b1, by rw [upd_ne nq]; exact b2, b3, oc.step S fun _ z => z⟩
    | lent d =>
      obtain ⟨q, rfl, b1, b2, b3, oc⟩ := r
      have nq : q ≠ p := fun z => no i ⟨_, es, rfl⟩ (by rw [ev, z])
      exact ⟨q, rfl, b1, by rw [upd_ne nq]; exact b2, b3, oc.step S fun _ z => z⟩
    | drw n => exact r
    | nds ks =>
      obtain ⟨q, rfl, b1, b2, b3, nd⟩ := r
      have nq : q ≠ p := fun z => no i ⟨_, es, rfl⟩ (by rw [ev, z])
      exact ⟨q, rfl, b1, by rw [upd_ne nq]; exact b2, b3, nd.step S fun _ z => z⟩
  · obtain ⟨a1, a2, a3⟩ := I.tA a m
    refine ⟨a1, ?_, a3⟩
    rw [upd_ne (fun z => na (by rw [← z]; exact m))]
    exact a2
  · by_cases c : a = p
    · subst c
      rw [upd_same] at z
      exact nt ps (Option.some.inj z)
    · rw [upd_ne c] at z
      exact I.ft a ps z
/-- a new object that is fixed data at once -/
theorem IV.made (I : IV fam K B A σ H F Γ) (h : H p = none) (nt : ∀ ps, o ≠ .tbl ps := by intro _ z; cases z) : IV fam K B A σ (upd H p o) (upd F p o) Γ :=
  (I.fresh h).fix upd_same nt (I.none0 h) (I.noneF h) (I.noneA h) fun i oi z => by
    obtain ⟨q, x, e, _, _, _, hx⟩ := ownAt.ref I oi
    rw [e] at z
    cases z
    rw [h] at hx
    cases hx
theorem IV.freshOwn (I : IV fam K B A σ H F Γ) (h : H p = none) : ∀ (i : Nat), ownAt Γ i → σ[i]? ≠ some (some (.ref p)) := fun i oi z => by
  obtain ⟨q, x, e, _, _, _, hx⟩ := ownAt.ref I oi
  rw [e] at z
  cases z
  rw [h] at hx
  cases hx
end
end L2.Dl

set_option Elab.async false
set_option linter.all false
set_option maxRecDepth 100000
set_option maxHeartbeats 4000000
/-! the data layer: expressions -/
namespace L2.Dl
open PySem PySem.Spec PyProof.Rows L2.Sl
abbrev KD := Slot → Env' → Prop
abbrev KE := Str → List (Str × D) → Prop
abbrev TD := Env' → KD → KE → Prop
/-- what is only looked at: data, or what a name holds then -/
inductive Hd where
  | val (d : D)
  | var (i : Nat)
abbrev TB := Env' → (Hd → Env' → Prop) → KE → Prop
abbrev TTt := Env' → (Bool → Env' → Prop) → KE → Prop
abbrev TAr := Env' → (List D → Env' → Prop) → KE → Prop
def getB (Γ : Env') : Hd → Option D
  | .val d => some d
  | .var i => match Γ[i]? with
    | some (some (.imm d)) => some d
    | some (some (.own d)) => some d
    | some (some (.lent d)) => some d
    | _ => none
def FsR (K : PySem.W.Frag) (F : Hp) (zs : List (Str × V)) (fs : List (Str × D)) : Prop := zs.map (·.1) = fs.map (·.1) ∧ Dqs K F (zs.map (·.2)) (fs.map (·.2))
/-- what is wanted of exceptions, told by data -/
def XW (K : PySem.W.Frag) (mg : Str → Option Value) (B : Bs) (Ke : KE) (E : XK) : Prop :=
  ∀ (c : Str) (fs : List (Str × D)) (C dd : Addr) (H' F' : Hp) (zs : List (Str × V)), Ke c fs → mg c = some (.ref C) → H' dd = some (.xd zs) → FsR K F' zs fs → Same F' H' → FD F' →
    (∀ a o, B.H0 a = some o → a ∉ B.M → H' a = some o) → (∀ a o, F' a = some o → B.F0 a = some o ∨ B.H0 a = none) → E (.ref C) (some dd) H'
def RR (fam : Fam) (K : PySem.W.Frag) (B : Bs) (A : List Addr) (σ : St) (Γ : Env') (H F : Hp) (v : V) : Slot → Prop
  | .imm d => Dq K F v d
  | .own d => RS fam K B A H F v (.own d) ∧ ∀ i, ownAt Γ i → σ[i]? ≠ some (some v)
  | .nds ks => RS fam K B A H F v (.nds ks) ∧ ∀ i, ownAt Γ i → σ[i]? ≠ some (some v)
  | _ => False
def HdR (K : PySem.W.Frag) (F : Hp) (σ : St) (v : V) : Hd → Prop
  | .val d => Dq K F v d
  | .var i => σ[i]? = some (some v)
def PD (fam : Fam) (X : Cx) (E : XK) (e : Expr) (t : TD) : Prop := ∃ te : TE, PE X e te ∧ ∀ (B : Bs) (A : List Addr) (σ : St) (H F : Hp) (Γ : Env') (Kd : KD) (Ke : KE) (Q : VK), IV fam X.K B A σ H F Γ → t Γ Kd Ke → XW X.K X.mg B Ke E →
  (∀ s Γ' v H' F', Kd s Γ' → Same F F' → IV fam X.K B A σ H' F' Γ' → RR fam X.K B A σ Γ' H' F' v s → Q v H') → te σ H Q
def PB (fam : Fam) (X : Cx) (E : XK) (e : Expr) (t : TB) : Prop := ∃ te : TE, PE X e te ∧ ∀ (B : Bs) (A : List Addr) (σ : St) (H F : Hp) (Γ : Env') (Kb : Hd → Env' → Prop) (Ke : KE) (Q : VK), IV fam X.K B A σ H F Γ → t Γ Kb Ke → XW X.K X.mg B Ke E →
  (∀ h Γ' v H' F', Kb h Γ' → Same F F' → IV fam X.K B A σ H' F' Γ' → HdR X.K F' σ v h → Q v H') → te σ H Q
def PTt (fam : Fam) (X : Cx) (E : XK) (e : Expr) (t : TTt) : Prop := ∃ te : TT, PT X e te ∧ ∀ (B : Bs) (A : List Addr) (σ : St) (H F : Hp) (Γ : Env') (Kt : Bool → Env' → Prop) (Ke : KE) (Q : Bool → Hp → Prop), IV fam X.K B A σ H F Γ → t Γ Kt Ke → XW X.K X.mg B Ke E →
  (∀ b Γ' H' F', Kt b Γ' → Same F F' → IV fam X.K B A σ H' F' Γ' → Q b H') → te σ H Q
def PAr (fam : Fam) (X : Cx) (E : XK) (es : List Expr) (t : TAr) : Prop := ∃ te : TA, PA X es te ∧ ∀ (B : Bs) (A : List Addr) (σ : St) (H F : Hp) (Γ : Env') (Ka : List D → Env' → Prop) (Ke : KE) (Q : List V → Hp → Prop), IV fam X.K B A σ H F Γ → t Γ Ka Ke → XW X.K X.mg B Ke E →
  (∀ ds Γ' vs H' F', Ka ds Γ' → Same F F' → IV fam X.K B A σ H' F' Γ' → Dqs X.K F' vs ds → Q vs H') → te σ H Q
section
variable {fam : Fam} {K : PySem.W.Frag} {B : Bs} {A : List Addr} {σ : St} {H F H' F' : Hp} {Γ : Env'} {p : Addr} {o : HO} {v : V} {s : Slot} {h : Hd}
theorem HdR.up (r : HdR K F σ v h) (s : Same F F') : HdR K F' σ v h := by
  cases h with
  | val d => exact Dq.up (show Dq K F v d from r) s
  | var i => exact r
theorem getB_at {Γ : Env'} {i : Nat} {d : D} (g : getB Γ (.var i) = some d) : Γ[i]? = some (some (.imm d)) ∨ Γ[i]? = some (some (.own d)) ∨ Γ[i]? = some (some (.lent d)) := by
  have g : (match Γ[i]? with
    | some (some (.imm d)) => some d
    | some (some (.own d)) => some d
    | some (some (.lent d)) => some d
    | _ => none) = some d := g
  match h : Γ[i]?, g with
  | some (some (.imm x)), g => exact .inl (by rw [Option.some.inj g])
  | some (some (.own x)), g => exact .inr (.inl (by rw [Option.some.inj g]))
  | some (some (.lent x)), g => exact .inr (.inr (by rw [Option.some.inj g]))
/-- what is looked at: its data in the heap, or its spine there and its items fixed -/
theorem HdR.cases (I : IV fam K B A σ H F Γ) (r : HdR K F σ v h) {d : D} (g : getB Γ h = some d) : Dq K F v d ∨ ∃ p, v = .ref p ∧ OC K H F p d := by
  cases h with
  | val e =>
    cases g
    exact .inl r
  | var i =>
    have r : σ[i]? = some (some v) := r
    rcases getB_at g with e | e | e
    · obtain ⟨u, eu, q⟩ := I.var i _ e
      rw [r] at eu
      cases eu
      exact .inl q
    · obtain ⟨u, eu, p, rfl, _, _, _, q⟩ := I.var i _ e
      rw [r] at eu
      cases eu
      exact .inr ⟨p, rfl, q⟩
    · obtain ⟨u, eu, p, rfl, _, _, _, q⟩ := I.var i _ e
      rw [r] at eu
      cases eu
      exact .inr ⟨p, rfl, q⟩
theorem HdR.dq (I : IV fam K B A σ H F Γ) (r : HdR K F σ v h) {d : D} (g : getB Γ h = some d) : Dq K H v d := by
  rcases r.cases I g with q | ⟨p, rfl, q⟩
  · exact q.up I.sub
  · exact q.dq I.sub fun _ z => z
theorem HdR.list (I : IV fam K B A σ H F Γ) (r : HdR K F σ v h) {ds : List D} (g : getB Γ h = some (.list ds)) : ∃ p vs, v = .ref p ∧ SqL K H p vs ∧ Dqs K F vs ds := by
  rcases r.cases I g with q | ⟨p, rfl, q⟩
  · cases q with
    | lst a b => exact ⟨_, _, rfl, I.sub.seq a, b⟩
  · obtain ⟨vs, e, q⟩ := q
    exact ⟨p, vs, rfl, SqL.of e, q⟩
theorem HdR.tup (I : IV fam K B A σ H F Γ) (r : HdR K F σ v h) {ds : List D} (g : getB Γ h = some (.tuple ds)) : ∃ p vs, v = .ref p ∧ SqT K H p vs ∧ Dqs K F vs ds := by
  rcases r.cases I g with q | ⟨p, rfl, q⟩
  · cases q with
    | tup a b => exact ⟨_, _, rfl, sqT_same I.sub a, b⟩
  · exact q.elim
theorem HdR.dic (I : IV fam K B A σ H F Γ) (r : HdR K F σ v h) {kvs : List (D × D)} (g : getB Γ h = some (.dict kvs)) : ∃ p ps, v = .ref p ∧ H p = some (.dK ps) ∧ Dqk K F ps kvs := by
  rcases r.cases I g with q | ⟨p, rfl, q⟩
  · cases q with
    | dic a b => exact ⟨_, _, rfl, I.sub _ _ a, b⟩
  · obtain ⟨ps, e, q⟩ := q
    exact ⟨p, ps, rfl, e, q⟩
theorem HdR.int (I : IV fam K B A σ H F Γ) (r : HdR K F σ v h) {i : Int} (g : getB Γ h = some (.int i)) : v = .int i := by
  rcases r.cases I g with q | ⟨p, rfl, q⟩
  · cases q
    rfl
  · exact q.elim
theorem HdR.str (I : IV fam K B A σ H F Γ) (r : HdR K F σ v h) {i : Str} (g : getB Γ h = some (.str i)) : v = .str i := by
  rcases r.cases I g with q | ⟨p, rfl, q⟩
  · cases q
    rfl
  · exact q.elim
theorem HdR.bl (I : IV fam K B A σ H F Γ) (r : HdR K F σ v h) {i : Bool} (g : getB Γ h = some (.bool i)) : v = .bl i := by
  rcases r.cases I g with q | ⟨p, rfl, q⟩
  · cases q
    rfl
  · exact q.elim
theorem HdR.non (I : IV fam K B A σ H F Γ) (r : HdR K F σ v h) (g : getB Γ h = some .none) : v = .non := by
  rcases r.cases I g with q | ⟨p, rfl, q⟩
  · cases q
    rfl
  · exact q.elim
/-! how a reading is closed -/
theorem end_tup {Kd : Slot → Prop} {Q : VK} (I : IV fam K B A σ H F Γ) (fin : ∀ s v H' F', Kd s → Same F F' → IV fam K B A σ H' F' Γ → RR fam K B A σ Γ H' F' v s → Q v H') {vs : List V} {ds : List D} (q : Dqs K F vs ds) (k : Kd (.imm (.tuple ds))) {p : Addr} (np : H p = none) : Q (.ref p) (upd H p (.tup vs)) :=
  fin _ _ _ _ k (same_new (I.noneF np)) (I.made np) (.tup (SqT.of upd_same) (q.up (same_new (I.noneF np))))
theorem end_lst {Kd : Slot → Prop} {Q : VK} (I : IV fam K B A σ H F Γ) (fin : ∀ s v H' F', Kd s → Same F F' → IV fam K B A σ H' F' Γ → RR fam K B A σ Γ H' F' v s → Q v H') {vs : List V} {ds : List D} (q : Dqs K F vs ds) (k : Kd (.own (.list ds))) {p : Addr} (np : H p = none) : Q (.ref p) (upd H p (.lst vs)) :=
  fin _ _ _ _ k (Same.refl _) (I.fresh np) ⟨⟨p, rfl, I.none0 np, I.noneF np, I.noneA np, vs, upd_same, q⟩, I.freshOwn np⟩
theorem end_dic {Kd : Slot → Prop} {Q : VK} (I : IV fam K B A σ H F Γ) (fin : ∀ s v H' F', Kd s → Same F F' → IV fam K B A σ H' F' Γ → RR fam K B A σ Γ H' F' v s → Q v H') {ps : List (Key × V)} {kvs : List (D × D)} (q : Dqk K F ps kvs) (k : Kd (.own (.dict kvs))) {p : Addr} (np : H p = none) : Q (.ref p) (upd H p (.dK ps)) :=
  fin _ _ _ _ k (Same.refl _) (I.fresh np) ⟨⟨p, rfl, I.none0 np, I.noneF np, I.noneA np, ps, upd_same, q⟩, I.freshOwn np⟩
/-- scalars -/
inductive Sc : V → D → Prop
  | non : Sc .non .none
  | bl (b : Bool) : Sc (.bl b) (.bool b)
  | int (i : Int) : Sc (.int i) (.int i)
  | str (x : Str) : Sc (.str x) (.str x)
theorem Sc.dq {v : V} {d : D} (h : Sc v d) : Dq K F v d := by
  cases h with
  | non => exact .non
  | bl b => exact .bl b
  | int i => exact .int i
  | str x => exact .str x
theorem end_sc {Kd : Slot → Prop} {Q : VK} (I : IV fam K B A σ H F Γ) (fin : ∀ s v H' F', Kd s → Same F F' → IV fam K B A σ H' F' Γ → RR fam K B A σ Γ H' F' v s → Q v H') {d : D} (q : Sc v d) (k : Kd (.imm d)) : Q v H :=
  fin _ _ _ _ k (Same.refl _) I (show Dq K F v d from q.dq)
/-- a result that is handed on is fixed -/
theorem RR.fix (I : IV fam K B A σ H F Γ) {d : D} (r : RR fam K B A σ Γ H F v (.own d)) : ∃ F', Same F F' ∧ IV fam K B A σ H F' Γ ∧ Dq K F' v d := by
  obtain ⟨⟨p, rfl, h0, f0, na, oc⟩, no⟩ := r
  obtain ⟨o, e, nt, _⟩ := oc.trkN
  refine ⟨_, same_new f0, I.fix e nt h0 f0 na no, oc.dq (same_new f0) fun x ex => ?_⟩
  rw [e] at ex
  cases ex
  exact upd_same
end
/-- the data of a result -/
def Slot.d? : Slot → Option D
  | .imm d => some d
  | .own d => some d
  | _ => none
section
variable {fam : Fam} {X : Cx} {E : XK} {a b e : Expr} {pos : Pos}
/-- handed on as fixed data -/
theorem RR.give {K : PySem.W.Frag} {B : Bs} {A : List Addr} {σ : St} {H F : Hp} {Γ : Env'} {v : V} {s : Slot} (I : IV fam K B A σ H F Γ) {d : D} (r : RR fam K B A σ Γ H F v s) (e : s.d? = some d) : ∃ F', Same F F' ∧ IV fam K B A σ H F' Γ ∧ Dq K F' v d := by
  cases s with
  | imm x =>
    cases e
    exact ⟨F, Same.refl _, I, r⟩
  | own x =>
    cases e
    exact r.fix I
  | lent x => exact r.elim
  | drw n => exact r.elim
  | nds ks => cases e
/-! names, constants -/
def dC (d : D) : TD := fun Γ Kd _ => Kd (.imm d) Γ
theorem pd_sc {v : V} {d : D} (h : PE X e (tC v)) (c : Sc v d) : PD fam X E e (dC d) := ⟨_, h, fun B A σ H F Γ Kd Ke Q I t w fin => fin _ _ _ _ _ t (Same.refl _) I c.dq⟩
theorem pd_int {i : Int} {j} : PD fam X E (.Constant (.int i) j pos) (dC (.int i)) := pd_sc pe_int (.int i)
theorem pd_bl {i : Bool} {j} : PD fam X E (.Constant (.bool i) j pos) (dC (.bool i)) := pd_sc pe_bl (.bl i)
theorem pd_str {i : Str} {j} : PD fam X E (.Constant (.str i) j pos) (dC (.str i)) := pd_sc pe_str (.str i)
theorem pd_non {j} : PD fam X E (.Constant .none j pos) (dC .none) := pd_sc pe_non .non
/-- a name as a value: what was its own is fixed -/
def dVar (i : Nat) : TD := fun Γ Kd _ => match Γ[i]? with
  | some (some (.imm d)) => Kd (.imm d) Γ
  | some (some (.own d)) => Kd (.imm d) (Γ.set i (some (.imm d)))
  | _ => False
theorem set_at {Γ : Env'} {i j : Nat} {s t : Option Slot} (h : (Γ.set i s)[j]? = some t) : (j = i ∧ t = s) ∨ (j ≠ i ∧ Γ[j]? = some t) := by
  by_cases c : j = i
  · subst c
    refine .inl ⟨rfl, ?_⟩
    rw [List.getElem?_set] at h
    simp only [if_true] at h
    split at h
    · exact (Option.some.inj h).symm
    · cases h
  · refine .inr ⟨c, ?_⟩
    rwa [List.getElem?_set_ne (Ne.symm c)] at h
theorem own_set {Γ : Env'} {i j : Nat} {s : Option Slot} (h : ownAt (Γ.set i s) j) : (j = i ∧ ∃ s', s = some s' ∧ s'.isOwn = true) ∨ (j ≠ i ∧ ownAt Γ j) := by
  obtain ⟨s', q, o⟩ := h
  rcases set_at q with ⟨rfl, z⟩ | ⟨c, z⟩
  · exact .inl ⟨rfl, s', z.symm, o⟩
  · exact .inr ⟨c, s', z, o⟩
section
variable {K : PySem.W.Frag} {B : Bs} {A : List Addr} {σ : St} {H F : Hp} {Γ : Env'}
/-- a slot forgotten -/
theorem IV.drop (I : IV fam K B A σ H F Γ) (i : Nat) : IV fam K B A σ H F (Γ.set i none) := by
  refine ⟨I.sub, I.keep, I.new, I.old, by rw [List.length_set]; exact I.len, fun j s es => ?_, fun j l jl oj ol => ?_, I.mA, I.tA, fun j l n m ej el => ?_, I.inv, I.ft, I.h0⟩
  · rcases set_at es with ⟨_, z⟩ | ⟨_, z⟩
    · cases z
    · exact I.var j s z
  · rcases own_set oj with ⟨_, d, z, zo⟩ | ⟨_, oj⟩
    · cases z <;> cases zo
    · rcases own_set ol with ⟨_, d, z, zo⟩ | ⟨_, ol⟩
      · cases z <;> cases zo
      · exact I.dis j l jl oj ol
  · rcases set_at ej with ⟨_, z⟩ | ⟨_, z1⟩
    · cases z
    · rcases set_at el with ⟨_, z⟩ | ⟨_, z2⟩
      · cases z
      · exact I.one j l n m z1 z2
/-- a slot's value told otherwise -/
theorem IV.tell (I : IV fam K B A σ H F Γ) {i : Nat} {v : V} {s : Slot} (e : σ[i]? = some (some v)) (r : RS fam K B A H F v s) (no : s.isOwn = true → ∀ j, j ≠ i → ownAt Γ j → σ[j]? ≠ some (some v)) (nd : ∀ n, s ≠ .drw n := by intro n z; cases z) : IV fam K B A σ H F (Γ.set i (some s)) := by
  refine ⟨I.sub, I.keep, I.new, I.old, by rw [List.length_set]; exact I.len, fun j t es => ?_, fun j l jl oj ol => ?_, I.mA, I.tA, fun j l n m ej el => ?_, I.inv, I.ft, I.h0⟩
  · rcases set_at es with ⟨rfl, z⟩ | ⟨_, z⟩
    · cases z
      exact ⟨v, e, r⟩
    · exact I.var j t z
  · rcases own_set oj with ⟨ej, d, zj, oz⟩ | ⟨nj, oj2⟩
    · rcases own_set ol with ⟨el, _⟩ | ⟨nl, ol2⟩
      · exact absurd (ej.trans el.symm) jl
      · have q := no (by rw [Option.some.inj zj]; exact oz) l nl ol2
        rw [ej, e]
        exact fun z => q z.symm
    · rcases own_set ol with ⟨el, d, zl, oz⟩ | ⟨nl, ol2⟩
      · have q := no (by rw [Option.some.inj zl]; exact oz) j nj oj2
        rw [el, e]
        exact q
      · exact I.dis j l jl oj2 ol2
  · rcases set_at ej with ⟨_, z⟩ | ⟨_, z1⟩
    · exact absurd (Option.some.inj z).symm (nd n)
    · rcases set_at el with ⟨_, z⟩ | ⟨_, z2⟩
      · exact absurd (Option.some.inj z).symm (nd m)
      · exact I.one j l n m z1 z2
/-- a slot is given up as owner: it holds fixed data now -/
theorem IV.give (I : IV fam K B A σ H F Γ) {i : Nat} {d : D} (e : Γ[i]? = some (some (.own d))) : ∃ v F', σ[i]? = some (some v) ∧ Same F F' ∧ Dq K F' v d ∧ IV fam K B A σ H F' (Γ.set i (some (.imm d))) := by
  obtain ⟨v, ev, p, rfl, h0, f0, na, oc⟩ := I.var i _ e
  obtain ⟨o, eo, nt, _⟩ := oc.trkN
  have S : Same F (upd F p o) := same_new f0
  have dq : Dq K (upd F p o) (.ref p) d := oc.dq S fun x ex => by
    rw [eo] at ex
    cases ex
    exact upd_same
  have I1 := (I.drop i).fix eo nt h0 f0 na fun j oj => by
    rcases own_set oj with ⟨rfl, _, z, zo⟩ | ⟨nj, oj⟩
    · cases z <;> cases zo
    · rw [← ev]
      exact I.dis j i nj oj ⟨_, e, rfl⟩
  have I2 := I1.tell (s := .imm d) ev dq fun z => by cases z
  rw [List.set_set] at I2
  exact ⟨_, _, ev, S, dq, I2⟩
end
theorem pd_var {i : Nat} {x : Str} (h : PE X (.Name x pos) (tVar i)) : PD fam X E (.Name x pos) (dVar i) := by
  refine ⟨_, h, fun B A σ H F Γ Kd Ke Q I t w fin => ?_⟩
  have t : (match Γ[i]? with
    | some (some (.imm d)) => Kd (.imm d) Γ
    | some (some (.own d)) => Kd (.imm d) (Γ.set i (some (.imm d)))
    | _ => False) := t
  match e : Γ[i]?, t with
  | some (some (.imm d)), t =>
    obtain ⟨v, ev, r⟩ := I.var i _ e
    exact ⟨v, ev, fin _ _ _ _ _ t (Same.refl _) I r⟩
  | some (some (.own d)), t =>
    obtain ⟨v, F', ev, S, dq, I2⟩ := I.give e
    exact ⟨v, ev, fin _ _ _ _ _ t S I2 dq⟩
/-- a name's own thing, given away: the name holds nothing any more -/
def dMove (i : Nat) : TD := fun Γ Kd _ => match Γ[i]? with
  | some (some (.imm d)) => Kd (.imm d) Γ
  | some (some (.own d)) => Kd (.own d) (Γ.set i none)
  | _ => False
theorem pd_move {i : Nat} {x : Str} (h : PE X (.Name x pos) (tVar i)) : PD fam X E (.Name x pos) (dMove i) := by
  refine ⟨_, h, fun B A σ H F Γ Kd Ke Q I t w fin => ?_⟩
  have t : (match Γ[i]? with
    | some (some (.imm d)) => Kd (.imm d) Γ
    | some (some (.own d)) => Kd (.own d) (Γ.set i none)
    | _ => False) := t
  match e : Γ[i]?, t with
  | some (some (.imm d)), t =>
    obtain ⟨v, ev, r⟩ := I.var i _ e
    exact ⟨v, ev, fin _ _ _ _ _ t (Same.refl _) I r⟩
  | some (some (.own d)), t =>
    obtain ⟨v, ev, r⟩ := I.var i _ e
    refine ⟨v, ev, fin _ _ _ _ _ t (Same.refl _) (I.drop i) ⟨r, fun j oj => ?_⟩⟩
    rcases own_set oj with ⟨rfl, _, z, zo⟩ | ⟨nj, oj⟩
    · cases z <;> cases zo
    · rw [← ev]
      exact I.dis j i nj oj ⟨_, e, rfl⟩
/-- a name that is only looked at -/
def bVar (i : Nat) : TB := fun Γ Kb _ => match getB Γ (.var i) with
  | some _ => Kb (.var i) Γ
  | none => False
theorem pb_var {i : Nat} {x : Str} (h : PE X (.Name x pos) (tVar i)) : PB fam X E (.Name x pos) (bVar i) := by
  refine ⟨_, h, fun B A σ H F Γ Kb Ke Q I t w fin => ?_⟩
  have t : (match getB Γ (.var i) with
    | some _ => Kb (.var i) Γ
    | none => False) := t
  match g : getB Γ (.var i), t with
  | some d, t =>
    have : ∃ s, Γ[i]? = some (some s) := by
      rcases getB_at g with e | e | e
      · exact ⟨_, e⟩
      · exact ⟨_, e⟩
      · exact ⟨_, e⟩
    obtain ⟨s, e⟩ := this
    obtain ⟨v, ev, _⟩ := I.var i s e
    exact ⟨v, ev, fin _ _ _ _ _ t (Same.refl _) I ev⟩
/-- any expression, only looked at -/
def bOf (t : TD) : TB := fun Γ Kb Ke => t Γ (fun s Γ' => match s.d? with
  | some d => Kb (.val d) Γ'
  | none => False) Ke
theorem pb_of {t : TD} (h : PD fam X E e t) : PB fam X E e (bOf t) := by
  obtain ⟨te, he, h⟩ := h
  refine ⟨te, he, fun B A σ H F Γ Kb Ke Q I t w fin => ?_⟩
  refine h B A σ H F Γ _ Ke Q I t w fun s Γ' v H' F' k S I' r => ?_
  match e : s.d?, k with
  | some d, k =>
    obtain ⟨F2, S2, I2, dq⟩ := r.give I' e
    exact fin _ _ _ _ _ k (S.trans S2) I2 dq
/-- as a value: fixed -/
def dFix (t : TB) : TD := fun Γ Kd Ke => t Γ (fun h Γ' => match h with
  | .val d => Kd (.imm d) Γ'
  | .var _ => False) Ke
/-! two operands -/
/-- an operation by data -/
def DOp (fam : Fam) (X : Cx) (f : Value → Value → Sem Value) (g : D → D → (Slot → Prop) → Prop) : Prop := ∃ r : R2, OpR X f r ∧ ∀ (B : Bs) (A : List Addr) (σ : St) (H F : Hp) (Γ : Env') (x y : V) (h1 h2 : Hd) (d1 d2 : D) (Kd : Slot → Prop) (Q : VK), IV fam X.K B A σ H F Γ → HdR X.K F σ x h1 → getB Γ h1 = some d1 → HdR X.K F σ y h2 → getB Γ h2 = some d2 → g d1 d2 Kd →
  (∀ s v H' F', Kd s → Same F F' → IV fam X.K B A σ H' F' Γ → RR fam X.K B A σ Γ H' F' v s → Q v H') → r x y H Q
def dBin (g : D → D → (Slot → Prop) → Prop) (ta tb : TB) : TD := fun Γ Kd Ke => ta Γ (fun h1 Γ1 => tb Γ1 (fun h2 Γ2 => match getB Γ2 h1, getB Γ2 h2 with
  | some d1, some d2 => g d1 d2 fun s => Kd s Γ2
  | _, _ => False) Ke) Ke
theorem bin_run {ta tb : TB} {f : Value → Value → Sem Value} {g : D → D → (Slot → Prop) → Prop} (ho : DOp fam X f g) (ha : PB fam X E a ta) (hb : PB fam X E b tb) : ∃ r tea teb, OpR X f r ∧ PE X a tea ∧ PE X b teb ∧ ∀ (B : Bs) (A : List Addr) (σ : St) (H F : Hp) (Γ : Env') (Kd : KD) (Ke : KE) (Q : VK), IV fam X.K B A σ H F Γ → dBin g ta tb Γ Kd Ke → XW X.K X.mg B Ke E →
    (∀ s Γ' v H' F', Kd s Γ' → Same F F' → IV fam X.K B A σ H' F' Γ' → RR fam X.K B A σ Γ' H' F' v s → Q v H') → tOp r tea teb σ H Q := by
  obtain ⟨r, hr, ho⟩ := ho
  obtain ⟨tea, pa, ha⟩ := ha
  obtain ⟨teb, pb, hb⟩ := hb
  refine ⟨r, tea, teb, hr, pa, pb, fun B A σ H F Γ Kd Ke Q I t w fin => ?_⟩
  refine ha B A σ H F Γ _ Ke _ I t w fun h1 Γ1 v1 H1 F1 k1 S1 I1 r1 => ?_
  refine hb B A σ H1 F1 Γ1 _ Ke _ I1 k1 w fun h2 Γ2 v2 H2 F2 k2 S2 I2 r2 => ?_
  match e1 : getB Γ2 h1, e2 : getB Γ2 h2, k2 with
  | some d1, some d2, k2 => exact ho B A σ H2 F2 Γ2 v1 v2 h1 h2 d1 d2 _ Q I2 (r1.up S2) e1 r2 e2 k2 fun s v H' F' k S I' rr => fin _ _ _ _ _ k ((S1.trans S2).trans S) I' rr
theorem pd_op {op : Operator} {ta tb : TB} {g : D → D → (Slot → Prop) → Prop} (ho : DOp fam X (binaryOp op) g) (ha : PB fam X E a ta) (hb : PB fam X E b tb) : PD fam X E (.BinOp a op b pos) (dBin g ta tb) := by
  obtain ⟨r, tea, teb, hr, pa, pb, run⟩ := bin_run ho ha hb
  exact ⟨_, pe_op hr pa pb, run⟩
theorem pd_cmp {op : CmpOp} {ta tb : TB} {g : D → D → (Slot → Prop) → Prop} (ho : DOp fam X (compareOp op) g) (ha : PB fam X E a ta) (hb : PB fam X E b tb) (hm : behindInMarks op b = false) : PD fam X E (.Compare a [op] [b] pos) (dBin g ta tb) := by
  obtain ⟨r, tea, teb, hr, pa, pb, run⟩ := bin_run ho ha hb
  exact ⟨_, pe_cmpR hr pa pb hm, run⟩
/-- a truth -/
def dTest (t : TD) : TTt := fun Γ Kt Ke => t Γ (fun s Γ' => match s with
  | .imm (.bool b) => Kt b Γ'
  | _ => False) Ke
theorem test_run {te : TE} {t : TD} (h : ∀ (B : Bs) (A : List Addr) (σ : St) (H F : Hp) (Γ : Env') (Kd : KD) (Ke : KE) (Q : VK), IV fam X.K B A σ H F Γ → t Γ Kd Ke → XW X.K X.mg B Ke E →
    (∀ s Γ' v H' F', Kd s Γ' → Same F F' → IV fam X.K B A σ H' F' Γ' → RR fam X.K B A σ Γ' H' F' v s → Q v H') → te σ H Q) :
    ∀ (B : Bs) (A : List Addr) (σ : St) (H F : Hp) (Γ : Env') (Kt : Bool → Env' → Prop) (Ke : KE) (Q : Bool → Hp → Prop), IV fam X.K B A σ H F Γ → dTest t Γ Kt Ke → XW X.K X.mg B Ke E →
    (∀ b Γ' H' F', Kt b Γ' → Same F F' → IV fam X.K B A σ H' F' Γ' → Q b H') → te σ H (fun x H' => ∃ k, x = .bl k ∧ Q k H') := by
  intro B A σ H F Γ Kt Ke Q I t w fin
  refine h B A σ H F Γ _ Ke _ I t w fun s Γ' v H' F' k S I' r => ?_
  match s, k, r with
  | .imm (.bool b), k, r =>
    have r : Dq X.K F' v (.bool b) := r
    cases r
    exact ⟨b, rfl, fin _ _ _ _ k S I'⟩
theorem pt_cmpD {op : CmpOp} {ta tb : TB} {g : D → D → (Slot → Prop) → Prop} (ho : DOp fam X (compareOp op) g) (ha : PB fam X E a ta) (hb : PB fam X E b tb) (hm : behindInMarks op b = false) : PTt fam X E (.Compare a [op] [b] pos) (dTest (dBin g ta tb)) := by
  obtain ⟨r, tea, teb, hr, pa, pb, run⟩ := bin_run ho ha hb
  exact ⟨_, pt_cmpR hr pa pb hm, test_run run⟩
theorem pt_valD {t : TD} (h : PD fam X E e t) (he : ∀ whole, isTrue e X.env whole = (do let v ← whole; standAt e.pos; holding [v] (truthy v)) := by intro _; rfl) : PTt fam X E e (dTest t) := by
  obtain ⟨te, pe, h⟩ := h
  refine ⟨_, pt_val pe he, fun B A σ H F Γ Kt Ke Q I t w fin => ?_⟩
  exact test_run h B A σ H F Γ Kt Ke Q I t w fin
end
end L2.Dl

set_option Elab.async false
set_option linter.all false
set_option maxRecDepth 100000
set_option maxHeartbeats 4000000
/-! the data layer: operators -/
namespace L2.Dl
open PySem PySem.Spec PyProof.Rows L2.Sl
section
variable {fam : Fam} {X : Cx}
theorem HdR.tupF {K : PySem.W.Frag} {B : Bs} {A : List Addr} {σ : St} {H F : Hp} {Γ : Env'} {v : V} {h : Hd} (I : IV fam K B A σ H F Γ) (r : HdR K F σ v h) {ds : List D} (g : getB Γ h = some (.tuple ds)) : Dq K F v (.tuple ds) := by
  rcases r.cases I g with q | ⟨p, rfl, q⟩
  · exact q
  · exact q.elim
/-! ### + - * // % ** -/
def gAdd : D → D → (Slot → Prop) → Prop
  | .int i, .int j, k => k (.imm (.int (i + j)))
  | .str a, .str b, k => a.length + b.length ≤ sizeLine ∧ k (.imm (.str (a ++ b)))
  | .list as, .list bs, k => as.length + bs.length ≤ sizeLine ∧ k (.own (.list (as ++ bs)))
  | .tuple as, .tuple bs, k => as.length + bs.length ≤ sizeLine ∧ k (.imm (.tuple (as ++ bs)))
  | _, _, _ => False
theorem do_add : DOp fam X (binaryOp .Add) gAdd := by
  refine ⟨_, op_add.or (op_add_str.or (op_catF.or op_catA)), fun B A σ H F Γ x y h1 h2 d1 d2 Kd Q I r1 e1 r2 e2 g fin => ?_⟩
  match d1, d2, g with
  | .int i, .int j, g => exact .inl ⟨i, j, r1.int I e1, r2.int I e2, end_sc I fin (.int _) g⟩
  | .str i, .str j, g => exact .inr (.inl ⟨i, j, r1.str I e1, r2.str I e2, g.1, end_sc I fin (.str _) g.2⟩)
  | .list as, .list bs, g =>
    obtain ⟨p, vs, rfl, q1, a1⟩ := r1.list I e1
    obtain ⟨p2, us, rfl, q2, a2⟩ := r2.list I e2
    exact .inr (.inr (.inl ⟨p, p2, vs, us, rfl, rfl, q1, q2, by rw [a1.len, a2.len]; exact g.1, fun z nz => end_lst I fin (a1.app a2) g.2 nz⟩))
  | .tuple as, .tuple bs, g =>
    have f1 := r1.tupF I e1
    have f2 := r2.tupF I e2
    obtain ⟨p, vs, rfl, q1, a1⟩ := r1.tup I e1
    obtain ⟨p2, us, rfl, q2, a2⟩ := r2.tup I e2
    refine .inr (.inr (.inr ⟨p, p2, vs, us, rfl, rfl, q1, q2, by rw [a1.len, a2.len]; exact g.1, fun z => ?_, fun z1 z => ?_, fun _ _ z nz => end_tup I fin (a1.app a2) g.2 nz⟩))
    · have e : as = [] := List.eq_nil_of_length_eq_zero (by rw [← a1.len, z] <;> rfl)
      have g2 := g.2
      rw [e, List.nil_append] at g2
      exact fin _ _ _ _ g2 (Same.refl _) I f2
    · have e : bs = [] := List.eq_nil_of_length_eq_zero (by rw [← a2.len, z] <;> rfl)
      have g2 := g.2
      rw [e, List.append_nil] at g2
      exact fin _ _ _ _ g2 (Same.refl _) I f1
def gSub : D → D → (Slot → Prop) → Prop
  | .int i, .int j, k => k (.imm (.int (i - j)))
  | _, _, _ => False
theorem do_sub : DOp fam X (binaryOp .Sub) gSub := by
  refine ⟨_, op_sub, fun B A σ H F Γ x y h1 h2 d1 d2 Kd Q I r1 e1 r2 e2 g fin => ?_⟩
  match d1, d2, g with
  | .int i, .int j, g => exact ⟨i, j, r1.int I e1, r2.int I e2, end_sc I fin (.int _) g⟩
/-- of ints of together less than a million bits -/
def gMul : D → D → (Slot → Prop) → Prop
  | .int i, .int j, k => CMulW i j ∧ k (.imm (.int (i * j)))
  | _, _, _ => False
theorem do_mul : DOp fam X (binaryOp .Mult) gMul := by
  refine ⟨_, op_mulW, fun B A σ H F Γ x y h1 h2 d1 d2 Kd Q I r1 e1 r2 e2 g fin => ?_⟩
  match d1, d2, g with
  | .int i, .int j, g => exact ⟨i, j, r1.int I e1, r2.int I e2, g.1, end_sc I fin (.int _) g.2⟩
/-- by positive ints -/
def gDiv : D → D → (Slot → Prop) → Prop
  | .int i, .int j, k => (0 < j ∧ j.natAbs < 2 ^ 9000) ∧ k (.imm (.int (i / j)))
  | _, _, _ => False
theorem do_div : DOp fam X (binaryOp .FloorDiv) gDiv := by
  refine ⟨_, op_fdivW, fun B A σ H F Γ x y h1 h2 d1 d2 Kd Q I r1 e1 r2 e2 g fin => ?_⟩
  match d1, d2, g with
  | .int i, .int j, g => exact ⟨i, j, r1.int I e1, r2.int I e2, wide_div g.1.1 g.1.2 (by decide) (by decide), end_sc I fin (.int _) g.2⟩
def gMod : D → D → (Slot → Prop) → Prop
  | .int i, .int j, k => 0 < j ∧ k (.imm (.int (i % j)))
  | _, _, _ => False
theorem do_mod : DOp fam X (binaryOp .Mod) gMod := by
  refine ⟨_, op_mod, fun B A σ H F Γ x y h1 h2 d1 d2 Kd Q I r1 e1 r2 e2 g fin => ?_⟩
  match d1, d2, g with
  | .int i, .int j, g => exact ⟨i, j, r1.int I e1, r2.int I e2, g.1, end_sc I fin (.int _) g.2⟩
def gPow : D → D → (Slot → Prop) → Prop
  | .int i, .int j, k => CPow i j ∧ k (.imm (.int (i ^ j.toNat)))
  | _, _, _ => False
theorem do_pow : DOp fam X (binaryOp .Pow) gPow := by
  refine ⟨_, op_pow, fun B A σ H F Γ x y h1 h2 d1 d2 Kd Q I r1 e1 r2 e2 g fin => ?_⟩
  match d1, d2, g with
  | .int i, .int j, g => exact ⟨i, j, r1.int I e1, r2.int I e2, g.1, end_sc I fin (.int _) g.2⟩
/-! ### comparisons -/
def bD (b : Bool) : Slot := .imm (.bool b)
def gLt : D → D → (Slot → Prop) → Prop
  | .int i, .int j, k => k (bD (decide (i < j)))
  | .str i, .str j, k => k (bD (decide (i.cps.toList < j.cps.toList)))
  | _, _, _ => False
theorem do_lt : DOp fam X (compareOp .Lt) gLt := by
  refine ⟨_, op_lt.or op_lt_str, fun B A σ H F Γ x y h1 h2 d1 d2 Kd Q I r1 e1 r2 e2 g fin => ?_⟩
  match d1, d2, g with
  | .int i, .int j, g => exact .inl ⟨i, j, r1.int I e1, r2.int I e2, end_sc I fin (.bl _) g⟩
  | .str i, .str j, g => exact .inr ⟨i, j, r1.str I e1, r2.str I e2, end_sc I fin (.bl _) g⟩
def gLe : D → D → (Slot → Prop) → Prop
  | .int i, .int j, k => k (bD (decide (i ≤ j)))
  | .str i, .str j, k => k (bD (!decide (j.cps.toList < i.cps.toList)))
  | _, _, _ => False
theorem do_le : DOp fam X (compareOp .LtE) gLe := by
  refine ⟨_, op_le.or op_le_str, fun B A σ H F Γ x y h1 h2 d1 d2 Kd Q I r1 e1 r2 e2 g fin => ?_⟩
  match d1, d2, g with
  | .int i, .int j, g => exact .inl ⟨i, j, r1.int I e1, r2.int I e2, end_sc I fin (.bl _) g⟩
  | .str i, .str j, g => exact .inr ⟨i, j, r1.str I e1, r2.str I e2, end_sc I fin (.bl _) g⟩
def gGt : D → D → (Slot → Prop) → Prop
  | .int i, .int j, k => k (bD (decide (j < i)))
  | .str i, .str j, k => k (bD (decide (j.cps.toList < i.cps.toList)))
  | _, _, _ => False
theorem do_gt : DOp fam X (compareOp .Gt) gGt := by
  refine ⟨_, op_gt.or op_gt_str, fun B A σ H F Γ x y h1 h2 d1 d2 Kd Q I r1 e1 r2 e2 g fin => ?_⟩
  match d1, d2, g with
  | .int i, .int j, g => exact .inl ⟨i, j, r1.int I e1, r2.int I e2, end_sc I fin (.bl _) g⟩
  | .str i, .str j, g => exact .inr ⟨i, j, r1.str I e1, r2.str I e2, end_sc I fin (.bl _) g⟩
def gGe : D → D → (Slot → Prop) → Prop
  | .int i, .int j, k => k (bD (decide (j ≤ i)))
  | .str i, .str j, k => k (bD (!decide (i.cps.toList < j.cps.toList)))
  | _, _, _ => False
theorem do_ge : DOp fam X (compareOp .GtE) gGe := by
  refine ⟨_, op_ge.or op_ge_str, fun B A σ H F Γ x y h1 h2 d1 d2 Kd Q I r1 e1 r2 e2 g fin => ?_⟩
  match d1, d2, g with
  | .int i, .int j, g => exact .inl ⟨i, j, r1.int I e1, r2.int I e2, end_sc I fin (.bl _) g⟩
  | .str i, .str j, g => exact .inr ⟨i, j, r1.str I e1, r2.str I e2, end_sc I fin (.bl _) g⟩
/-- data that == and in can be asked of -/
def fits (d : D) : Bool := flat d && SeqAt.shaped d
theorem fits_flat {d : D} (h : fits d = true) : flat d = true := (Bool.and_eq_true_iff.mp h).1
theorem fits_shaped {d : D} (h : fits d = true) : SeqAt.shaped d = true := (Bool.and_eq_true_iff.mp h).2
def gEq : D → D → (Slot → Prop) → Prop
  | .int i, .int j, k => k (bD (decide (i = j)))
  | .str i, .str j, k => k (bD (decide (i = j)))
  | d, e, k => fits d = true ∧ fits e = true ∧ k (bD (PyData.eqv d e))
def gNe : D → D → (Slot → Prop) → Prop
  | .int i, .int j, k => k (bD (!decide (i = j)))
  | .str i, .str j, k => k (bD (!decide (i = j)))
  | d, e, k => fits d = true ∧ fits e = true ∧ k (bD (!PyData.eqv d e))
theorem gEq_all {d e : D} {k : Slot → Prop} (g : gEq d e k) : (∃ i j, d = .int i ∧ e = .int j ∧ k (bD (decide (i = j)))) ∨ (∃ i j, d = .str i ∧ e = .str j ∧ k (bD (decide (i = j)))) ∨ (fits d = true ∧ fits e = true ∧ k (bD (PyData.eqv d e))) := by
  unfold gEq at g
  split at g
  · exact .inl ⟨_, _, rfl, rfl, g⟩
  · exact .inr (.inl ⟨_, _, rfl, rfl, g⟩)
  · exact .inr (.inr g)
theorem gNe_all {d e : D} {k : Slot → Prop} (g : gNe d e k) : (∃ i j, d = .int i ∧ e = .int j ∧ k (bD (!decide (i = j)))) ∨ (∃ i j, d = .str i ∧ e = .str j ∧ k (bD (!decide (i = j)))) ∨ (fits d = true ∧ fits e = true ∧ k (bD (!PyData.eqv d e))) := by
  unfold gNe at g
  split at g
  · exact .inl ⟨_, _, rfl, rfl, g⟩
  · exact .inr (.inl ⟨_, _, rfl, rfl, g⟩)
  · exact .inr (.inr g)
theorem vint {i j : Int} : decide (V.int i = V.int j) = decide (i = j) := by simp
theorem vstr {i j : Str} : decide (V.str i = V.str j) = decide (i = j) := by simp
theorem do_eq (hu : X.A.units + 64 < cLine) : DOp fam X (compareOp .Eq) gEq := by
  refine ⟨_, op_eq.or (op_eqD hu), fun B A σ H F Γ x y h1 h2 d1 d2 Kd Q I r1 e1 r2 e2 g fin => ?_⟩
  rcases gEq_all g with ⟨i, j, rfl, rfl, k⟩ | ⟨i, j, rfl, rfl, k⟩ | ⟨f1, f2, k⟩
  · rw [r1.int I e1, r2.int I e2]
    refine .inl ⟨rfl, ?_⟩
    rw [vint]
    exact end_sc I fin (.bl _) k
  · rw [r1.str I e1, r2.str I e2]
    refine .inl ⟨rfl, ?_⟩
    rw [vstr]
    exact end_sc I fin (.bl _) k
  · exact .inr ⟨d1, d2, Dq.dp _ _ (fits_flat f1) (r1.dq I e1), Dq.dp _ _ (fits_flat f2) (r2.dq I e2), fits_shaped f1, fits_shaped f2, end_sc I fin (.bl _) k⟩
theorem do_ne (hu : X.A.units + 64 < cLine) : DOp fam X (compareOp .NotEq) gNe := by
  refine ⟨_, op_ne.or (op_neD hu), fun B A σ H F Γ x y h1 h2 d1 d2 Kd Q I r1 e1 r2 e2 g fin => ?_⟩
  rcases gNe_all g with ⟨i, j, rfl, rfl, k⟩ | ⟨i, j, rfl, rfl, k⟩ | ⟨f1, f2, k⟩
  · rw [r1.int I e1, r2.int I e2]
    refine .inl ⟨rfl, ?_⟩
    rw [vint]
    exact end_sc I fin (.bl _) k
  · rw [r1.str I e1, r2.str I e2]
    refine .inl ⟨rfl, ?_⟩
    rw [vstr]
    exact end_sc I fin (.bl _) k
  · exact .inr ⟨d1, d2, Dq.dp _ _ (fits_flat f1) (r1.dq I e1), Dq.dp _ _ (fits_flat f2) (r2.dq I e2), fits_shaped f1, fits_shaped f2, end_sc I fin (.bl _) k⟩
/-- is None -/
def nonD : D → Bool
  | .none => true
  | _ => false
def gIsN : D → D → (Slot → Prop) → Prop
  | d, .none, k => k (bD (nonD d))
  | _, _, _ => False
theorem isN_dq {K : PySem.W.Frag} {H : Hp} {v : V} {d : D} (q : Dq K H v d) : decide (v = .non) = nonD d := by
  cases q <;> rfl
theorem do_isN : DOp fam X (compareOp .Is) gIsN := by
  refine ⟨_, op_isN, fun B A σ H F Γ x y h1 h2 d1 d2 Kd Q I r1 e1 r2 e2 g fin => ?_⟩
  cases d2 with
  | none =>
    have g : Kd (bD (nonD d1)) := by cases d1 <;> exact g
    refine ⟨r2.non I e2, ?_⟩
    rw [isN_dq (r1.dq I e1)]
    exact end_sc I fin (.bl _) g
  | _ => cases d1 <;> exact g.elim
def gNotN : D → D → (Slot → Prop) → Prop
  | d, .none, k => k (bD (!nonD d))
  | _, _, _ => False
theorem do_notN : DOp fam X (compareOp .IsNot) gNotN := by
  refine ⟨_, op_notN, fun B A σ H F Γ x y h1 h2 d1 d2 Kd Q I r1 e1 r2 e2 g fin => ?_⟩
  cases d2 with
  | none =>
    have g : Kd (bD (!nonD d1)) := by cases d1 <;> exact g
    refine ⟨r2.non I e2, ?_⟩
    rw [isN_dq (r1.dq I e1)]
    exact end_sc I fin (.bl _) g
  | _ => cases d1 <;> exact g.elim
/-! ### in -/
theorem fits_of_tuple {ds : List D} (h : fits (.tuple ds) = true) : fits (.list ds) = true := h
/-- a sign in a text -/
def gInS : D → D → (Slot → Prop) → Prop
  | .str i, .str j, k => k (bD (!(Builtin.Str.occurrences j i 0 j.length 1).isEmpty))
  | _, _, _ => False
def gNotInS : D → D → (Slot → Prop) → Prop
  | .str i, .str j, k => k (bD (!(!(Builtin.Str.occurrences j i 0 j.length 1).isEmpty)))
  | _, _, _ => False
theorem do_inS : DOp fam X (compareOp .In) gInS := by
  refine ⟨_, op_in_str, fun B A σ H F Γ x y h1 h2 d1 d2 Kd Q I r1 e1 r2 e2 g fin => ?_⟩
  match d1, d2, g with
  | .str i, .str j, g => exact ⟨i, j, r1.str I e1, r2.str I e2, end_sc I fin (.bl _) g⟩
theorem do_notInS : DOp fam X (compareOp .NotIn) gNotInS := by
  refine ⟨_, op_notIn_str, fun B A σ H F Γ x y h1 h2 d1 d2 Kd Q I r1 e1 r2 e2 g fin => ?_⟩
  match d1, d2, g with
  | .str i, .str j, g => exact ⟨i, j, r1.str I e1, r2.str I e2, end_sc I fin (.bl _) g⟩
/-- in a list of data -/
def gInL : D → D → (Slot → Prop) → Prop
  | d, .list ds, k => fits d = true ∧ fits (.list ds) = true ∧ k (bD (ds.any fun z => PyData.eqv z d))
  | _, _, _ => False
def gNotInL : D → D → (Slot → Prop) → Prop
  | d, .list ds, k => fits d = true ∧ fits (.list ds) = true ∧ k (bD (!ds.any fun z => PyData.eqv z d))
  | _, _, _ => False
theorem do_inL (hu : X.A.units + 65 < cLine) : DOp fam X (compareOp .In) gInL := by
  refine ⟨_, op_inD hu, fun B A σ H F Γ x y h1 h2 d1 d2 Kd Q I r1 e1 r2 e2 g fin => ?_⟩
  match d2, g with
  | .list ds, g => exact ⟨d1, ds, Dq.dp _ _ (fits_flat g.1) (r1.dq I e1), Dq.dp _ _ (fits_flat g.2.1) (r2.dq I e2), fits_shaped g.1, fits_shaped g.2.1, end_sc I fin (.bl _) g.2.2⟩
theorem do_notInL (hu : X.A.units + 65 < cLine) : DOp fam X (compareOp .NotIn) gNotInL := by
  refine ⟨_, op_notInD hu, fun B A σ H F Γ x y h1 h2 d1 d2 Kd Q I r1 e1 r2 e2 g fin => ?_⟩
  match d2, g with
  | .list ds, g => exact ⟨d1, ds, Dq.dp _ _ (fits_flat g.1) (r1.dq I e1), Dq.dp _ _ (fits_flat g.2.1) (r2.dq I e2), fits_shaped g.1, fits_shaped g.2.1, end_sc I fin (.bl _) g.2.2⟩
/-- in a list or tuple of scalars -/
def scD : D → Bool
  | .none => true
  | .bool _ => true
  | .int _ => true
  | .str _ => true
  | _ => false
def eqS : D → D → Bool
  | .none, .none => true
  | .bool a, .bool b => a == b
  | .bool a, .int b => (if a then 1 else 0) == b
  | .int a, .bool b => a == (if b then 1 else 0)
  | .int a, .int b => decide (a = b)
  | .str a, .str b => decide (a = b)
  | _, _ => false
/-- the items of a list or tuple -/
def itemsD : D → Option (List D)
  | .list ds => some ds
  | .tuple ds => some ds
  | _ => none
def gInF (d e : D) (k : Slot → Prop) : Prop := match itemsD e with
  | some ds => scD d = true ∧ ds.all scD = true ∧ k (bD (ds.any fun z => eqS z d))
  | none => False
def gNotInF (d e : D) (k : Slot → Prop) : Prop := match itemsD e with
  | some ds => scD d = true ∧ ds.all scD = true ∧ k (bD (!ds.any fun z => eqS z d))
  | none => False
theorem sc_flatV {K : PySem.W.Frag} {H : Hp} {v : V} {d : D} (q : Dq K H v d) (h : scD d = true) : flatV v = true := by
  cases q <;> first | rfl | cases h
theorem eqS_V {K : PySem.W.Frag} {H : Hp} {v u : V} {d e : D} (q : Dq K H v d) (r : Dq K H u e) (h1 : scD d = true) (h2 : scD e = true) : eqV v u = eqS d e := by
  cases q with
  | lst _ _ => cases h1
  | tup _ _ => cases h1
  | dic _ _ => cases h1
  | non =>
    cases r with
    | lst _ _ => cases h2
    | tup _ _ => cases h2
    | dic _ _ => cases h2
    | _ => rfl
  | bl b =>
    cases r with
    | lst _ _ => cases h2
    | tup _ _ => cases h2
    | dic _ _ => cases h2
    | _ => rfl
  | int b =>
    cases r with
    | lst _ _ => cases h2
    | tup _ _ => cases h2
    | dic _ _ => cases h2
    | int c => exact Bool.beq_eq_decide_eq _ _
    | _ => rfl
  | str b =>
    cases r with
    | lst _ _ => cases h2
    | tup _ _ => cases h2
    | dic _ _ => cases h2
    | str c =>
      show (b == c) = decide (b = c)
      rw [Bool.eq_iff_iff]
      simp
    | _ => rfl
theorem in_V {K : PySem.W.Frag} {H : Hp} {u : V} {e : D} (r : Dq K H u e) (h2 : scD e = true) : ∀ {vs : List V} {ds : List D}, Dqs K H vs ds → ds.all scD = true → vs.all flatV = true ∧ inV u vs = ds.any fun z => eqS z e
  | [], [], _, _ => ⟨rfl, rfl⟩
  | v :: vs, d :: ds, .cons a t, h => by
    rw [List.all_cons, Bool.and_eq_true] at h
    obtain ⟨i1, i2⟩ := in_V r h2 t h.2
    refine ⟨?_, ?_⟩
    · rw [List.all_cons, sc_flatV a h.1, i1] <;> rfl
    · unfold inV at i2 ⊢
      rw [List.any_cons, List.any_cons, i2, eqS_V a r h.1 h2]
theorem HdR.items {K : PySem.W.Frag} {B : Bs} {A : List Addr} {σ : St} {H F : Hp} {Γ : Env'} {v : V} {h : Hd} (I : IV fam K B A σ H F Γ) (r : HdR K F σ v h) {d : D} {ds : List D} (g : getB Γ h = some d) (e : itemsD d = some ds) : ∃ p vs, v = .ref p ∧ (SqL K H p vs ∨ SqT K H p vs) ∧ Dqs K F vs ds := by
  cases d with
  | list xs =>
    cases e
    obtain ⟨p, vs, e1, e2, e3⟩ := r.list I g
    exact ⟨p, vs, e1, .inl e2, e3⟩
  | tuple xs =>
    cases e
    obtain ⟨p, vs, e1, e2, e3⟩ := r.tup I g
    exact ⟨p, vs, e1, .inr e2, e3⟩
  | _ => cases e
theorem do_inF : DOp fam X (compareOp .In) gInF := by
  refine ⟨_, op_in_seq, fun B A σ H F Γ x y h1 h2 d1 d2 Kd Q I r1 e1 r2 e2 g fin => ?_⟩
  unfold gInF at g
  split at g
  · rename_i ds ei
    obtain ⟨p, vs, rfl, hq, q⟩ := r2.items I e2 ei
    obtain ⟨i1, i2⟩ := in_V (r1.dq I e1) g.1 (q.up I.sub) g.2.1
    refine ⟨p, vs, rfl, hq, sc_flatV (r1.dq I e1) g.1, i1, ?_⟩
    show Q (.bl (inV x vs)) H
    rw [i2]
    exact end_sc I fin (.bl _) g.2.2
  · exact g.elim
theorem do_notInF : DOp fam X (compareOp .NotIn) gNotInF := by
  refine ⟨_, op_notIn_seq, fun B A σ H F Γ x y h1 h2 d1 d2 Kd Q I r1 e1 r2 e2 g fin => ?_⟩
  unfold gNotInF at g
  split at g
  · rename_i ds ei
    obtain ⟨p, vs, rfl, hq, q⟩ := r2.items I e2 ei
    obtain ⟨i1, i2⟩ := in_V (r1.dq I e1) g.1 (q.up I.sub) g.2.1
    refine ⟨p, vs, rfl, hq, sc_flatV (r1.dq I e1) g.1, i1, ?_⟩
    show Q (.bl (!inV x vs)) H
    rw [i2]
    exact end_sc I fin (.bl _) g.2.2
  · exact g.elim
end
end L2.Dl

set_option Elab.async false
set_option linter.all false
set_option maxRecDepth 100000
set_option maxHeartbeats 4000000
/-! the data layer: tests, chains, items, slices, displays, calls -/
namespace L2.Dl
open PySem PySem.Spec PyProof.Rows L2.Sl
/-- either way -/
def bw : Bool → Prop → Prop → Prop
  | true, p, _ => p
  | false, _, q => q
theorem bw_of {b : Bool} {p q : Prop} (h1 : b = true → p) (h2 : b = false → q) : bw b p q := by
  cases b with
  | true => exact h1 rfl
  | false => exact h2 rfl
theorem bw_dec {c p q : Prop} [Decidable c] (h1 : c → p) (h2 : ¬ c → q) : bw (decide c) p q := by
  by_cases h : c
  · rw [decide_eq_true h]
    exact h1 h
  · rw [decide_eq_false h]
    exact h2 h
theorem bw_nec {c p q : Prop} [Decidable c] (h1 : ¬ c → p) (h2 : c → q) : bw (!decide c) p q := by
  by_cases h : c
  · rw [decide_eq_true h]
    exact h2 h
  · rw [decide_eq_false h]
    exact h1 h
theorem bw_T {b : Bool} {p q : Prop} (e : b = true) (h : p) : bw b p q := by
  rw [e]
  exact h
theorem bw_F {b : Bool} {p q : Prop} (e : b = false) (h : q) : bw b p q := by
  rw [e]
  exact h
theorem bw_ite {b : Bool} {p q : Prop} (h : bw b p q) : if b = true then p else q := by
  cases b with
  | true => exact iteT h
  | false => exact iteF h
def PWt (fam : Fam) (X : Cx) (E : XK) (e : Expr) (t : TTt) : Prop := ∃ te : TT, PW X e te ∧ ∀ (B : Bs) (A : List Addr) (σ : St) (H F : Hp) (Γ : Env') (Kt : Bool → Env' → Prop) (Ke : KE) (Q : Bool → Hp → Prop), IV fam X.K B A σ H F Γ → t Γ Kt Ke → XW X.K X.mg B Ke E →
  (∀ b Γ' H' F', Kt b Γ' → Same F F' → IV fam X.K B A σ H' F' Γ' → Q b H') → te σ H Q
section
variable {fam : Fam} {X : Cx} {E : XK} {a b c e : Expr} {rest : List Expr} {pos : Pos} {t u : TTt}
def dAnd (t u : TTt) : TTt := fun Γ Kt Ke => t Γ (fun b Γ1 => bw b (u Γ1 Kt Ke) (Kt false Γ1)) Ke
def dOr (t u : TTt) : TTt := fun Γ Kt Ke => t Γ (fun b Γ1 => bw b (Kt true Γ1) (u Γ1 Kt Ke)) Ke
def dNot (t : TTt) : TTt := fun Γ Kt Ke => t Γ (fun b Γ1 => Kt (!b) Γ1) Ke
theorem pwt_and1 (h : PTt fam X E a t) : PWt fam X E (.BoolOp .And [a] pos) t := let ⟨te, p, h⟩ := h; ⟨te, pw_and1 p, h⟩
theorem pwt_or1 (h : PTt fam X E a t) : PWt fam X E (.BoolOp .Or [a] pos) t := let ⟨te, p, h⟩ := h; ⟨te, pw_or1 p, h⟩
theorem pwt_and (h1 : PTt fam X E a t) (h2 : PWt fam X E (.BoolOp .And (b :: rest) pos) u) : PWt fam X E (.BoolOp .And (a :: b :: rest) pos) (dAnd t u) := by
  obtain ⟨te, p, h1⟩ := h1
  obtain ⟨ue, q, h2⟩ := h2
  refine ⟨_, pw_and p q, fun B A σ H F Γ Kt Ke Q I g w fin => ?_⟩
  refine h1 B A σ H F Γ _ Ke _ I g w fun b Γ1 H1 F1 k S1 I1 => ?_
  cases b with
  | true => exact iteT (h2 B A σ H1 F1 Γ1 Kt Ke Q I1 k w fun b2 Γ2 H2 F2 k2 S2 I2 => fin _ _ _ _ k2 (S1.trans S2) I2)
  | false => exact iteF (fin _ _ _ _ k S1 I1)
theorem pwt_or (h1 : PTt fam X E a t) (h2 : PWt fam X E (.BoolOp .Or (b :: rest) pos) u) : PWt fam X E (.BoolOp .Or (a :: b :: rest) pos) (dOr t u) := by
  obtain ⟨te, p, h1⟩ := h1
  obtain ⟨ue, q, h2⟩ := h2
  refine ⟨_, pw_or p q, fun B A σ H F Γ Kt Ke Q I g w fin => ?_⟩
  refine h1 B A σ H F Γ _ Ke _ I g w fun b Γ1 H1 F1 k S1 I1 => ?_
  cases b with
  | true => exact iteT (fin _ _ _ _ k S1 I1)
  | false => exact iteF (h2 B A σ H1 F1 Γ1 Kt Ke Q I1 k w fun b2 Γ2 H2 F2 k2 S2 I2 => fin _ _ _ _ k2 (S1.trans S2) I2)
theorem PWt.pt (h : PWt fam X E e t) : PTt fam X E e t := let ⟨te, p, h⟩ := h; ⟨te, p.pt, h⟩
theorem pt_notD (h : PTt fam X E a t) : PTt fam X E (.UnaryOp .Not a pos) (dNot t) := by
  obtain ⟨te, p, h⟩ := h
  exact ⟨_, pt_not p, fun B A σ H F Γ Kt Ke Q I g w fin => h B A σ H F Γ _ Ke _ I g w fun b Γ1 H1 F1 k S1 I1 => fin _ _ _ _ k S1 I1⟩
/-! as values -/
variable {ta tb : TD}
def dAndV (t u : TD) : TD := fun Γ Kd Ke => t Γ (fun s Γ1 => match s with
  | .imm (.bool b) => bw b (u Γ1 Kd Ke) (Kd (bD false) Γ1)
  | _ => False) Ke
def dOrV (t u : TD) : TD := fun Γ Kd Ke => t Γ (fun s Γ1 => match s with
  | .imm (.bool b) => bw b (Kd (bD true) Γ1) (u Γ1 Kd Ke)
  | _ => False) Ke
def dNotV (t : TD) : TD := fun Γ Kd Ke => t Γ (fun s Γ1 => match s with
  | .imm (.bool b) => Kd (bD (!b)) Γ1
  | _ => False) Ke
theorem pd_one {op} (h : PD fam X E a ta) : PD fam X E (.BoolOp op [a] pos) ta := let ⟨te, p, h⟩ := h; ⟨te, pe_one p, h⟩
theorem pd_and (h1 : PD fam X E a ta) (h2 : PD fam X E (.BoolOp .And (b :: rest) pos) tb) : PD fam X E (.BoolOp .And (a :: b :: rest) pos) (dAndV ta tb) := by
  obtain ⟨te, p, h1⟩ := h1
  obtain ⟨ue, q, h2⟩ := h2
  refine ⟨_, pe_and p q, fun B A σ H F Γ Kt Ke Q I g w fin => ?_⟩
  refine h1 B A σ H F Γ _ Ke _ I g w fun s Γ1 v H1 F1 k S1 I1 r => ?_
  match s, k, r with
  | .imm (.bool b), k, r =>
    have r : Dq X.K F1 v (.bool b) := r
    cases r
    refine ⟨b, rfl, ?_⟩
    cases b with
    | true => exact iteT (h2 B A σ H1 F1 Γ1 Kt Ke Q I1 k w fun s2 Γ2 v2 H2 F2 k2 S2 I2 r2 => fin _ _ _ _ _ k2 (S1.trans S2) I2 r2)
    | false => exact iteF (fin _ _ _ _ _ k S1 I1 (show Dq X.K F1 (.bl false) (.bool false) from .bl false))
theorem pd_or (h1 : PD fam X E a ta) (h2 : PD fam X E (.BoolOp .Or (b :: rest) pos) tb) : PD fam X E (.BoolOp .Or (a :: b :: rest) pos) (dOrV ta tb) := by
  obtain ⟨te, p, h1⟩ := h1
  obtain ⟨ue, q, h2⟩ := h2
  refine ⟨_, pe_or p q, fun B A σ H F Γ Kt Ke Q I g w fin => ?_⟩
  refine h1 B A σ H F Γ _ Ke _ I g w fun s Γ1 v H1 F1 k S1 I1 r => ?_
  match s, k, r with
  | .imm (.bool b), k, r =>
    have r : Dq X.K F1 v (.bool b) := r
    cases r
    refine ⟨b, rfl, ?_⟩
    cases b with
    | true => exact iteT (fin _ _ _ _ _ k S1 I1 (show Dq X.K F1 (.bl true) (.bool true) from .bl true))
    | false => exact iteF (h2 B A σ H1 F1 Γ1 Kt Ke Q I1 k w fun s2 Γ2 v2 H2 F2 k2 S2 I2 r2 => fin _ _ _ _ _ k2 (S1.trans S2) I2 r2)
theorem pd_not (h1 : PD fam X E a ta) : PD fam X E (.UnaryOp .Not a pos) (dNotV ta) := by
  obtain ⟨te, p, h1⟩ := h1
  refine ⟨_, pe_not p, fun B A σ H F Γ Kt Ke Q I g w fin => ?_⟩
  refine h1 B A σ H F Γ _ Ke _ I g w fun s Γ1 v H1 F1 k S1 I1 r => ?_
  match s, k, r with
  | .imm (.bool b), k, r =>
    have r : Dq X.K F1 v (.bool b) := r
    cases r
    exact ⟨b, rfl, fin _ _ _ _ _ k S1 I1 (show Dq X.K F1 (.bl (!b)) (.bool (!b)) from .bl _)⟩
def dIf (t : TTt) (ta tb : TD) : TD := fun Γ Kd Ke => t Γ (fun b Γ1 => bw b (ta Γ1 Kd Ke) (tb Γ1 Kd Ke)) Ke
theorem pd_ifExp (h : PTt fam X E c t) (h1 : PD fam X E a ta) (h2 : PD fam X E b tb) : PD fam X E (.IfExp c a b pos) (dIf t ta tb) := by
  obtain ⟨ce, pc, h⟩ := h
  obtain ⟨te, p, h1⟩ := h1
  obtain ⟨ue, q, h2⟩ := h2
  refine ⟨_, pe_ifExp pc p q, fun B A σ H F Γ Kt Ke Q I g w fin => ?_⟩
  refine h B A σ H F Γ _ Ke _ I g w fun b Γ1 H1 F1 k S1 I1 => ?_
  cases b with
  | true => exact iteT (h1 B A σ H1 F1 Γ1 Kt Ke Q I1 k w fun s2 Γ2 v2 H2 F2 k2 S2 I2 r2 => fin _ _ _ _ _ k2 (S1.trans S2) I2 r2)
  | false => exact iteF (h2 B A σ H1 F1 Γ1 Kt Ke Q I1 k w fun s2 Γ2 v2 H2 F2 k2 S2 I2 r2 => fin _ _ _ _ _ k2 (S1.trans S2) I2 r2)
theorem pd_neg {ta : TD} (h : PD fam X E a ta) : PD fam X E (.UnaryOp .USub a pos) (fun Γ Kd Ke => ta Γ (fun s Γ1 => match s with
  | .imm (.int i) => Kd (.imm (.int (-i))) Γ1
  | _ => False) Ke) := by
  obtain ⟨te, p, h1⟩ := h
  refine ⟨_, pe_un un_neg p, fun B A σ H F Γ Kt Ke Q I g w fin => ?_⟩
  refine h1 B A σ H F Γ _ Ke _ I g w fun s Γ1 v H1 F1 k S1 I1 r => ?_
  match s, k, r with
  | .imm (.int i), k, r =>
    have r : Dq X.K F1 v (.int i) := r
    cases r
    exact ⟨i, rfl, fin _ _ _ _ _ k S1 I1 (show Dq X.K F1 (.int (-i)) (.int (-i)) from .int _)⟩
/-! a < b < c -/
def dChain (g g' : D → D → (Slot → Prop) → Prop) (ta tb tc : TB) : TD := fun Γ Kd Ke => ta Γ (fun h1 Γ1 => tb Γ1 (fun h2 Γ2 => match getB Γ2 h1, getB Γ2 h2 with
  | some d1, some d2 => g d1 d2 fun s => match s with
    | .imm (.bool k) => bw k (tc Γ2 (fun h3 Γ3 => match getB Γ3 h2, getB Γ3 h3 with
      | some d2, some d3 => g' d2 d3 fun s => Kd s Γ3
      | _, _ => False) Ke) (Kd (bD false) Γ2)
    | _ => False
  | _, _ => False) Ke) Ke
variable {xa xb xc : TB}
theorem chain_run {f f' : Value → Value → Sem Value} {g g' : D → D → (Slot → Prop) → Prop} (ho : DOp fam X f g) (ho' : DOp fam X f' g') (ha : PB fam X E a xa) (hb : PB fam X E b xb) (hc : PB fam X E c xc) : ∃ r r' tea teb tec, OpR X f r ∧ OpR X f' r' ∧ PE X a tea ∧ PE X b teb ∧ PE X c tec ∧ ∀ (B : Bs) (A : List Addr) (σ : St) (H F : Hp) (Γ : Env') (Kd : KD) (Ke : KE) (Q : VK), IV fam X.K B A σ H F Γ → dChain g g' xa xb xc Γ Kd Ke → XW X.K X.mg B Ke E →
    (∀ s Γ' v H' F', Kd s Γ' → Same F F' → IV fam X.K B A σ H' F' Γ' → RR fam X.K B A σ Γ' H' F' v s → Q v H') → tChain r r' tea teb tec σ H Q := by
  obtain ⟨r, hr, ho⟩ := ho
  obtain ⟨r', hr', ho'⟩ := ho'
  obtain ⟨tea, pa, ha⟩ := ha
  obtain ⟨teb, pb, hb⟩ := hb
  obtain ⟨tec, pc, hc⟩ := hc
  refine ⟨r, r', tea, teb, tec, hr, hr', pa, pb, pc, fun B A σ H F Γ Kd Ke Q I t w fin => ?_⟩
  refine ha B A σ H F Γ _ Ke _ I t w fun h1 Γ1 v1 H1 F1 k1 S1 I1 r1 => ?_
  refine hb B A σ H1 F1 Γ1 _ Ke _ I1 k1 w fun h2 Γ2 v2 H2 F2 k2 S2 I2 r2 => ?_
  match e1 : getB Γ2 h1, e2 : getB Γ2 h2, k2 with
  | some d1, some d2, k2 =>
    refine ho B A σ H2 F2 Γ2 v1 v2 h1 h2 d1 d2 _ _ I2 (r1.up S2) e1 r2 e2 k2 fun s v H3 F3 k S I3 rr => ?_
    match s, k, rr with
    | .imm (.bool b), k, rr =>
      have rr : Dq X.K F3 v (.bool b) := rr
      cases rr
      refine ⟨b, rfl, ?_⟩
      cases b with
      | false => exact iteF (fin _ _ _ _ _ k ((S1.trans S2).trans S) I3 (show Dq X.K F3 (.bl false) (.bool false) from .bl false))
      | true =>
        refine iteT ?_
        refine hc B A σ H3 F3 Γ2 _ Ke _ I3 k w fun h3 Γ3 v3 H4 F4 k4 S4 I4 r4 => ?_
        match e3 : getB Γ3 h2, e4 : getB Γ3 h3, k4 with
        | some d2', some d3, k4 => exact ho' B A σ H4 F4 Γ3 v2 v3 h2 h3 d2' d3 _ Q I4 ((r2.up S).up S4) e3 r4 e4 k4 fun s v H' F' k S' I' rr => fin _ _ _ _ _ k ((((S1.trans S2).trans S).trans S4).trans S') I' rr
theorem pd_chain {op op' : CmpOp} {g g' : D → D → (Slot → Prop) → Prop} (ho : DOp fam X (compareOp op) g) (ho' : DOp fam X (compareOp op') g') (ha : PB fam X E a xa) (hb : PB fam X E b xb) (hc : PB fam X E c xc) (hm : lastMarks [op, op'] [b, c] = false := by with_unfolding_all rfl) :
    PD fam X E (.Compare a [op, op'] [b, c] pos) (dChain g g' xa xb xc) := by
  obtain ⟨r, r', tea, teb, tec, hr, hr', pa, pb, pc, run⟩ := chain_run ho ho' ha hb hc
  exact ⟨_, pe_chain hr hr' pa pb pc hm, run⟩
theorem pt_chainD {op op' : CmpOp} {g g' : D → D → (Slot → Prop) → Prop} (ho : DOp fam X (compareOp op) g) (ho' : DOp fam X (compareOp op') g') (ha : PB fam X E a xa) (hb : PB fam X E b xb) (hc : PB fam X E c xc) (hm : lastMarks [op, op'] [b, c] = false := by with_unfolding_all rfl) :
    PTt fam X E (.Compare a [op, op'] [b, c] pos) (dTest (dChain g g' xa xb xc)) := by
  obtain ⟨r, r', tea, teb, tec, hr, hr', pa, pb, pc, run⟩ := chain_run ho ho' ha hb hc
  exact ⟨_, pt_chain hr hr' pa pb pc hm, test_run run⟩
/-! xs[i] -/
/-- an item of a list, a tuple, a text -/
def gIx : D → D → (Slot → Prop) → Prop
  | .list ds, .int i, k => ∃ d, atI ds i = some d ∧ k (.imm d)
  | .tuple ds, .int i, k => ∃ d, atI ds i = some d ∧ k (.imm d)
  | .str z, .int i, k => z.length ≤ sizeLine ∧ ∃ c, atI z.cps.toList i = some c ∧ k (.imm (.str ⟨#[c]⟩))
  | _, _, _ => False
theorem atI_dqs {K : PySem.W.Frag} {H : Hp} {vs : List V} {ds : List D} {i : Int} {d : D} (q : Dqs K H vs ds) (e : atI ds i = some d) : ∃ v, atI vs i = some v ∧ Dq K H v d := by
  unfold atI at e ⊢
  rw [q.len]
  cases h : ixN ds.length i with
  | none =>
    rw [h] at e
    cases e
  | some j =>
    rw [h] at e
    obtain ⟨v, e1, e2⟩ := q.at_ (i := j) e
    exact ⟨v, e1, e2⟩
theorem pd_ix (ha : PB fam X E a xa) (hb : PB fam X E b xb) (hs : PlainIx b) : PD fam X E (.Subscript a b pos) (dBin gIx xa xb) := by
  obtain ⟨tea, pa, ha⟩ := ha
  obtain ⟨teb, pb, hb⟩ := hb
  refine ⟨_, pe_ix ix_seq pa pb hs, fun B A σ H F Γ Kd Ke Q I t w fin => ?_⟩
  refine ha B A σ H F Γ _ Ke _ I t w fun h1 Γ1 v1 H1 F1 k1 S1 I1 r1 => ?_
  refine hb B A σ H1 F1 Γ1 _ Ke _ I1 k1 w fun h2 Γ2 v2 H2 F2 k2 S2 I2 r2 => ?_
  have r1 := r1.up S2
  match e1 : getB Γ2 h1, e2 : getB Γ2 h2, k2 with
  | some d1, some d2, k2 =>
    match d1, d2, k2 with
    | .list ds, .int i, k2 =>
      obtain ⟨d, e, k⟩ := k2
      obtain ⟨p, vs, rfl, hq, q⟩ := r1.list I2 e1
      obtain ⟨v, ev, qv⟩ := atI_dqs q e
      exact .inl ⟨p, vs, i, v, rfl, r2.int I2 e2, hq, ev, fin _ _ _ _ _ k (S1.trans S2) I2 qv⟩
    | .tuple ds, .int i, k2 =>
      obtain ⟨d, e, k⟩ := k2
      obtain ⟨p, vs, rfl, hq, q⟩ := r1.tup I2 e1
      obtain ⟨v, ev, qv⟩ := atI_dqs q e
      exact .inr (.inl ⟨p, vs, i, v, rfl, r2.int I2 e2, hq, ev, fin _ _ _ _ _ k (S1.trans S2) I2 qv⟩)
    | .str z, .int i, k2 =>
      obtain ⟨l, c, e, k⟩ := k2
      exact .inr (.inr ⟨z, i, c, r1.str I2 e1, r2.int I2 e2, l, e, fin _ _ _ _ _ k (S1.trans S2) I2 (Dq.str _)⟩)
/-! slices -/
def POt (fam : Fam) (X : Cx) (E : XK) (e : Option Expr) (t : Env' → (Option Int → Env' → Prop) → KE → Prop) : Prop := ∃ te, PO X e te ∧ ∀ (B : Bs) (A : List Addr) (σ : St) (H F : Hp) (Γ : Env') (Ko : Option Int → Env' → Prop) (Ke : KE) (Q : Option Int → Hp → Prop), IV fam X.K B A σ H F Γ → t Γ Ko Ke → XW X.K X.mg B Ke E →
  (∀ o Γ' H' F', Ko o Γ' → Same F F' → IV fam X.K B A σ H' F' Γ' → Q o H') → te σ H Q
def oNone : Env' → (Option Int → Env' → Prop) → KE → Prop := fun Γ Ko _ => Ko none Γ
def oSome (t : TD) : Env' → (Option Int → Env' → Prop) → KE → Prop := fun Γ Ko Ke => t Γ (fun s Γ1 => match s with
  | .imm (.int i) => Ko (some i) Γ1
  | _ => False) Ke
theorem pot_none : POt fam X E none oNone := ⟨_, po_none, fun B A σ H F Γ Ko Ke Q I t w fin => fin _ _ _ _ t (Same.refl _) I⟩
theorem pot_some {t : TD} (h : PD fam X E e t) : POt fam X E (some e) (oSome t) := by
  obtain ⟨te, p, h⟩ := h
  refine ⟨_, po_some p, fun B A σ H F Γ Ko Ke Q I t w fin => ?_⟩
  refine h B A σ H F Γ _ Ke _ I t w fun s Γ1 v H1 F1 k S1 I1 r => ?_
  match s, k, r with
  | .imm (.int i), k, r =>
    have r : Dq X.K F1 v (.int i) := r
    cases r
    exact ⟨i, rfl, fin _ _ _ _ k S1 I1⟩
/-- xs[lo:hi] -/
def cutD {α : Type} (xs : List α) (lo hi : Option Int) : List α := (xs.drop (HT.sIx xs.length 0 lo)).take (HT.sIx xs.length xs.length hi - HT.sIx xs.length 0 lo)
theorem Dqs.cut {K : PySem.W.Frag} {H : Hp} {vs : List V} {ds : List D} (q : Dqs K H vs ds) (lo hi : Option Int) : Dqs K H (cutV vs lo hi) (cutD ds lo hi) := by
  unfold cutV cutD
  rw [q.len]
  exact (q.drop _).take _
def gSl (d : D) (lo hi : Option Int) (k : Slot → Prop) : Prop := match d with
  | .list ds => k (.own (.list (cutD ds lo hi)))
  | .tuple ds => k (.imm (.tuple (cutD ds lo hi)))
  | _ => False
def dSl (xa : TB) (to tu : Env' → (Option Int → Env' → Prop) → KE → Prop) : TD := fun Γ Kd Ke => xa Γ (fun h Γ1 => to Γ1 (fun lo Γ2 => tu Γ2 (fun hi Γ3 => match getB Γ3 h with
  | some d => gSl d lo hi fun s => Kd s Γ3
  | none => False) Ke) Ke) Ke
theorem cutD_all {α : Type} {ds : List α} {lo hi : Option Int} (h : HT.sIx ds.length 0 lo = 0 ∧ HT.sIx ds.length ds.length hi = ds.length) : cutD ds lo hi = ds := by
  unfold cutD
  rw [h.1, h.2]
  simp
theorem pd_slice {lo hi : Option Expr} {p2 : Pos} {tl th : Env' → (Option Int → Env' → Prop) → KE → Prop} (ha : PB fam X E a xa) (hl : POt fam X E lo tl) (hh : POt fam X E hi th) : PD fam X E (.Subscript a (.Slice lo hi none p2) pos) (dSl xa tl th) := by
  obtain ⟨tea, pa, ha⟩ := ha
  obtain ⟨tle, pl, hl⟩ := hl
  obtain ⟨the, ph, hh⟩ := hh
  refine ⟨_, pe_slice (sl_list.or sl_tupA) pa pl ph, fun B A σ H F Γ Kd Ke Q I t w fin => ?_⟩
  refine ha B A σ H F Γ _ Ke _ I t w fun h1 Γ1 v1 H1 F1 k1 S1 I1 r1 => ?_
  refine hl B A σ H1 F1 Γ1 _ Ke _ I1 k1 w fun lo Γ2 H2 F2 k2 S2 I2 => ?_
  refine hh B A σ H2 F2 Γ2 _ Ke _ I2 k2 w fun hi Γ3 H3 F3 k3 S3 I3 => ?_
  have r1 := (r1.up S2).up S3
  have S := (S1.trans S2).trans S3
  match e1 : getB Γ3 h1, k3 with
  | some d, k3 =>
    match d, k3 with
    | .list ds, k3 =>
      obtain ⟨p, vs, rfl, hq, q⟩ := r1.list I3 e1
      exact .inl ⟨p, vs, rfl, hq, fun z nz => end_lst I3 (fun s v H' F' k S' I' rr => fin _ _ _ _ _ k (S.trans S') I' rr) (q.cut lo hi) k3 nz⟩
    | .tuple ds, k3 =>
      have tf := r1.tupF I3 e1
      obtain ⟨p, vs, rfl, hq, q⟩ := r1.tup I3 e1
      refine .inr ⟨p, vs, rfl, hq, fun z => ?_, fun _ z nz => end_tup I3 (fun s v H' F' k S' I' rr => fin _ _ _ _ _ k (S.trans S') I' rr) (q.cut lo hi) k3 nz⟩
      rw [q.len] at z
      have k3 : Kd (.imm (.tuple (cutD ds lo hi))) Γ3 := k3
      rw [cutD_all z] at k3
      exact fin _ _ _ _ _ k3 S I3 tf
/-! arguments, displays -/
def aNil : TAr := fun Γ Ka _ => Ka [] Γ
/-- from the left; each is fixed -/
def aCons (t : TD) (u : TAr) : TAr := fun Γ Ka Ke => t Γ (fun s Γ1 => match s.d? with
  | some d => u Γ1 (fun ds Γ2 => Ka (d :: ds) Γ2) Ke
  | none => False) Ke
variable {es : List Expr} {tr : TAr}
theorem par_nil : PAr fam X E [] aNil := ⟨_, pa_nil, fun B A σ H F Γ Ka Ke Q I t w fin => fin _ _ _ _ _ t (Same.refl _) I .nil⟩
theorem par_cons (h : PD fam X E e ta) (hr : PAr fam X E es tr) (hs : starEach (e :: es) X.env = (false, eval e X.env) :: starEach es X.env := by rfl) : PAr fam X E (e :: es) (aCons ta tr) := by
  obtain ⟨te, p, h⟩ := h
  obtain ⟨tre, pr, hr⟩ := hr
  refine ⟨_, pa_cons p pr hs, fun B A σ H F Γ Ka Ke Q I t w fin => ?_⟩
  refine h B A σ H F Γ _ Ke _ I t w fun s Γ1 v H1 F1 k S1 I1 r => ?_
  match e : s.d?, k with
  | some d, k =>
    obtain ⟨F1', S1', I1', q1⟩ := r.give I1 e
    exact hr B A σ H1 F1' Γ1 _ Ke _ I1' k w fun ds Γ2 vs H2 F2 k2 S2 I2 q2 => fin _ _ _ _ _ k2 ((S1.trans S1').trans S2) I2 (.cons (q1.up S2) q2)
def dTup (t : TAr) : TD := fun Γ Kd Ke => t Γ (fun ds Γ1 => ds.length ≤ sizeLine ∧ Kd (.imm (.tuple ds)) Γ1) Ke
def dLst (t : TAr) : TD := fun Γ Kd Ke => t Γ (fun ds Γ1 => ds.length ≤ sizeLine ∧ Kd (.own (.list ds)) Γ1) Ke
theorem pd_tup {x1} (h : PAr fam X E es tr) : PD fam X E (.Tuple es x1 pos) (dTup tr) := by
  obtain ⟨te, p, h⟩ := h
  refine ⟨_, pe_tup p, fun B A σ H F Γ Kd Ke Q I t w fin => ?_⟩
  refine h B A σ H F Γ _ Ke _ I t w fun ds Γ1 vs H1 F1 k S1 I1 q => ?_
  exact ⟨by rw [q.len]; exact k.1, fun z nz => end_tup (Kd := fun s => Kd s Γ1) I1 (fun s v H' F' k S' I' rr => fin _ _ _ _ _ k (S1.trans S') I' rr) q k.2 nz⟩
theorem pd_lst (h : PAr fam X E es tr) : PD fam X E (.List es pos) (dLst tr) := by
  obtain ⟨te, p, h⟩ := h
  refine ⟨_, pe_lst p, fun B A σ H F Γ Kd Ke Q I t w fin => ?_⟩
  refine h B A σ H F Γ _ Ke _ I t w fun ds Γ1 vs H1 F1 k S1 I1 q => ?_
  exact ⟨by rw [q.len]; exact k.1, fun z nz => end_lst (Kd := fun s => Kd s Γ1) I1 (fun s v H' F' k S' I' rr => fin _ _ _ _ _ k (S1.trans S') I' rr) q k.2 nz⟩
/-! calls of built-ins by one thing that is looked at -/
/-- by data -/
def DC1 (fam : Fam) (X : Cx) (f : Value) (g : D → (Slot → Prop) → Prop) : Prop := ∃ r, CallR X f r ∧ ∀ (B : Bs) (A : List Addr) (σ : St) (H F : Hp) (Γ : Env') (x : V) (h : Hd) (d : D) (Kd : Slot → Prop) (Q : VK), IV fam X.K B A σ H F Γ → HdR X.K F σ x h → getB Γ h = some d → g d Kd →
  (∀ s v H' F', Kd s → Same F F' → IV fam X.K B A σ H' F' Γ → RR fam X.K B A σ Γ H' F' v s → Q v H') → r [x] H Q
def dCall1 (g : D → (Slot → Prop) → Prop) (xa : TB) : TD := fun Γ Kd Ke => xa Γ (fun h Γ1 => match getB Γ1 h with
  | some d => g d fun s => Kd s Γ1
  | none => False) Ke
theorem call1_run {f : Value} {g : D → (Slot → Prop) → Prop} (ho : DC1 fam X f g) (ha : PB fam X E a xa) : ∃ r tea, CallR X f r ∧ PE X a tea ∧ ∀ (B : Bs) (A : List Addr) (σ : St) (H F : Hp) (Γ : Env') (Kd : KD) (Ke : KE) (Q : VK), IV fam X.K B A σ H F Γ → dCall1 g xa Γ Kd Ke → XW X.K X.mg B Ke E →
    (∀ s Γ' v H' F', Kd s Γ' → Same F F' → IV fam X.K B A σ H' F' Γ' → RR fam X.K B A σ Γ' H' F' v s → Q v H') → tCB r (tCons tea tNil) σ H Q := by
  obtain ⟨r, hr, ho⟩ := ho
  obtain ⟨tea, pa, ha⟩ := ha
  refine ⟨r, tea, hr, pa, fun B A σ H F Γ Kd Ke Q I t w fin => ?_⟩
  refine ha B A σ H F Γ _ Ke _ I t w fun h1 Γ1 v1 H1 F1 k1 S1 I1 r1 => ?_
  match e1 : getB Γ1 h1, k1 with
  | some d1, k1 => exact ho B A σ H1 F1 Γ1 v1 h1 d1 _ Q I1 r1 e1 k1 fun s v H' F' k S I' rr => fin _ _ _ _ _ k (S1.trans S) I' rr
theorem pd_callB {id : String} {x : Str} {p : Pos} {g : D → (Slot → Prop) → Prop} (ho : DC1 fam X (.builtin id) g) (hg : Gl X x) (hm : X.mg x = none) (hv : bootBuiltins x = some (.builtin id)) (ha : PB fam X E a xa) (hs : starEach [a] X.env = (false, eval a X.env) :: starEach [] X.env := by rfl) (hn : x ≠ "__name__" := by decide) (hdb : (x == ("__debug__" : Str)) = false := by decide)
    (hpl : (backTo pos (starEach ([] : List Expr) X.env)).any (·.1) = false := by rfl) : PD fam X E (.Call (.Name x p) [a] [] pos) (dCall1 g xa) := by
  obtain ⟨r, tea, hr, pa, run⟩ := call1_run ho ha
  exact ⟨_, L2.pe_callB hr hg hm hv (pa_cons pa pa_nil hs) hn hdb hs hpl, run⟩
theorem pd_callTy {T : String} {x : Str} {p : Pos} {g : D → (Slot → Prop) → Prop} (ho : DC1 fam X (.type T) g) (hg : Gl X x) (hm : X.mg x = none) (hv : bootBuiltins x = some (.type T)) (ha : PB fam X E a xa) (hs : starEach [a] X.env = (false, eval a X.env) :: starEach [] X.env := by rfl) (hn : x ≠ "__name__" := by decide) (hdb : (x == ("__debug__" : Str)) = false := by decide)
    (hpl : (backTo pos (starEach ([] : List Expr) X.env)).any (·.1) = false := by rfl) : PD fam X E (.Call (.Name x p) [a] [] pos) (dCall1 g xa) := by
  obtain ⟨r, tea, hr, pa, run⟩ := call1_run ho ha
  exact ⟨_, L2.pe_callTy hr hg hm hv (pa_cons pa pa_nil hs) hn hdb hs hpl, run⟩
def gLen : D → (Slot → Prop) → Prop
  | .list ds, k => k (.imm (.int (ds.length : Nat)))
  | .tuple ds, k => k (.imm (.int (ds.length : Nat)))
  | .str z, k => z.length ≤ sizeLine ∧ k (.imm (.int (z.length : Nat)))
  | _, _ => False
theorem CallR.or {f : Value} {r r' : List V → Hp → VK → Prop} (h : CallR X f r) (h' : CallR X f r') : CallR X f (fun xs H Q => r xs H Q ∨ r' xs H Q) := by
  intro pins s σ H xs us Q I rv q
  rcases q with q | q
  · exact h pins s σ H xs us Q I rv q
  · exact h' pins s σ H xs us Q I rv q
theorem dc_len : DC1 fam X (.builtin "len") gLen := by
  refine ⟨_, CallR.or call_len_seq call_len_str, fun B A σ H F Γ x h d Kd Q I r e g fin => ?_⟩
  match d, g with
  | .list ds, g =>
    obtain ⟨p, vs, rfl, hq, q⟩ := r.list I e
    refine .inl ⟨p, vs, rfl, .inl hq, ?_⟩
    rw [q.len]
    exact end_sc I fin (.int _) g
  | .tuple ds, g =>
    obtain ⟨p, vs, rfl, hq, q⟩ := r.tup I e
    refine .inl ⟨p, vs, rfl, .inr hq, ?_⟩
    rw [q.len]
    exact end_sc I fin (.int _) g
  | .str z, g => exact .inr ⟨z, by rw [r.str I e], g.1, end_sc I fin (.int _) g.2⟩
/-- list(xs) of a list, a tuple -/
def gList (d : D) (k : Slot → Prop) : Prop := match itemsD d with
  | some ds => k (.own (.list ds))
  | none => False
theorem dc_list : DC1 fam X (.type "list") gList := by
  refine ⟨_, call_list_of, fun B A σ H F Γ x h d Kd Q I r e g fin => ?_⟩
  unfold gList at g
  split at g
  · rename_i ds ei
    obtain ⟨p, vs, rfl, hq, q⟩ := r.items I e ei
    exact ⟨p, vs, rfl, hq, fun z nz => end_lst I fin q g nz⟩
  · exact g.elim
def gTuple (d : D) (k : Slot → Prop) : Prop := match itemsD d with
  | some ds => k (.imm (.tuple ds))
  | none => False
theorem dc_tuple : DC1 fam X (.type "tuple") gTuple := by
  refine ⟨_, call_tuple_of, fun B A σ H F Γ x h d Kd Q I r e g fin => ?_⟩
  match d, g with
  | .list ds, g =>
    obtain ⟨p, vs, rfl, hq, q⟩ := r.list I e
    exact ⟨p, vs, rfl, .inl ⟨hq, fun z nz => end_tup I fin q g nz⟩⟩
  | .tuple ds, g =>
    have tf := r.tupF I e
    obtain ⟨p, vs, rfl, hq, q⟩ := r.tup I e
    exact ⟨p, vs, rfl, .inr ⟨hq, fin _ _ _ _ g (Same.refl _) I tf⟩⟩
/-- the truths of a list -/
def boolsD : List D → Option (List Bool)
  | [] => some []
  | .bool b :: ds => (boolsD ds).map (b :: ·)
  | _ => none
theorem bools_dqs {K : PySem.W.Frag} {H : Hp} : ∀ {vs : List V} {ds : List D} {bs : List Bool}, Dqs K H vs ds → boolsD ds = some bs → vs = bs.map V.bl
  | [], [], _, _, e => by
    cases e
    rfl
  | v :: vs, d :: ds, bs, .cons a t, e => by
    match d, a, e with
    | .bool b, a, e =>
      cases a
      cases h : boolsD ds with
      | none =>
        rw [boolsD, h] at e
        cases e
      | some l =>
        rw [boolsD, h] at e
        cases e
        rw [bools_dqs t h]
        rfl
def gAll : D → (Slot → Prop) → Prop
  | .list ds, k => ∃ bs, boolsD ds = some bs ∧ k (bD (bs.all id))
  | _, _ => False
def gAny : D → (Slot → Prop) → Prop
  | .list ds, k => ∃ bs, boolsD ds = some bs ∧ k (bD (bs.any id))
  | _, _ => False
theorem dc_all (hc : X.calm = true) : DC1 fam X (.builtin "all") gAll := by
  refine ⟨_, cr_all hc, fun B A σ H F Γ x h d Kd Q I r e g fin => ?_⟩
  match d, g with
  | .list ds, g =>
    obtain ⟨bs, eb, k⟩ := g
    obtain ⟨p, vs, rfl, hq, q⟩ := r.list I e
    rw [bools_dqs q eb] at hq
    exact ⟨p, bs, rfl, hq, end_sc I fin (.bl _) k⟩
theorem dc_any (hc : X.calm = true) : DC1 fam X (.builtin "any") gAny := by
  refine ⟨_, cr_any hc, fun B A σ H F Γ x h d Kd Q I r e g fin => ?_⟩
  match d, g with
  | .list ds, g =>
    obtain ⟨bs, eb, k⟩ := g
    obtain ⟨p, vs, rfl, hq, q⟩ := r.list I e
    rw [bools_dqs q eb] at hq
    exact ⟨p, bs, rfl, hq, end_sc I fin (.bl _) k⟩
end
end L2.Dl

set_option Elab.async false
set_option linter.all false
set_option maxRecDepth 100000
set_option maxHeartbeats 4000000
/-! the data layer: statements, defs, calls of defs -/
namespace L2.Dl
open PySem PySem.Spec PyProof.Rows L2.Sl
structure EndsD where
  nx : Env' → Prop
  rt : Slot → Env' → Prop
  bk : Env' → Prop := fun _ => False
  ct : Env' → Prop := fun _ => False
  er : KE
abbrev TDS := EndsD → Env' → Prop
structure EndOk (fam : Fam) (K : PySem.W.Frag) (B : Bs) (A : List Addr) (F : Hp) (DD : EndsD) (D : Ends) : Prop where
  nx : ∀ Γ σ H F', DD.nx Γ → Same F F' → IV fam K B A σ H F' Γ → D.nx σ H
  rt : ∀ s Γ v σ H F', DD.rt s Γ → Same F F' → IV fam K B A σ H F' Γ → RR fam K B A σ Γ H F' v s → D.rt v H
  bk : ∀ Γ σ H F', DD.bk Γ → Same F F' → IV fam K B A σ H F' Γ → D.bk σ H
  ct : ∀ Γ σ H F', DD.ct Γ → Same F F' → IV fam K B A σ H F' Γ → D.ct σ H
theorem EndOk.up {fam : Fam} {K : PySem.W.Frag} {B : Bs} {A : List Addr} {F F1 : Hp} {DD : EndsD} {D : Ends} (h : EndOk fam K B A F DD D) (s : Same F F1) : EndOk fam K B A F1 DD D :=
  ⟨fun _ _ _ _ k q => h.nx _ _ _ _ k (s.trans q), fun _ _ _ _ _ _ k q => h.rt _ _ _ _ _ _ k (s.trans q), fun _ _ _ _ k q => h.bk _ _ _ _ k (s.trans q), fun _ _ _ _ k q => h.ct _ _ _ _ k (s.trans q)⟩
def RunS (fam : Fam) (X : Cx) (E : XK) (ts : TS) (t : TDS) : Prop := ∀ (B : Bs) (A : List Addr) (σ : St) (H F : Hp) (Γ : Env') (DD : EndsD) (D : Ends), IV fam X.K B A σ H F Γ → t DD Γ → XW X.K X.mg B DD.er E → EndOk fam X.K B A F DD D → ts D σ H
def PDs (fam : Fam) (X : Cx) (E : XK) (st : Stmt) (t : TDS) : Prop := ∃ ts, PS X st ts ∧ RunS fam X E ts t
def PDss (fam : Fam) (X : Cx) (E : XK) (st : List Stmt) (t : TDS) : Prop := ∃ ts, PSs X st ts ∧ RunS fam X E ts t
section
variable {fam : Fam} {X : Cx} {E : XK} {st : Stmt} {rest : List Stmt} {e a b c : Expr} {es : List Expr} {pos : Pos} {t u : TDS} {te ta tb : TD} {tr : TAr} {tt : TTt}
def dNext : TDS := fun DD Γ => DD.nx Γ
def dSeq (t u : TDS) : TDS := fun DD Γ => t { DD with nx := fun Γ1 => u DD Γ1 } Γ
theorem pds_nil : PDss fam X E [] dNext := ⟨_, pss_nil, fun B A σ H F Γ DD D I t w o => o.nx _ _ _ _ t (Same.refl _) I⟩
theorem pds_cons (h1 : PDs fam X E st t) (h2 : PDss fam X E rest u) : PDss fam X E (st :: rest) (dSeq t u) := by
  obtain ⟨ts, p, h1⟩ := h1
  obtain ⟨us, q, h2⟩ := h2
  refine ⟨_, pss_cons p q, fun B A σ H F Γ DD D I g w o => ?_⟩
  exact h1 B A σ H F Γ { DD with nx := fun Γ1 => u DD Γ1 } { D with nx := us D } I g w ⟨fun Γ1 σ1 H1 F1 k S I1 => h2 B A σ1 H1 F1 Γ1 DD D I1 k w (o.up S), o.rt, o.bk, o.ct⟩
theorem pds_one (h1 : PDs fam X E st t) : PDss fam X E [st] t := let ⟨ts, p, h1⟩ := h1; ⟨ts, pss_one p, h1⟩
theorem pd_pass : PDs fam X E (.Pass pos) dNext := ⟨_, ps_pass, fun B A σ H F Γ DD D I t w o => o.nx _ _ _ _ t (Same.refl _) I⟩
def dBreak : TDS := fun DD Γ => DD.bk Γ
def dCont : TDS := fun DD Γ => DD.ct Γ
theorem pd_break : PDs fam X E (.Break pos) dBreak := ⟨_, ps_break, fun B A σ H F Γ DD D I t w o => o.bk _ _ _ _ t (Same.refl _) I⟩
theorem pd_continue : PDs fam X E (.Continue pos) dCont := ⟨_, ps_continue, fun B A σ H F Γ DD D I t w o => o.ct _ _ _ _ t (Same.refl _) I⟩
theorem pd_doc {x j pos pos'} : PDs fam X E (.Expr (.Constant (.str x) j pos) pos') dNext := ⟨_, ps_doc, fun B A σ H F Γ DD D I t w o => o.nx _ _ _ _ t (Same.refl _) I⟩
def dDrop (te : TD) : TDS := fun DD Γ => te Γ (fun _ Γ1 => DD.nx Γ1) DD.er
theorem pd_expr (h : PD fam X E e te) (hs : swapsWith e none pos.line X.env = pure false := by rfl) : PDs fam X E (.Expr e pos) (dDrop te) := by
  obtain ⟨ts, p, h⟩ := h
  exact ⟨_, ps_expr p hs, fun B A σ H F Γ DD D I t w o => h B A σ H F Γ _ _ _ I t w fun s Γ1 v H1 F1 k S I1 r => o.nx _ _ _ _ k S I1⟩
def dRet (te : TD) : TDS := fun DD Γ => te Γ DD.rt DD.er
theorem pd_ret (h : PD fam X E e te) : PDs fam X E (.Return (some e) pos) (dRet te) := by
  obtain ⟨ts, p, h⟩ := h
  exact ⟨_, ps_ret p, fun B A σ H F Γ DD D I t w o => h B A σ H F Γ _ _ _ I t w fun s Γ1 v H1 F1 k S I1 r => o.rt _ _ _ _ _ _ k S I1 r⟩
def dRetN : TDS := fun DD Γ => DD.rt (.imm .none) Γ
theorem pd_retN : PDs fam X E (.Return none pos) dRetN := ⟨_, ps_retN, fun B A σ H F Γ DD D I t w o => o.rt _ _ _ _ _ _ t (Same.refl _) I (show Dq X.K F .non .none from .non)⟩
def dIfS (c : TTt) (t u : TDS) : TDS := fun DD Γ => c Γ (fun b Γ1 => bw b (t DD Γ1) (u DD Γ1)) DD.er
theorem pd_if {a b : List Stmt} (hc : PTt fam X E c tt) (ha : PDss fam X E a t) (hb : PDss fam X E b u) : PDs fam X E (.If c a b pos) (dIfS tt t u) := by
  obtain ⟨ce, pc, hc⟩ := hc
  obtain ⟨ts, p, ha⟩ := ha
  obtain ⟨us, q, hb⟩ := hb
  refine ⟨_, ps_if pc p q, fun B A σ H F Γ DD D I t w o => ?_⟩
  refine hc B A σ H F Γ _ _ _ I t w fun b Γ1 H1 F1 k S I1 => ?_
  cases b with
  | true => exact iteT (ha B A σ H1 F1 Γ1 DD D I1 k w (o.up S))
  | false => exact iteF (hb B A σ H1 F1 Γ1 DD D I1 k w (o.up S))
/-! targets: of a value that is handed over -/
/-- of fixed data; sl: the slots that are set -/
abbrev TGd := D → Env' → (Env' → Prop) → Prop
def PGt (fam : Fam) (X : Cx) (tg : Expr) (sl : List Nat) (t : TGd) : Prop := ∃ g, PG X tg g ∧ ∀ (B : Bs) (A : List Addr) (σ : St) (H F : Hp) (Γ : Env') (v : V) (d : D) (Kg : Env' → Prop) (Q : St → Hp → Prop), IV fam X.K B A σ H F Γ → Dq X.K F v d → t d Γ Kg →
  (∀ Γ' σ' , Kg Γ' → IV fam X.K B A σ' H F Γ' → (∀ vs, (∀ i ∈ sl, i ∈ vs) → wipe σ' vs = wipe σ vs) → Q σ' H) → g v σ H Q
def PGts (fam : Fam) (X : Cx) (tgs : List Expr) (sl : List Nat) (t : List D → Env' → (Env' → Prop) → Prop) : Prop := ∃ g, PGs X tgs g ∧ ∀ (B : Bs) (A : List Addr) (σ : St) (H F : Hp) (Γ : Env') (vs : List V) (ds : List D) (Kg : Env' → Prop) (Q : St → Hp → Prop), IV fam X.K B A σ H F Γ → Dqs X.K F vs ds → t ds Γ Kg →
  (∀ Γ' σ' , Kg Γ' → IV fam X.K B A σ' H F Γ' → (∀ vs, (∀ i ∈ sl, i ∈ vs) → wipe σ' vs = wipe σ vs) → Q σ' H) → g vs σ H Q
/-- a name's new thing -/
theorem IV.asg {K : PySem.W.Frag} {B : Bs} {A : List Addr} {σ : St} {H F : Hp} {Γ : Env'} (I : IV fam K B A σ H F Γ) {i : Nat} {v : V} {s : Slot} (r : RR fam K B A σ Γ H F v s) : IV fam K B A (σ.set i (some v)) H F (Γ.set i (some s)) := by
  have rs : RS fam K B A H F v s := by
    cases s with
    | imm d => exact r
    | own d => exact r.1
    | lent d => exact r.elim
    | drw n => exact r.elim
    | nds ks => exact r.1
  have no : s.isOwn = true → ∀ j, ownAt Γ j → σ[j]? ≠ some (some v) := fun z => by
    cases s with
    | imm d => cases z
    | own d => exact r.2
    | lent d => exact r.elim
    | drw n => cases z
    | nds ks => exact r.2
  have nd : ∀ n, s ≠ .drw n := fun n z => by
    rw [z] at r
    exact r.elim
  refine ⟨I.sub, I.keep, I.new, I.old, by rw [List.length_set, List.length_set]; exact I.len, fun j t es => ?_, fun j l jl oj ol => ?_, I.mA, I.tA, fun j l n m ej el => ?_, I.inv, I.ft, I.h0⟩
  · rcases set_at es with ⟨rfl, z⟩ | ⟨c, z⟩
    · cases z
      have hj : j < Γ.length := by
        have q := (List.getElem?_eq_some_iff.mp es).1
        rwa [List.length_set] at q
      exact ⟨v, by rw [List.getElem?_set_self (by rw [I.len]; exact hj)], rs⟩
    · obtain ⟨u, eu, q⟩ := I.var j t z
      exact ⟨u, by rw [List.getElem?_set_ne (Ne.symm c)]; exact eu, q⟩
  · have at_i : ∀ {j : Nat}, ownAt (Γ.set i (some s)) j → j = i → (σ.set i (some v))[j]? = some (some v) := fun {j} oj e => by
      subst e
      obtain ⟨d, q, _⟩ := oj
      have q := (List.getElem?_eq_some_iff.mp q).1
      rw [List.length_set] at q
      exact List.getElem?_set_self (by rw [I.len]; exact q)
    rcases own_set oj with ⟨ej, d, zj, oz⟩ | ⟨nj, oj2⟩
    · rcases own_set ol with ⟨el, _⟩ | ⟨nl2, ol2⟩
      · exact absurd (ej.trans el.symm) jl
      · rw [at_i oj ej, List.getElem?_set_ne (Ne.symm nl2)]
        exact fun q => no (by rw [Option.some.inj zj]; exact oz) l ol2 q.symm
    · rcases own_set ol with ⟨el, d, zl, oz⟩ | ⟨nl2, ol2⟩
      · rw [at_i ol el, List.getElem?_set_ne (Ne.symm nj)]
        exact no (by rw [Option.some.inj zl]; exact oz) j oj2
      · rw [List.getElem?_set_ne (Ne.symm nj), List.getElem?_set_ne (Ne.symm nl2)]
        exact I.dis j l jl oj2 ol2
  · rcases set_at ej with ⟨_, z⟩ | ⟨_, z1⟩
    · exact absurd (Option.some.inj z).symm (nd n)
    · rcases set_at el with ⟨_, z⟩ | ⟨_, z2⟩
      · exact absurd (Option.some.inj z).symm (nd m)
      · exact I.one j l n m z1 z2
theorem wipe_set {σ : St} {i : Nat} {x : Option V} : ∀ {vs : List Nat}, i ∈ vs → wipe (σ.set i x) vs = wipe σ vs := by
  have ix : ∀ (vs : List Nat) (σ : St) (j : Nat), (wipe σ vs)[j]? = if j ∈ vs ∧ j < σ.length then some none else σ[j]? := by
    intro vs
    induction vs with
    | nil =>
      intro σ j
      simp [wipe]
    | cons v r ih =>
      intro σ j
      unfold wipe
      rw [List.getElem?_set, wipe_length, ih]
      by_cases h1 : v = j
      · subst h1
        by_cases h2 : v < σ.length
        · simp [h2]
        · simp [h2]
      · simp [h1, Ne.symm h1]
  intro vs hi
  apply List.ext_getElem?
  intro j
  rw [ix, ix, List.length_set]
  by_cases h : j ∈ vs
  · by_cases h2 : j < σ.length
    · simp [h, h2]
    · have n : i ≠ j ∨ ¬ j < σ.length := .inr h2
      simp [h2]
  · have n : i ≠ j := fun z => h (by rw [← z]; exact hi)
    simp [h, List.getElem?_set_ne n]
def gtName (i : Nat) : TGd := fun d Γ Kg => Kg (Γ.set i (some (.imm d)))
theorem pgt_name {i : Nat} {x : Str} (h : PG X (.Name x pos) (gName i)) : PGt fam X (.Name x pos) [i] (gtName i) := by
  refine ⟨_, h, fun B A σ H F Γ v d Kg Q I q t fin => ?_⟩
  exact fin _ _ t (I.asg (s := .imm d) q) fun vs hv => wipe_set (hv i (by simp))
def gtNil : List D → Env' → (Env' → Prop) → Prop
  | [], Γ, Kg => Kg Γ
  | _, _, _ => False
def gtCons (t : TGd) (u : List D → Env' → (Env' → Prop) → Prop) : List D → Env' → (Env' → Prop) → Prop
  | d :: ds, Γ, Kg => t d Γ fun Γ1 => u ds Γ1 Kg
  | _, _, _ => False
theorem pgts_nil : PGts fam X [] [] gtNil := by
  refine ⟨_, pgs_nil, fun B A σ H F Γ vs ds Kg Q I q t fin => ?_⟩
  cases q with
  | nil => exact ⟨rfl, fin _ _ t I fun _ _ => rfl⟩
  | cons a b => exact t.elim
theorem pgts_cons {s1 s2 : List Nat} {t : TGd} {u : List D → Env' → (Env' → Prop) → Prop} (h1 : PGt fam X e s1 t) (h2 : PGts fam X es s2 u) (hs : (assignEach (e :: es) X.env).map (·.2) = assign e X.env :: (assignEach es X.env).map (·.2) := by rfl) : PGts fam X (e :: es) (s1 ++ s2) (gtCons t u) := by
  obtain ⟨g, p, h1⟩ := h1
  obtain ⟨gs, ps, h2⟩ := h2
  refine ⟨_, pgs_cons p ps hs, fun B A σ H F Γ vs ds Kg Q I q t fin => ?_⟩
  cases q with
  | nil => exact t.elim
  | @cons v vs d ds a b =>
    refine ⟨v, vs, rfl, ?_⟩
    refine h1 B A σ H F Γ v d _ _ I a t fun Γ1 σ1 k I1 w1 => ?_
    exact h2 B A σ1 H F Γ1 vs ds _ _ I1 b k fun Γ2 σ2 k2 I2 w2 => fin _ _ k2 I2 fun xs hx => (w2 xs fun i hi => hx i (List.mem_append_right _ hi)).trans (w1 xs fun i hi => hx i (List.mem_append_left _ hi))
def gtTup (n : Nat) (u : List D → Env' → (Env' → Prop) → Prop) : TGd
  | .tuple ds, Γ, Kg => ds.length = n ∧ u ds Γ Kg
  | _, _, _ => False
theorem pgt_tup {k : Nat} {sl : List Nat} {u : List D → Env' → (Env' → Prop) → Prop} {n : Nat} (hc : X.calm = true) (h : PGts fam X es sl u) (hn : (assignEach es X.env).length = n := by rfl) (hst : (assignEach es X.env).findIdx? (·.1) = none := by rfl) : PGt fam X (.Tuple es k pos) sl (gtTup n u) := by
  obtain ⟨g, p, h⟩ := h
  refine ⟨_, pg_tup hc p hn hst, fun B A σ H F Γ v d Kg Q I q t fin => ?_⟩
  match d, q, t with
  | .tuple ds, .tup a b, t =>
    exact ⟨_, _, rfl, sqT_same I.sub a, b.len.trans t.1, h B A σ H F Γ _ _ _ _ I b t.2 fin⟩
/-- x = e -/
def dSet (i : Nat) (te : TD) : TDS := fun DD Γ => te Γ (fun s Γ1 => DD.nx (Γ1.set i (some s))) DD.er
theorem pd_set {i : Nat} {x : Str} {p2 : Pos} (hN : X.N.Nodup) (hi : X.N[i]? = some x) (hx : Loc X.env.scope x) (h : PD fam X E e te) (hf : X.fn x = true ∨ X.env.scope.names.lookup x = some .local := by first | exact .inl rfl | exact .inr rfl | assumption) (hs : swapsWithSole [.Name x p2] e pos.line X.env = pure false := by rfl) (hw : swappedStores [.Name x p2] e X.env = pure none := by rfl) : PDs fam X E (.Assign [.Name x p2] e pos) (dSet i te) := by
  obtain ⟨ts, p, h⟩ := h
  exact ⟨_, ps_asg p (pg_name (i := i) hN hi hx hf) hs hw, fun B A σ H F Γ DD D I t w o => h B A σ H F Γ _ _ _ I t w fun s Γ1 v H1 F1 k S I1 r => o.nx _ _ _ _ k S (I1.asg r)⟩
/-- a, b = e -/
def dAsg (te : TD) (g : TGd) : TDS := fun DD Γ => te Γ (fun s Γ1 => match s.d? with
  | some d => g d Γ1 DD.nx
  | none => False) DD.er
theorem pd_asg {tg : Expr} {g : TGd} {sl : List Nat} (h : PD fam X E e te) (hg : PGt fam X tg sl g) (hs : swapsWithSole [tg] e pos.line X.env = pure false := by rfl) (hw : swappedStores [tg] e X.env = pure none := by rfl) (h1 : (assignEach [tg] X.env).map (·.2) = [assign tg X.env] := by rfl) : PDs fam X E (.Assign [tg] e pos) (dAsg te g) := by
  obtain ⟨ts, p, h⟩ := h
  obtain ⟨gg, pg, hg⟩ := hg
  refine ⟨_, ps_asg p pg hs hw h1, fun B A σ H F Γ DD D I t w o => h B A σ H F Γ _ _ _ I t w fun s Γ1 v H1 F1 k S I1 r => ?_⟩
  match e : s.d?, k with
  | some d, k =>
    obtain ⟨F2, S2, I2, q⟩ := r.give I1 e
    exact hg B A σ H1 F2 Γ1 v d _ _ I2 q k fun Γ' σ' k' I' _ => o.nx _ _ _ _ k' (S.trans S2) I'
/-! raise -/
def dRaise (c : Str) (fs : List Str) (t : TAr) : TDS := fun DD Γ => t Γ (fun ds _ => ds.length = fs.length ∧ DD.er c (fs.zip ds).reverse) DD.er
theorem zip_fst {α β : Type} : ∀ {xs : List α} {ys : List β}, ys.length = xs.length → (xs.zip ys).map (·.1) = xs
  | [], [], _ => rfl
  | [], _ :: _, h => nomatch h
  | _ :: _, [], h => nomatch h
  | x :: xs, y :: ys, h => congrArg (x :: ·) (zip_fst (Nat.succ.inj h))
theorem zip_snd' {α β : Type} : ∀ {xs : List α} {ys : List β}, ys.length = xs.length → (xs.zip ys).map (·.2) = ys
  | [], [], _ => rfl
  | [], _ :: _, h => nomatch h
  | _ :: _, [], h => nomatch h
  | x :: xs, y :: ys, h => congrArg (y :: ·) (zip_snd' (Nat.succ.inj h))
theorem pd_raise {C fI : Addr} {qual x : Str} {ist : Stmt} {fs : List Str} {k : Nat} {p : Pos} (hc : X.calm = true) (tk : L2.Takes X (WD E)) (T : SlX.EC X.K C fI qual ist fs) (J : SlX.InitTxt ist fs) (hB : ∀ us : List Value, us.length = fs.length → SlX.BindI ist qual fs (fun u => ⟨u :: us, []⟩) us) (hne : 0 < fs.length ∧ fs.length ≤ 900) (hr : Room k X.A) (hm : X.mg x = some (.ref C))
    (ha : PAr fam X E (a :: es) tr) (hg : Gl X x := by rfl) (hdb : (x == ("__debug__" : Str)) = false := by decide)
    (he : starEach (a :: es) X.env = (false, eval a X.env) :: starEach es X.env := by rfl) {pos2 : Pos} (hpl : (backTo pos2 (starEach es X.env)).any (·.1) = false := by rfl) : PDs fam X E (.Raise (some (.Call (.Name x p) (a :: es) [] pos2)) none pos) (dRaise x fs tr) := by
  obtain ⟨ts, pa, ha⟩ := ha
  refine ⟨_, ps_raise hc tk (pmk_down (pmk_E T J hB hne hr hm pa hg hdb he hpl)), fun B A σ H F Γ DD D I t w o => ?_⟩
  refine ha B A σ H F Γ _ _ _ I t w fun ds Γ1 vs H1 F1 k S I1 q => ?_
  have l : vs.length = fs.length := q.len.trans k.1
  refine ⟨l, l, fun d nd => ?_⟩
  refine w x _ C d _ F1 _ k.2 hm upd_same ⟨?_, ?_⟩ (fun a o e => ?_) I1.ft (fun a o e m => ?_) I1.new
  · rw [List.map_reverse, List.map_reverse]
    show (List.map (·.1) (fs.zip vs)).reverse = _
    rw [zip_fst l, zip_fst k.1]
  · rw [List.map_reverse, List.map_reverse]
    show Dqs X.K F1 (List.map (·.2) (fs.zip vs)).reverse _
    rw [zip_snd' l, zip_snd' k.1]
    exact q.rev
  · exact same_new nd _ _ (I1.sub a o e)
  · exact same_new nd _ _ (I1.keep a o e m)
/-! ### defs -/
def RO (K : PySem.W.Frag) (H H' F' : Hp) (v : V) : Slot → Prop
  | .imm d => Dq K F' v d
  | .own d => ∃ p, v = .ref p ∧ H p = none ∧ F' p = none ∧ OC K H' F' p d
  | _ => False
/-- what a def does, by data -/
abbrev CD := List D → (Slot → Prop) → KE → Prop
def spD (K : PySem.W.Frag) (mg : Str → Option Value) (n : Nat) (C : CD) : Sp := fun vs H Q E => ∃ (F : Hp) (ds : List D) (Kd : Slot → Prop) (Ke : KE), vs.length = n ∧ Same F H ∧ FD F ∧ Dqs K F vs ds ∧ C ds Kd Ke ∧
  (∀ s v H' F', Kd s → Same H H' → Same F F' → Same F' H' → FD F' → (∀ a o, F' a = some o → F a = some o ∨ H a = none) → RO K H H' F' v s → Q v H') ∧ XW K mg ⟨H, F, []⟩ Ke E
/-- .. of a thing of the draws, that is handed on first -/
abbrev CM := Nat → List D → (Slot → Nat → Prop) → KE → Prop
def spM (fam : Fam) (K : PySem.W.Frag) (mg : Str → Option Value) (n : Nat) (C : CM) : Sp := fun vs H Q E => ∃ (v0 : V) (vr : List V) (A : List Addr) (N : Nat) (F : Hp) (ds : List D) (Kd : Slot → Nat → Prop) (Ke : KE), vs = v0 :: vr ∧ vr.length = n ∧ Same F H ∧ FD F ∧ (∀ a ∈ A, F a = none) ∧ fam.IN H A ∧ fam.DR H v0 N A ∧ Dqs K F vr ds ∧ C N ds Kd Ke ∧
  (∀ s N' v H' F', Kd s N' → (∀ a o, H a = some o → a ∉ A → H' a = some o) → Same F F' → Same F' H' → (∀ a o, F' a = some o → F a = some o ∨ H a = none) → FD F' → (∀ a ∈ A, F' a = none) → fam.IN H' A → fam.DR H' v0 N' A → RO K H H' F' v s → Q v H') ∧ XW K mg ⟨H, F, A⟩ Ke E
theorem IV.call {K : PySem.W.Frag} {B : Bs} {A : List Addr} {σ : St} {H F H' F' : Hp} {Γ : Env'} (I : IV fam K B A σ H F Γ) (S : Same H H') (SF : Same F F') (SH : Same F' H') (ft : FD F') (nw : ∀ a o, F' a = some o → F a = some o ∨ H a = none) : IV fam K B A σ H' F' Γ := by
  have nf : ∀ {q : Addr} {x : HO}, F q = none → H q = some x → F' q = none := fun {q x} f h => by
    cases e : F' q with
    | none => rfl
    | some y =>
      rcases nw q y e with z | z
      · rw [f] at z
        cases z
      · rw [h] at z
        cases z
  refine ⟨SH, fun a o e m => S _ _ (I.keep a o e m), fun a o e => ?_, I.old.trans SF, I.len, fun i s es => ?_, I.dis, I.mA, fun a m => ?_, I.one, fam.inl I.inv (fun a m => ?_) (fun a o _ e => S _ _ e), ft, I.h0⟩
  · rcases nw a o e with z | z
    · exact I.new a o z
    · exact .inr (I.none0 z)
  · obtain ⟨v, ev, r⟩ := I.var i s es
    exact ⟨v, ev, r.step SF (fun q x _ f _ _ hx => ⟨S _ _ hx, nf f hx⟩) fun a m => by
      obtain ⟨z, _⟩ := I.tA a m
      cases e : H a with
      | none => exact absurd e z
      | some x => exact S _ _ e⟩
  · obtain ⟨z1, z2, z3⟩ := I.tA a m
    cases e : H a with
    | none => exact absurd e z1
    | some x => exact ⟨by rw [S _ _ e]; simp, nf z2 e, z3⟩
  · obtain ⟨z, _⟩ := I.tA a m
    cases e : H a with
    | none => exact absurd e z
    | some x => exact S _ _ e
theorem RO.rr {K : PySem.W.Frag} {B : Bs} {A : List Addr} {σ : St} {H F H' F' : Hp} {Γ : Env'} {v : V} {s : Slot} (I : IV fam K B A σ H F Γ) (r : RO K H H' F' v s) : RR fam K B A σ Γ H' F' v s := by
  cases s with
  | imm d => exact r
  | own d =>
    obtain ⟨p, rfl, n, f, oc⟩ := r
    exact ⟨⟨p, rfl, I.none0 n, f, I.noneA n, oc⟩, I.freshOwn n⟩
  | lent d => exact r.elim
  | drw n => exact r.elim
  | nds ks => exact r.elim
/-- exceptions of a callee -/
theorem XW.call {K : PySem.W.Frag} {mg : Str → Option Value} {B : Bs} {A : List Addr} {σ : St} {H F : Hp} {Γ : Env'} {Ke : KE} {E : XK} (I : IV fam K B A σ H F Γ) (w : XW K mg B Ke E) : XW K mg ⟨H, F, []⟩ Ke E :=
  fun c fs C dd H' F' zs k m ed fr s ft kp nw => w c fs C dd H' F' zs k m ed fr s ft (fun a o e m => kp a o (I.keep a o e m) (by simp)) fun a o e => by
    rcases nw a o e with z | z
    · exact I.new a o z
    · exact .inr (I.none0 z)
def dCall (C : CD) (t : TAr) : TD := fun Γ Kd Ke => t Γ (fun ds Γ1 => C ds (fun s => Kd s Γ1) Ke) Ke
variable {k n : Nat} {f : Addr} {fd : FuncData} {ps : List Str} {x : Str} {p : Pos} {CX : CXT}
theorem pd_call {C : CD} (G : FnOk X.prog X.w X.K X.mg X.base CX k f fd ps (spD X.K X.mg (es.length + 1) C)) (hr : Room k X.A) (hg : Gl X x) (hm : X.mg x = some (.ref f)) (hk : PySem.W.keepIn X.K (.ref f) = true) (hb : Binds X.K fd ps []) (hx : Passes CX X E)
    (ha : PAr fam X E (e :: es) tr) (hdb : (x == ("__debug__" : Str)) = false := by decide) (he : starEach (e :: es) X.env = (false, eval e X.env) :: starEach es X.env := by rfl) (hpl : (backTo pos (starEach es X.env)).any (·.1) = false := by rfl)
    (hl : ∀ {vs : List V} {ds : List D} {K F}, Dqs K F vs ds → True := by intros; trivial) : PD fam X E (.Call (.Name x p) (e :: es) [] pos) (fun Γ Kd Ke => tr Γ (fun ds Γ1 => ds.length = es.length + 1 ∧ C ds (fun s => Kd s Γ1) Ke) Ke) := by
  obtain ⟨ts, pa, ha⟩ := ha
  refine ⟨_, L2.pe_call G hr hg hm hk hb .nil hx pa hdb he hpl, fun B A σ H F Γ Kd Ke Q I t w fin => ?_⟩
  refine ha B A σ H F Γ _ _ _ I t w fun ds Γ1 vs H1 F1 k S I1 q => ?_
  rw [List.append_nil]
  exact ⟨F1, ds, _, Ke, q.len.trans k.1, I1.sub, I1.ft, q, k.2, fun s v H' F' ks S1 S2 S3 ft nw r => fin _ _ _ _ _ ks (S.trans S2) (I1.call S1 S2 S3 ft nw) (RO.rr I1 r), XW.call I1 w⟩
end
end L2.Dl

set_option Elab.async false
set_option linter.all false
set_option maxRecDepth 100000
set_option maxHeartbeats 4000000
/-! the data layer: a def by its body, calls that change the thing of the draws -/
namespace L2.Dl
open PySem PySem.Spec PyProof.Rows L2.Sl
def envD (n : Nat) (ds : List D) : Env' := ds.map (fun d => some (Slot.imm d)) ++ List.replicate (n - ds.length) none
theorem start_len {N : List Str} {vs : List V} (h : vs.length ≤ N.length) : (start N vs).length = N.length := by
  unfold start
  rw [List.length_append, List.length_map, List.length_replicate]
  omega
theorem start_at {N : List Str} {vs : List V} {i : Nat} {v : V} (e : vs[i]? = some v) : (start N vs)[i]? = some (some v) := by
  unfold start
  rw [List.getElem?_append_left (by rw [List.length_map]; exact (List.getElem?_eq_some_iff.mp e).1), List.getElem?_map, e] <;> rfl
theorem env_at {n : Nat} {ds : List D} {i : Nat} {s : Slot} (e : (envD n ds)[i]? = some (some s)) : ∃ d, ds[i]? = some d ∧ s = .imm d := by
  unfold envD at e
  by_cases h : i < ds.length
  · rw [List.getElem?_append_left (by rw [List.length_map]; exact h), List.getElem?_map, List.getElem?_eq_getElem h] at e
    exact ⟨ds[i], by simp [h], (Option.some.inj (Option.some.inj e)).symm⟩
  · rw [List.getElem?_append_right (by rw [List.length_map]; omega)] at e
    have q := List.mem_replicate.mp (List.mem_of_getElem? e)
    cases q.2
section
variable {fam : Fam} {P : Program} {w : World} {K : PySem.W.Frag} {mg : Str → Option Value} {base : Heap}
/-- at a def's entry -/
theorem IV.begin {N : List Str} {H F : Hp} {vs : List V} {ds : List D} (hl : fam.lam = false) (hi : fam.IN H []) (S : Same F H) (ft : FD F) (q : Dqs K F vs ds) (l : vs.length ≤ N.length) : IV fam K ⟨H, F, []⟩ [] (start N vs) H F (envD N.length ds) := by
  refine ⟨S, fun _ _ e _ => e, fun _ _ e => .inl e, Same.refl _, ?_, fun i s e => ?_, fun i j _ oi _ => ?_, (fun _ z => nomatch z), (fun _ z => nomatch z), fun i j n m e _ => ?_, hi, ft, fun z => by rw [hl] at z; cases z⟩
  · rw [start_len l]
    unfold envD
    rw [List.length_append, List.length_map, List.length_replicate, ← q.len]
    omega
  · obtain ⟨d, ed, rfl⟩ := env_at e
    obtain ⟨v, ev, qv⟩ := q.at_ ed
    exact ⟨v, start_at ev, qv⟩
  · obtain ⟨d, e, o⟩ := oi
    obtain ⟨_, _, rfl⟩ := env_at e
    cases o
  · obtain ⟨_, _, z⟩ := env_at e
    cases z
/-- what a def can tell -/
def toldS : Slot → (Slot → Prop) → Prop
  | .nds _, _ => False
  | s, k => k s
theorem RR.ro {B : Bs} {A : List Addr} {σ : St} {Γ : Env'} {H H' F' : Hp} {v : V} {s : Slot} (hB : B.H0 = H) (r : RR fam K B A σ Γ H' F' v s) (ns : ∀ ks, s ≠ .nds ks) : RO K H H' F' v s := by
  subst hB
  cases s with
  | imm d => exact r
  | own d =>
    obtain ⟨⟨p, rfl, n, f, _, oc⟩, _⟩ := r
    exact ⟨p, rfl, n, f, oc⟩
  | lent d => exact r
  | drw n => exact r
  | nds ks => exact absurd rfl (ns ks)
theorem toldS_of {s : Slot} {k : Slot → Prop} (h : toldS s k) : k s ∧ ∀ ks, s ≠ .nds ks := by
  cases s with
  | nds ks => exact h.elim
  | imm d => exact ⟨h, fun _ z => nomatch z⟩
  | own d => exact ⟨h, fun _ z => nomatch z⟩
  | lent d => exact ⟨h, fun _ z => nomatch z⟩
  | drw n => exact ⟨h, fun _ z => nomatch z⟩
abbrev endD (Kd : Slot → Prop) (Ke : KE) : EndsD := { nx := fun _ => Kd (.imm .none), rt := fun s _ => toldS s Kd, er := Ke }
theorem okD {x qual : Str} {st : Stmt} {f : Addr} {fd : FuncData} {N ps : List Str} {k : Nat} {C : CD} {t : TDS} (F : Fun K x qual st f fd) (S : FnScope N ps (defScope st)) (hle : ps.length ≤ N.length)
    (hb : ∀ (cdv : Value) (A : Around) (outer : List Env) (s : Shared) (H : Hp) (E : XK), Room k (A.deeper (envOfC qual (defScope st) s.heap.objs.size f cdv)) → L2.Takes (cxOf (L2.CX P w) P w K mg base N qual (defScope st) f cdv A outer s H E) (WD E) →
      PDss fam (cxOf (L2.CX P w) P w K mg base N qual (defScope st) f cdv A outer s H E) E (defBody st) t)
    (hc : ∀ ds Kd Ke, ds.length = ps.length → C ds Kd Ke → t (endD Kd Ke) (envD N.length ds)) (hl : fam.lam = false := by rfl) (hi : ∀ H, fam.IN H [] := by intro _; exact True.intro) : FnOk P w K mg base (L2.CX P w) (k + 1) f fd ps (spD K mg ps.length C) := by
  refine okX F S (fun vs H Q E h => ?_) (fun cdv A outer s H vs Q E hr h tk => ?_)
  · obtain ⟨F, ds, Kd, Ke, l, _⟩ := h
    exact l
  · obtain ⟨F, ds, Kd, Ke, l, SF, ft, q, c, post, xw⟩ := h
    obtain ⟨ts, p, run⟩ := hb cdv A outer s H E hr tk
    refine ⟨ts, p, ?_⟩
    refine run ⟨H, F, []⟩ [] (start N vs) H F (envD N.length ds) (endD Kd Ke) _ (IV.begin hl (hi H) SF ft q (by rw [l]; exact hle)) (hc ds Kd Ke (q.len.symm.trans l) c) xw ⟨fun Γ σ H' F' k S I => ?_, fun s Γ v σ H' F' k S I r => ?_, fun _ _ _ _ z => z.elim, fun _ _ _ _ z => z.elim⟩
    · exact post _ _ _ _ k (fun a o e => I.keep a o e (by simp)) S I.sub I.ft (fun a o e => I.new a o e) (show Dq K F' .non .none from .non)
    · exact post _ _ _ _ (toldS_of k).1 (fun a o e => I.keep a o e (by simp)) S I.sub I.ft (fun a o e => I.new a o e) (RR.ro rfl r (toldS_of k).2)
/-- how many draws there have been at the end -/
def drw0 (Γ : Env') (k : Nat → Prop) : Prop := match Γ[(0 : Nat)]? with
  | some (some (.drw n)) => k n
  | _ => False
/-- .. that changes the thing of the draws that comes first -/
abbrev endM (Kd : Slot → Nat → Prop) (Ke : KE) : EndsD where
  nx := fun Γ => drw0 Γ (Kd (.imm .none))
  rt := fun s Γ => toldS s fun s => drw0 Γ (Kd s)
  er := Ke
abbrev envM (n N : Nat) (ds : List D) : Env' := some (.drw N) :: envD (n - 1) ds
theorem okM {x qual : Str} {st : Stmt} {f : Addr} {fd : FuncData} {N ps : List Str} {n0 : Str} {k : Nat} {C : CM} {t : TDS} (F : Fun K x qual st f fd) (S : FnScope N (n0 :: ps) (defScope st)) (hle : ps.length + 1 ≤ N.length)
    (hb : ∀ (cdv : Value) (A : Around) (outer : List Env) (s : Shared) (H : Hp) (E : XK), Room k (A.deeper (envOfC qual (defScope st) s.heap.objs.size f cdv)) → L2.Takes (cxOf (L2.CX P w) P w K mg base N qual (defScope st) f cdv A outer s H E) (WD E) →
      PDss fam (cxOf (L2.CX P w) P w K mg base N qual (defScope st) f cdv A outer s H E) E (defBody st) t)
    (hc : ∀ M ds Kd Ke, ds.length = ps.length → C M ds Kd Ke → t (endM Kd Ke) (envM N.length M ds)) (hl : fam.lam = false := by rfl) : FnOk P w K mg base (L2.CX P w) (k + 1) f fd (n0 :: ps) (spM fam K mg ps.length C) := by
  refine okX F S (fun vs H Q E h => ?_) (fun cdv A outer s H vs Q E hr h tk => ?_)
  · obtain ⟨v0, vr, A, N, F, ds, Kd, Ke, rfl, l, _⟩ := h
    exact congrArg (· + 1) l
  · obtain ⟨v0, vr, A2, M, F, ds, Kd, Ke, rfl, l, SF, ft, fA, inv, dr, q, c, post, xw⟩ := h
    obtain ⟨ts, p, run⟩ := hb cdv A outer s H E hr tk
    refine ⟨ts, p, ?_⟩
    have I0 : IV fam K ⟨H, F, A2⟩ A2 (start N (v0 :: vr)) H F (envM N.length M ds) := by
      have el : (envD (N.length - 1) ds).length + 1 = N.length := by
        unfold envD
        rw [List.length_append, List.length_map, List.length_replicate, ← q.len, l]
        omega
      refine ⟨SF, fun _ _ e _ => e, fun _ _ e => .inl e, Same.refl _, ?_, fun i s e => ?_, fun i j _ oi _ => ?_, fun _ z => z, fun a m => ⟨fam.trk dr a m, fA a m, .inr m⟩, fun i j n m ei ej => ?_, inv, ft, fun z => by rw [hl] at z; cases z⟩
      · rw [start_len (by rw [List.length_cons, l]; exact hle)]
        exact el.symm
      · cases i with
        | zero =>
          cases e
          exact ⟨v0, rfl, dr⟩
        | succ i =>
          obtain ⟨d, ed, rfl⟩ := env_at (show (envD (N.length - 1) ds)[i]? = some (some s) from e)
          obtain ⟨v, ev, qv⟩ := q.at_ ed
          exact ⟨v, start_at (i := i + 1) (vs := v0 :: vr) ev, qv⟩
      · obtain ⟨d, e, o⟩ := oi
        cases i with
        | zero =>
          cases e
          cases o
        | succ i =>
          obtain ⟨_, _, rfl⟩ := env_at (show (envD (N.length - 1) ds)[i]? = some (some _) from e)
          cases o
      · cases i with
        | succ i =>
          obtain ⟨_, _, z⟩ := env_at (show (envD (N.length - 1) ds)[i]? = some (some _) from ei)
          cases z
        | zero =>
          cases j with
          | zero => rfl
          | succ j =>
            obtain ⟨_, _, z⟩ := env_at (show (envD (N.length - 1) ds)[j]? = some (some _) from ej)
            cases z
    have fin : ∀ {s : Slot} {Γ : Env'} {v : V} {σ : St} {H' F' : Hp}, drw0 Γ (Kd s) → Same F F' → IV fam K ⟨H, F, A2⟩ A2 σ H' F' Γ → RO K H H' F' v s → Q v H' := fun {s Γ v σ H' F'} k S I r => by
      have k : (match Γ[(0 : Nat)]? with
        | some (some (Slot.drw n)) => Kd s n
        | _ => False) := k
      match e : Γ[(0 : Nat)]?, k with
      | some (some (.drw n)), k =>
        obtain ⟨u, eu, d⟩ := I.var 0 _ e
        obtain ⟨a1, r1, e1, e2⟩ := fam.ref dr
        obtain ⟨a2, r2, e3, e4⟩ := fam.ref d
        rw [e1] at e3
        cases e3
        rw [e4, ← e2] at d
        exact post _ _ _ _ _ k (fun a o e m => I.keep a o e m) S I.sub (fun a o e => I.new a o e) I.ft (fun a m => (I.tA a m).2.1) I.inv d r
    refine run ⟨H, F, A2⟩ A2 _ H F _ (endM Kd Ke) _ I0 (hc M ds Kd Ke (q.len.symm.trans l) c) xw ⟨fun Γ σ H' F' k S I => ?_, fun s Γ v σ H' F' k S I r => ?_, fun _ _ _ _ z => z.elim, fun _ _ _ _ z => z.elim⟩
    · exact fin k S I (show Dq K F' .non .none from .non)
    · exact fin (toldS_of k).1 S I (RR.ro rfl r (toldS_of k).2)
/-- where nothing is let out -/
theorem FnOk.any {CX : CXT} {k : Nat} {f : Addr} {fd : FuncData} {ps : List Str} {sp : Sp} (F : FnOk P w K mg base CX0 k f fd ps sp) : FnOk P w K mg base CX k f fd ps sp := by
  refine ⟨F.len, fun A outer s H args us vs Q E hr e0 hb r h => ?_⟩
  refine codeAny_mono (F.run A outer s H args us vs Q E hr e0 hb r h) fun r s2 hq => ?_
  cases r with
  | error e => exact hq.elim
  | ok fl => cases fl <;> exact hq
end
section
variable {fam : Fam} {X : Cx} {E : XK} {e : Expr} {es : List Expr} {pos : Pos} {tr : TAr} {k i : Nat} {f : Addr} {fd : FuncData} {ps : List Str} {x y : Str} {p py : Pos} {CX : CXT}
/-- f(d, ..): d the thing of the draws, in slot i -/
def dCallM (i : Nat) (n : Nat) (C : CM) (t : TAr) : TD := fun Γ Kd Ke => (∃ N, Γ[i]? = some (some (.drw N))) ∧ t Γ (fun ds Γ1 => match Γ1[i]? with
  | some (some (.drw N)) => ds.length = n ∧ C N ds (fun s N' => Kd s (Γ1.set i (some (.drw N')))) Ke
  | _ => False) Ke
theorem IV.callM {K : PySem.W.Frag} {B : Bs} {A : List Addr} {σ : St} {H F H' F' : Hp} {Γ : Env'} {N N' : Nat} {v0 : V} (I : IV fam K B A σ H F Γ) (e : Γ[i]? = some (some (.drw N))) (ev : σ[i]? = some (some v0)) (S : ∀ a o, H a = some o → a ∉ A → H' a = some o) (SF : Same F F') (SH : Same F' H') (nw : ∀ a o, F' a = some o → F a = some o ∨ H a = none) (ft : FD F') (fA : ∀ a ∈ A, F' a = none) (inv : fam.IN H' A) (d : fam.DR H' v0 N' A) : IV fam K B A σ H' F' (Γ.set i (some (.drw N'))) := by
  have nf : ∀ {q : Addr} {x : HO}, F q = none → H q = some x → F' q = none := fun {q x} f h => by
    cases e : F' q with
    | none => rfl
    | some y =>
      rcases nw q y e with z | z
      · rw [f] at z
        cases z
      · rw [h] at z
        cases z
  refine ⟨SH, fun a o e m => ?_, fun a o e => ?_, I.old.trans SF, by rw [List.length_set]; exact I.len, fun j s es => ?_, fun j l jl oj ol => ?_, I.mA, fun a m => ?_, fun j l n m ej el => ?_, inv, ft, I.h0⟩
  · by_cases c : a ∈ A
    · obtain ⟨_, _, z⟩ := I.tA a c
      rcases z with z | z
      · rw [z] at e
        cases e
      · exact absurd z m
    · exact S _ _ (I.keep a o e m) c
  · rcases nw a o e with z | z
    · exact I.new a o z
    · exact .inr (I.none0 z)
  · rcases set_at es with ⟨rfl, z⟩ | ⟨c, z⟩
    · cases z
      exact ⟨v0, ev, d⟩
    · obtain ⟨v, ev, r⟩ := I.var j s z
      refine ⟨v, ev, ?_⟩
      cases s with
      | imm x => exact Dq.up (show Dq K F v x from r) SF
      | own x =>
        obtain ⟨q, rfl, b1, b2, b3, oc⟩ := r
        obtain ⟨o, eo⟩ := oc.trk
        exact ⟨q, rfl, b1, nf b2 eo, b3, oc.step SF fun o2 e2 => S _ _ e2 b3⟩
      | lent x =>
        obtain ⟨q, rfl, b1, b2, b3, oc⟩ := r
        obtain ⟨o, eo⟩ := oc.trk
        exact ⟨q, rfl, b1, nf b2 eo, b3, oc.step SF fun o2 e2 => S _ _ e2 b3⟩
      | drw n => exact absurd (I.one _ _ _ _ z e) c
      | nds ks =>
        obtain ⟨q, rfl, b1, b2, b3, nd⟩ := r
        obtain ⟨xs, eo, _⟩ := id nd
        exact ⟨q, rfl, b1, nf b2 eo, b3, nd.step SF fun o2 e2 => S _ _ e2 b3⟩
  · rcases own_set oj with ⟨_, d, z, zo⟩ | ⟨_, oj2⟩
    · cases z <;> cases zo
    · rcases own_set ol with ⟨_, d, z, zo⟩ | ⟨_, ol2⟩
      · cases z <;> cases zo
      · exact I.dis j l jl oj2 ol2
  · obtain ⟨_, _, z3⟩ := I.tA a m
    exact ⟨fam.trk d a m, fA a m, z3⟩
  · have at_ : ∀ {j n : Nat}, (Γ.set i (some (.drw N')))[j]? = some (some (.drw n)) → j = i := fun {j n} q => by
      rcases set_at q with ⟨z, _⟩ | ⟨_, z⟩
      · exact z
      · exact I.one _ _ _ _ z e
    exact (at_ ej).trans (at_ el).symm
theorem pd_callM {C : CM} (G : FnOk X.prog X.w X.K X.mg X.base CX k f fd ps (spM fam X.K X.mg es.length C)) (hr : Room k X.A) (hg : Gl X x) (hm : X.mg x = some (.ref f)) (hk : PySem.W.keepIn X.K (.ref f) = true) (hb : Binds X.K fd ps []) (hx : Passes CX X E)
    (hv : PE X (.Name y py) (tVar i)) (ha : PAr fam X E es tr) (hdb : (x == ("__debug__" : Str)) = false := by decide) (he : starEach (.Name y py :: es) X.env = (false, eval (.Name y py) X.env) :: starEach es X.env := by rfl) (hpl : (backTo pos (starEach es X.env)).any (·.1) = false := by rfl) :
    PD fam X E (.Call (.Name x p) (.Name y py :: es) [] pos) (dCallM i es.length C tr) := by
  obtain ⟨ts, pa, ha⟩ := ha
  refine ⟨_, L2.pe_call G hr hg hm hk hb .nil hx (pa_cons hv pa he) hdb he hpl, fun B A σ H F Γ Kd Ke Q I t w fin => ?_⟩
  obtain ⟨⟨N0, e0⟩, t⟩ := t
  obtain ⟨v0, ev, _⟩ := I.var i _ e0
  refine ⟨v0, ev, ?_⟩
  refine ha B A σ H F Γ _ _ _ I t w fun ds Γ1 vs H1 F1 k S I1 q => ?_
  show spM fam X.K X.mg es.length C (v0 :: vs ++ []) H1 Q E
  rw [List.append_nil]
  match e1 : Γ1[i]?, k with
  | some (some (.drw N)), k =>
    obtain ⟨u, eu, d⟩ := I1.var i _ e1
    rw [ev] at eu
    cases eu
    refine ⟨v0, vs, A, N, F1, ds, _, Ke, rfl, q.len.trans k.1, I1.sub, I1.ft, (fun a m => (I1.tA a m).2.1), I1.inv, d, q, k.2, fun s N' v H' F' ks S1 S2 S3 nw ft fA inv d' r => ?_, ?_⟩
    · refine fin _ _ _ _ _ ks (S.trans S2) (I1.callM e1 ev S1 S2 S3 nw ft fA inv d') ?_
      cases s with
      | imm x => exact r
      | own x =>
        obtain ⟨q, rfl, n, f, oc⟩ := r
        refine ⟨⟨q, rfl, I1.none0 n, f, I1.noneA n, oc⟩, fun j oj => ?_⟩
        rcases own_set oj with ⟨_, _, z, zo⟩ | ⟨_, oj⟩
        · cases z <;> cases zo
        · exact I1.freshOwn n j oj
      | lent x => exact r
      | drw n => exact r
      | nds ks => exact r.elim
    · refine fun c fs C dd H' F' zs k m ed fr s ft kp nw => w c fs C dd H' F' zs k m ed fr s ft (fun a o e m => ?_) fun a o e => ?_
      · by_cases c : a ∈ A
        · obtain ⟨_, _, z⟩ := I1.tA a c
          rcases z with z | z
          · rw [z] at e
            cases e
          · exact absurd z m
        · exact kp a o (I1.keep a o e m) c
      · rcases nw a o e with z | z
        · exact I1.new a o z
        · exact .inr (I1.none0 z)
end
end L2.Dl

set_option Elab.async false
set_option linter.all false
set_option maxRecDepth 100000
set_option maxHeartbeats 4000000
/-! the data layer: walks, loops, comprehensions -/
namespace L2.Dl
open PySem PySem.Spec PyProof.Rows L2.Sl RZ
/-- what is walked is lent: the slot, its list -/
def lentOk (lv : Option (Nat × Addr)) (ds : List D) (σ : St) (Γ : Env') : Prop := match lv with
  | none => True
  | some (i, p) => Γ[i]? = some (some (.lent (.list ds))) ∧ σ[i]? = some (some (.ref p))
structure WkD (fam : Fam) (K : PySem.W.Frag) (J : It) (ds all : List D) (lv : Option (Nat × Addr)) (F0 : Hp) : Prop where
  go : ∀ B A i σ H F Γ, i < ds.length → IV fam K B A σ H F Γ → Same F0 F → lentOk lv all σ Γ → J.go i H
  stop : ∀ B A σ H F Γ, IV fam K B A σ H F Γ → Same F0 F → lentOk lv all σ Γ → J.stop ds.length H
  yld : ∀ B A i σ H F Γ x H', i < ds.length → IV fam K B A σ H F Γ → Same F0 F → lentOk lv all σ Γ → J.yld i H x H' → ∃ F' d, Same F F' ∧ IV fam K B A σ H' F' Γ ∧ ds[i]? = some d ∧ Dq K F' x d ∧ Same H H' ∧ ∀ a o, F' a = some o → F a = some o ∨ H a = none
abbrev TId := Env' → (List D → Option (Nat × List D) → Env' → Prop) → KE → Prop
def PIt (fam : Fam) (X : Cx) (E : XK) (tg iter : Expr) (t : TId) : Prop := ∃ wi, PI X tg iter wi ∧ ∀ (B : Bs) (A : List Addr) (σ : St) (H F : Hp) (Γ : Env') (Ki : List D → Option (Nat × List D) → Env' → Prop) (Ke : KE) (R : It → Hp → Prop), IV fam X.K B A σ H F Γ → t Γ Ki Ke → XW X.K X.mg B Ke E →
  (∀ ds lv Γ' H' F' J p, Ki ds lv Γ' → Same F F' → IV fam X.K B A σ H' F' Γ' → WkD fam X.K J ds ((lv.map (·.2)).getD []) (lv.map fun x => (x.1, p)) F' → lentOk (lv.map fun x => (x.1, p)) ((lv.map (·.2)).getD []) σ Γ' → R J H') → wi σ H R
section
variable {fam : Fam} {K : PySem.W.Frag} {F0 : Hp} {a b : Addr} {vs us : List V} {ds es : List D}
theorem wk_list (h : ∀ H, Same F0 H → SqL K H a vs) (q : Dqs K F0 vs ds) {all} : WkD fam K (Itl K a) ds all none F0 := by
  refine ⟨fun B A i σ H F Γ hi I S _ => ?_, fun B A σ H F Γ I S _ => ?_, fun B A i σ H F Γ x H' hi I S _ y => ?_⟩
  · have l : i < vs.length := by rw [q.len]; exact hi
    exact ⟨vs, vs[i], h H (S.trans I.sub), by simp [l]⟩
  · exact ⟨vs, h H (S.trans I.sub), by rw [q.len]; exact Nat.le_refl _⟩
  · obtain ⟨rfl, y⟩ := y
    obtain ⟨d, ed, dq⟩ := q.atV (y vs (h H' (S.trans I.sub)))
    exact ⟨F, d, Same.refl _, I, ed, dq.up S, Same.refl _, fun _ _ z => .inl z⟩
theorem wk_tup (h : ∀ H, Same F0 H → SqT K H a vs) (q : Dqs K F0 vs ds) {all} : WkD fam K (Itt K a) ds all none F0 := by
  refine ⟨fun B A i σ H F Γ hi I S _ => ?_, fun B A σ H F Γ I S _ => ?_, fun B A i σ H F Γ x H' hi I S _ y => ?_⟩
  · have l : i < vs.length := by rw [q.len]; exact hi
    exact ⟨vs, vs[i], h H (S.trans I.sub), by simp [l]⟩
  · exact ⟨vs, h H (S.trans I.sub), by rw [q.len]; exact Nat.le_refl _⟩
  · obtain ⟨rfl, y⟩ := y
    obtain ⟨d, ed, dq⟩ := q.atV (y vs (h H' (S.trans I.sub)))
    exact ⟨F, d, Same.refl _, I, ed, dq.up S, Same.refl _, fun _ _ z => .inl z⟩
/-- a lent list -/
theorem lent_list {B : Bs} {A : List Addr} {σ : St} {H F : Hp} {Γ : Env'} {i : Nat} {p : Addr} (I : IV fam K B A σ H F Γ) (l : lentOk (some (i, p)) ds σ Γ) : ∃ vs, SqL K H p vs ∧ Dqs K F vs ds := by
  obtain ⟨e1, e2⟩ := l
  obtain ⟨v, ev, q, rfl, _, _, _, vs, e, dq⟩ := I.var i _ e1
  rw [e2] at ev
  cases ev
  exact ⟨vs, SqL.of e, dq⟩
theorem wk_lent {i : Nat} {p : Addr} : WkD fam K (Itl K p) ds ds (some (i, p)) F0 := by
  refine ⟨fun B A j σ H F Γ hj I S l => ?_, fun B A σ H F Γ I S l => ?_, fun B A j σ H F Γ x H' hj I S l y => ?_⟩
  · obtain ⟨vs, h, q⟩ := lent_list I l
    have z : j < vs.length := by rw [q.len]; exact hj
    exact ⟨vs, vs[j], h, by simp [z]⟩
  · obtain ⟨vs, h, q⟩ := lent_list I l
    exact ⟨vs, h, by rw [q.len]; exact Nat.le_refl _⟩
  · obtain ⟨vs, h, q⟩ := lent_list I l
    obtain ⟨rfl, y⟩ := y
    obtain ⟨d, ed, dq⟩ := q.atV (y vs h)
    exact ⟨F, d, Same.refl _, I, ed, dq, Same.refl _, fun _ _ z => .inl z⟩
def signsD (z : Str) : List D := z.cps.toList.map fun c => .str ⟨#[c]⟩
theorem wk_str {z : Str} {all} : WkD fam K (Its z) (signsD z) all none F0 := by
  have l : (signsD z).length = z.cps.size := by
    unfold signsD
    rw [List.length_map, Array.length_toList]
  refine ⟨fun B A i σ H F Γ hi I S _ => ?_, fun B A σ H F Γ I S _ => ?_, fun B A i σ H F Γ x H' hi I S _ y => ?_⟩
  · exact (show i < z.cps.size by rw [← l]; exact hi)
  · exact (show z.cps.size ≤ (signsD z).length by rw [l]; exact Nat.le_refl _)
  · obtain ⟨rfl, c, ec, rfl⟩ := y
    refine ⟨F, .str ⟨#[c]⟩, Same.refl _, I, ?_, .str _, Same.refl _, fun _ _ z => .inl z⟩
    unfold signsD
    rw [List.getElem?_map, Array.getElem?_toList, ec] <;> rfl
def rangeD (lo : Int) (n : Nat) : List D := (List.range n).map fun k => .int (lo + (k : Nat))
theorem wk_range {lo : Int} {n : Nat} {all} : WkD fam K (Itr lo n) (rangeD lo n) all none F0 := by
  have l : (rangeD lo n).length = n := by
    unfold rangeD
    rw [List.length_map, List.length_range]
  refine ⟨fun B A i σ H F Γ hi I S _ => ?_, fun B A σ H F Γ I S _ => ?_, fun B A i σ H F Γ x H' hi I S _ y => ?_⟩
  · exact (show i < n by rw [← l]; exact hi)
  · exact (show n ≤ (rangeD lo n).length by rw [l]; exact Nat.le_refl _)
  · obtain ⟨rfl, rfl⟩ := y
    rw [l] at hi
    refine ⟨F, .int (lo + (i : Nat)), Same.refl _, I, ?_, .int _, Same.refl _, fun _ _ z => .inl z⟩
    unfold rangeD
    rw [List.getElem?_map, List.getElem?_range hi] <;> rfl
/-- a new pair -/
theorem pair_new {B : Bs} {A : List Addr} {σ : St} {H F : Hp} {Γ : Env'} {T : Addr} {x y : V} {d e : D} (I : IV fam K B A σ H F Γ) (n : H T = none) (q1 : Dq K F x d) (q2 : Dq K F y e) : ∃ F', Same F F' ∧ IV fam K B A σ (upd H T (.tup [x, y])) F' Γ ∧ Dq K F' (.ref T) (.tuple [d, e]) ∧ ∀ a o, F' a = some o → F a = some o ∨ H a = none :=
  ⟨_, same_new (I.noneF n), I.made n, .tup (SqT.of upd_same) (.cons (q1.up (same_new (I.noneF n))) (.cons (q2.up (same_new (I.noneF n))) .nil)), fun a o z => by
    by_cases c : a = T
    · exact .inr (by rw [c]; exact n)
    · rw [upd_ne c] at z
      exact .inl z⟩
def enumD (ds : List D) : List D := (ds.zipIdx).map fun x => .tuple [.int (x.2 : Nat), x.1]
theorem enum_at {ds : List D} {i : Nat} {d : D} (e : ds[i]? = some d) : (enumD ds)[i]? = some (.tuple [.int (i : Nat), d]) := by
  unfold enumD
  rw [List.getElem?_map, List.getElem?_zipIdx, e]
  simp
theorem wk_enum (h : ∀ H, Same F0 H → SqL K H a vs) (q : Dqs K F0 vs ds) {all} : WkD fam K (Ite K a) (enumD ds) all none F0 := by
  have l : (enumD ds).length = ds.length := by
    unfold enumD
    rw [List.length_map, List.length_zipIdx]
  refine ⟨fun B A i σ H F Γ hi I S _ => ?_, fun B A σ H F Γ I S _ => ?_, fun B A i σ H F Γ x H' hi I S _ y => ?_⟩
  · have l : i < vs.length := by rw [q.len, ← l]; exact hi
    exact ⟨vs, vs[i], h H (S.trans I.sub), by simp [l]⟩
  · exact ⟨vs, h H (S.trans I.sub), by rw [q.len, l]; exact Nat.le_refl _⟩
  · obtain ⟨T, z, rfl, nT, rfl, e1⟩ := y
    obtain ⟨d, ed, dq⟩ := q.atV (e1 vs (h H (S.trans I.sub)))
    obtain ⟨F', S', I', dq', nw⟩ := pair_new I nT (.int (i : Nat)) (dq.up S)
    exact ⟨F', _, S', I', enum_at ed, dq', same_new nT, nw⟩
def zipD (ds es : List D) : List D := (ds.zip es).map fun x => .tuple [x.1, x.2]
theorem zip_at {ds es : List D} {i : Nat} {d e : D} (h1 : ds[i]? = some d) (h2 : es[i]? = some e) : (zipD ds es)[i]? = some (.tuple [d, e]) := by
  unfold zipD
  have z : (ds.zip es)[i]? = some (d, e) := List.getElem?_zip_eq_some.mpr ⟨h1, h2⟩
  rw [List.getElem?_map, z] <;> rfl
theorem wk_zip (h : ∀ H, Same F0 H → SqL K H a vs) (q : Dqs K F0 vs ds) (h2 : ∀ H, Same F0 H → SqL K H b us) (q2 : Dqs K F0 us es) {all} : WkD fam K (Itz K a b) (zipD ds es) all none F0 := by
  have l : (zipD ds es).length = min ds.length es.length := by
    unfold zipD
    rw [List.length_map, List.length_zip]
  refine ⟨fun B A i σ H F Γ hi I S _ => ?_, fun B A σ H F Γ I S _ => ?_, fun B A i σ H F Γ x H' hi I S _ y => ?_⟩
  · have l1 : i < vs.length := by rw [q.len]; omega
    have l2 : i < us.length := by rw [q2.len]; omega
    exact ⟨vs, us, vs[i], us[i], h H (S.trans I.sub), h2 H (S.trans I.sub), by simp [l1], by simp [l2]⟩
  · exact ⟨vs, us, h H (S.trans I.sub), h2 H (S.trans I.sub), by rw [q.len, q2.len, l]; omega⟩
  · obtain ⟨T, z, y, rfl, nT, rfl, e1, e2⟩ := y
    obtain ⟨d, ed, dq⟩ := q.atV (e1 vs (h H (S.trans I.sub)))
    obtain ⟨d2, ed2, dq2⟩ := q2.atV (e2 us (h2 H (S.trans I.sub)))
    obtain ⟨F', S', I', dq', nw⟩ := pair_new I nT (dq.up S) (dq2.up S)
    exact ⟨F', _, S', I', zip_at ed ed2, dq', same_new nT, nw⟩
theorem wk_zipT (h : ∀ H, Same F0 H → SqT K H a vs) (q : Dqs K F0 vs ds) (h2 : ∀ H, Same F0 H → SqT K H b us) (q2 : Dqs K F0 us es) {all} : WkD fam K (ItzT K a b) (zipD ds es) all none F0 := by
  have l : (zipD ds es).length = min ds.length es.length := by
    unfold zipD
    rw [List.length_map, List.length_zip]
  refine ⟨fun B A i σ H F Γ hi I S _ => ?_, fun B A σ H F Γ I S _ => ?_, fun B A i σ H F Γ x H' hi I S _ y => ?_⟩
  · have l1 : i < vs.length := by rw [q.len]; omega
    have l2 : i < us.length := by rw [q2.len]; omega
    exact ⟨vs, us, vs[i], us[i], h H (S.trans I.sub), h2 H (S.trans I.sub), by simp [l1], by simp [l2]⟩
  · exact ⟨vs, us, h H (S.trans I.sub), h2 H (S.trans I.sub), by rw [q.len, q2.len, l]; omega⟩
  · obtain ⟨T, z, y, rfl, nT, rfl, e1, e2⟩ := y
    obtain ⟨d, ed, dq⟩ := q.atV (e1 vs (h H (S.trans I.sub)))
    obtain ⟨d2, ed2, dq2⟩ := q2.atV (e2 us (h2 H (S.trans I.sub)))
    obtain ⟨F', S', I', dq', nw⟩ := pair_new I nT (dq.up S) (dq2.up S)
    exact ⟨F', _, S', I', zip_at ed ed2, dq', same_new nT, nw⟩
end
section
variable {fam : Fam} {X : Cx} {E : XK} {e e2 tg iter elt : Expr} {es : List Expr} {pos p : Pos} {xa : TB} {tr : TAr}
/-- a list, a tuple, a text, whichever it is -/
theorem pi_any {te : TE} (hl : PE X e te) : PI X tg e (fun σ H R => te σ H fun x H1 => (∃ a, x = .ref a ∧ (∃ xs, SqL X.K H1 a xs) ∧ R (Itl X.K a) H1) ∨ (∃ a, x = .ref a ∧ (∃ xs, SqT X.K H1 a xs) ∧ R (Itt X.K a) H1) ∨ ∃ z, x = .str z ∧ R (Its z) H1) := by
  refine ⟨fun pins s σ H R I h => ?_⟩
  refine thn (hl.run pins s σ H _ I h) fun v s1 ⟨x, H1, I1, r1, q1⟩ => ?_
  rcases q1 with q1 | q1 | q1
  · obtain ⟨a, e, ⟨xs, hq⟩, q⟩ := q1
    subst e
    cases r1
    obtain ⟨its, rv, p, hz⟩ := I1.list hq
    refine wpAny_pyIter_list p.isList ?_
    refine ⟨s1.heap.objs.size, [s1.heap.objs.size], _, _, H1, rfl, I1.kept (t' := s1.toks) fun b o e => Heap.get?_push_of_some _ e, turn_list a _, ⟨_, Heap.get?_push_size _ rfl, rfl, rfl⟩, fun b hb => ?_, q⟩
    have e : b = s1.heap.objs.size := by simpa using hb
    subst e
    exact I1.fpOk (Nat.le_refl _) (I1.hok.fresh (Nat.le_refl _))
  · obtain ⟨a, e, ⟨xs, hq⟩, q⟩ := q1
    subst e
    cases r1
    obtain ⟨its, rv, p, hz⟩ := I1.tuple hq
    refine wpAny_pyIter_tuple (show s1.heap.IsTuple a its.toArray from p) ?_
    refine ⟨s1.heap.objs.size, [s1.heap.objs.size], _, _, H1, rfl, I1.kept (t' := s1.toks) fun b o e => Heap.get?_push_of_some _ e, turn_tuple a _, ⟨_, Heap.get?_push_size _ rfl, rfl, rfl⟩, fun b hb => ?_, q⟩
    have e : b = s1.heap.objs.size := by simpa using hb
    subst e
    exact I1.fpOk (Nat.le_refl _) (I1.hok.fresh (Nat.le_refl _))
  · obtain ⟨x, rfl, q⟩ := q1
    obtain ⟨t, rfl⟩ := r1
    cases ha : x.cps.all (· < 128)
    · exact wpAny_pyIter_wide ha (pi_one (tk := s1.toks) I1 _ (turn_str _ x t "str_iterator" (.inr rfl)) ⟨_, Heap.get?_push_size _ rfl, rfl, rfl⟩ q)
    · exact wpAny_pyIter_ascii ha (pi_one (tk := s1.toks) I1 _ (turn_str _ x t "str_ascii_iterator" (.inl rfl)) ⟨_, Heap.get?_push_size _ rfl, rfl, rfl⟩ q)
/-- what is walked of fixed data -/
def seqD : D → Option (List D)
  | .list ds => some ds
  | .tuple ds => some ds
  | .str z => some (signsD z)
  | _ => none
/-- what a name holds is lent while it is walked -/
def iLend (Γ : Env') (i : Nat) (Ki : List D → Option (Nat × List D) → Env' → Prop) : Prop := match Γ[i]? with
  | some (some (.imm d)) => (match seqD d with
    | some ds => Ki ds none Γ
    | none => False)
  | some (some (.own (.list ds))) => Ki ds (some (i, ds)) (Γ.set i (some (.lent (.list ds))))
  | _ => False
def iSeq (xa : TB) : TId := fun Γ Ki Ke => xa Γ (fun h Γ1 => match h with
  | .val d => (match seqD d with
    | some ds => Ki ds none Γ1
    | none => False)
  | .var i => iLend Γ1 i Ki) Ke
theorem seq_run {B : Bs} {A : List Addr} {σ : St} {H F : Hp} {Γ : Env'} {v : V} {d : D} {ds : List D} {R : It → Hp → Prop} {K : PySem.W.Frag} (I : IV fam K B A σ H F Γ) (q : Dq K F v d) (e : seqD d = some ds)
    (fin : ∀ J, WkD fam K J ds [] none F → R J H) : (∃ a, v = .ref a ∧ (∃ xs, SqL K H a xs) ∧ R (Itl K a) H) ∨ (∃ a, v = .ref a ∧ (∃ xs, SqT K H a xs) ∧ R (Itt K a) H) ∨ ∃ z, v = .str z ∧ R (Its z) H := by
  cases d with
  | list xs =>
    cases e
    cases q with
    | lst h q => exact .inl ⟨_, rfl, ⟨_, I.sub.seq h⟩, fin _ (wk_list (fun H S => S.seq h) q)⟩
  | tuple xs =>
    cases e
    cases q with
    | tup h q => exact .inr (.inl ⟨_, rfl, ⟨_, sqT_same I.sub h⟩, fin _ (wk_tup (fun H S => sqT_same S h) q)⟩)
  | str z =>
    cases e
    cases q
    exact .inr (.inr ⟨z, rfl, fin _ wk_str⟩)
  | _ => cases e
theorem pit_seq (h : PB fam X E e xa) : PIt fam X E tg e (iSeq xa) := by
  obtain ⟨te, pe, h⟩ := h
  refine ⟨_, pi_any pe, fun B A σ H F Γ Ki Ke R I t w fin => ?_⟩
  refine h B A σ H F Γ _ _ _ I t w fun hd Γ1 v H1 F1 k S I1 r => ?_
  cases hd with
  | val d =>
    have r : Dq X.K F1 v d := r
    have k : (match seqD d with
      | some ds => Ki ds none Γ1
      | none => False) := k
    match e : seqD d, k with
    | some ds, k => exact seq_run I1 r e fun J wk => fin ds none Γ1 H1 F1 J 0 k S I1 wk True.intro
  | var i =>
    have r : σ[i]? = some (some v) := r
    have k : (match Γ1[i]? with
      | some (some (.imm d)) => (match seqD d with
        | some ds => Ki ds none Γ1
        | none => False)
      | some (some (.own (.list ds))) => Ki ds (some (i, ds)) (Γ1.set i (some (.lent (.list ds))))
      | _ => False) := k
    match ei : Γ1[i]?, k with
    | some (some (.imm d)), k =>
      obtain ⟨u, eu, q⟩ := I1.var i _ ei
      rw [r] at eu
      cases eu
      have k : (match seqD d with
        | some ds => Ki ds none Γ1
        | none => False) := k
      match e : seqD d, k with
      | some ds, k => exact seq_run I1 q e fun J wk => fin ds none Γ1 H1 F1 J 0 k S I1 wk True.intro
    | some (some (.own (.list ds))), k =>
      obtain ⟨u, eu, p, rfl, b1, b2, b3, oc⟩ := I1.var i _ ei
      rw [r] at eu
      cases eu
      obtain ⟨vs, ev, q⟩ := id oc
      have I2 : IV fam X.K B A σ H1 F1 (Γ1.set i (some (.lent (.list ds)))) := I1.tell r ⟨p, rfl, b1, b2, b3, oc⟩ fun z j nj oj => by
        rw [← r]
        exact I1.dis j i nj oj ⟨_, ei, rfl⟩
      have hl : i < Γ1.length := (List.getElem?_eq_some_iff.mp ei).1
      exact .inl ⟨p, rfl, ⟨vs, SqL.of ev⟩, fin ds (some (i, ds)) _ H1 F1 _ p k S I2 wk_lent ⟨by rw [List.getElem?_set_self hl] <;> rfl, r⟩⟩
/-! range, enumerate, zip -/
def iRange1 (t : TAr) : TId := fun Γ Ki Ke => t Γ (fun ds Γ1 => match ds with
  | [.int n] => (-(2 ^ 62) ≤ n ∧ n < 2 ^ 62) ∧ Ki (rangeD 0 n.toNat) none Γ1
  | _ => False) Ke
theorem pit_range1 (hg : Gl X "range") (hm : X.mg "range" = none) (h : PAr fam X E [e] tr) (hs : starEach [e] X.env = [(false, eval e X.env)] := by rfl) : PIt fam X E tg (.Call (.Name "range" p) [e] [] pos) (iRange1 tr) := by
  obtain ⟨ta, pa, h⟩ := h
  refine ⟨_, pi_range1 hg hm pa hs, fun B A σ H F Γ Ki Ke R I t w fin => ?_⟩
  refine h B A σ H F Γ _ _ _ I t w fun ds Γ1 vs H1 F1 k S I1 q => ?_
  match ds, q, k with
  | [.int n], .cons a .nil, k =>
    cases a
    exact ⟨n, rfl, k.1.1, k.1.2, fin _ none _ _ _ _ 0 k.2 S I1 wk_range True.intro⟩
def iRange2 (t : TAr) : TId := fun Γ Ki Ke => t Γ (fun ds Γ1 => match ds with
  | [.int m, .int n] => (-(2 ^ 62) ≤ m ∧ m < 2 ^ 62 ∧ -(2 ^ 62) ≤ n ∧ n < 2 ^ 62) ∧ Ki (rangeD m (n - m).toNat) none Γ1
  | _ => False) Ke
theorem pit_range2 (hg : Gl X "range") (hm : X.mg "range" = none) (h : PAr fam X E [e, e2] tr) (hs : starEach [e, e2] X.env = [(false, eval e X.env), (false, eval e2 X.env)] := by rfl) (hs2 : starEach [e2] X.env = [(false, eval e2 X.env)] := by rfl) : PIt fam X E tg (.Call (.Name "range" p) [e, e2] [] pos) (iRange2 tr) := by
  obtain ⟨ta, pa, h⟩ := h
  refine ⟨_, pi_range2 hg hm pa hs hs2, fun B A σ H F Γ Ki Ke R I t w fin => ?_⟩
  refine h B A σ H F Γ _ _ _ I t w fun ds Γ1 vs H1 F1 k S I1 q => ?_
  match ds, q, k with
  | [.int m, .int n], .cons a (.cons b .nil), k =>
    cases a
    cases b
    exact ⟨m, n, rfl, k.1, fin _ none _ _ _ _ 0 k.2 S I1 wk_range True.intro⟩
def iEnumD (t : TAr) : TId := fun Γ Ki Ke => t Γ (fun ds Γ1 => match ds with
  | [.list l] => Ki (enumD l) none Γ1
  | _ => False) Ke
theorem pit_enum {elts : List Expr} {kk : Nat} {tpos : Pos} (hg : Gl X "enumerate") (hm : X.mg "enumerate" = none) (h : PAr fam X E [e] tr) (hs : starEach [e] X.env = [(false, eval e X.env)] := by rfl) : PIt fam X E (.Tuple elts kk tpos) (.Call (.Name "enumerate" p) [e] [] pos) (iEnumD tr) := by
  obtain ⟨ta, pa, h⟩ := h
  refine ⟨_, pi_enum hg hm pa hs, fun B A σ H F Γ Ki Ke R I t w fin => ?_⟩
  refine h B A σ H F Γ _ _ _ I t w fun ds Γ1 vs H1 F1 k S I1 q => ?_
  match ds, q, k with
  | [.list l], .cons a .nil, k =>
    cases a with
    | lst hh q => exact ⟨_, _, rfl, I1.sub.seq hh, fin _ none _ _ _ _ 0 k S I1 (wk_enum (fun H S => S.seq hh) q) True.intro⟩
def iZipD (t : TAr) : TId := fun Γ Ki Ke => t Γ (fun ds Γ1 => match ds with
  | [.list l, .list m] => Ki (zipD l m) none Γ1
  | [.tuple l, .tuple m] => Ki (zipD l m) none Γ1
  | _ => False) Ke
theorem pit_zip {elts : List Expr} {kk : Nat} {tpos : Pos} (hg : Gl X "zip") (hm : X.mg "zip" = none) (h : PAr fam X E [e, e2] tr) (hs : starEach [e, e2] X.env = (false, eval e X.env) :: starEach [e2] X.env := by rfl) (hpl : (backTo pos (starEach [e2] X.env)).any (·.1) = false := by rfl) : PIt fam X E (.Tuple elts kk tpos) (.Call (.Name "zip" p) [e, e2] [] pos) (iZipD tr) := by
  obtain ⟨ta, pa, h⟩ := h
  refine ⟨_, pi_zipA hg hm pa hs hpl, fun B A σ H F Γ Ki Ke R I t w fin => ?_⟩
  refine h B A σ H F Γ _ _ _ I t w fun ds Γ1 vs H1 F1 k S I1 q => ?_
  match ds, q, k with
  | [.list l, .list m], .cons a (.cons b .nil), k =>
    cases a with
    | lst h1 q1 =>
      cases b with
      | lst h2 q2 => exact ⟨_, _, _, _, rfl, .inl ⟨I1.sub.seq h1, I1.sub.seq h2, fin _ none _ _ _ _ 0 k S I1 (wk_zip (fun H S => S.seq h1) q1 (fun H S => S.seq h2) q2) True.intro⟩⟩
  | [.tuple l, .tuple m], .cons a (.cons b .nil), k =>
    cases a with
    | tup h1 q1 =>
      cases b with
      | tup h2 q2 => exact ⟨_, _, _, _, rfl, .inr ⟨sqT_same I1.sub h1, sqT_same I1.sub h2, fin _ none _ _ _ _ 0 k S I1 (wk_zipT (fun H S => sqT_same S h1) q1 (fun H S => sqT_same S h2) q2) True.intro⟩⟩
/-! ### for, while -/
def forD (g : TGd) (body : TDS) (DD : EndsD) : List D → Env' → Prop
  | [], Γ => DD.nx Γ
  | d :: ds, Γ => g d Γ fun Γ1 => body { nx := fun Γ2 => forD g body DD ds Γ2, rt := DD.rt, ct := fun Γ2 => forD g body DD ds Γ2, bk := DD.nx, er := DD.er } Γ1
def dFor (it : TId) (g : TGd) (body : TDS) : TDS := fun DD Γ => it Γ (fun ds lv Γ1 => lv = none ∧ forD g body DD ds Γ1) DD.er
theorem pd_for {body : List Stmt} {it : TId} {g : TGd} {sl : List Nat} {b : TDS} (hp : PassesOwn (model X.prog X.w) X.A X.env X.xe) (hc : X.calm = true) (hi : PIt fam X E tg iter it) (hg : PGt fam X tg sl g) (hb : PDss fam X E body b) (hs : ∀ x, foldedSetIterable iter X.env x = pure x := by intro _; rfl) : PDs fam X E (.For tg iter body [] pos) (dFor it g b) := by
  obtain ⟨wi, pi, hi⟩ := hi
  obtain ⟨gg, pg, hg⟩ := hg
  obtain ⟨tb, pb, hb⟩ := hb
  refine ⟨_, ps_for hp hc pi pg pb hs, fun B A σ H F Γ DD D I t w o => ?_⟩
  refine hi B A σ H F Γ _ _ _ I t w fun ds lv Γ1 H1 F1 J p k S I1 wk _ => ?_
  obtain ⟨rfl, k⟩ := k
  refine ⟨fun i m σ H => m = ds.length - i ∧ i ≤ ds.length ∧ ∃ F2 Γ2, IV fam X.K B A σ H F2 Γ2 ∧ Same F1 F2 ∧ forD g b DD (ds.drop i) Γ2, ⟨_, rfl, Nat.zero_le _, F1, Γ1, I1, Same.refl _, k⟩, ?_⟩
  rintro i m σ2 H2 ⟨rfl, hi2, F2, Γ2, I2, S2, k2⟩
  by_cases hlt : i < ds.length
  · refine .inr ⟨wk.go _ _ _ _ _ _ _ hlt I2 S2 True.intro, fun σ H => ∃ F3 Γ3, IV fam X.K B A σ H F3 Γ3 ∧ Same F1 F3 ∧ forD g b DD (ds.drop (i + 1)) Γ3, fun σ' H' ⟨F3, Γ3, I3, S3, k3⟩ => ⟨ds.length - (i + 1), by omega, rfl, hlt, F3, Γ3, I3, S3, k3⟩, fun x H' y => ?_⟩
    obtain ⟨F3, d, S3, I3, ed, dq, _, _⟩ := wk.yld _ _ _ _ _ _ _ _ _ hlt I2 S2 True.intro y
    have e1 : ds.drop i = d :: ds.drop (i + 1) := by
      rw [List.drop_eq_getElem_cons hlt]
      congr 1
      have := List.getElem?_eq_some_iff.mp ed
      exact this.2
    rw [e1] at k2
    refine hg B A σ2 H' F3 Γ2 x d _ _ I3 dq k2 fun Γ4 σ4 k4 I4 _ => ?_
    have S13 : Same F1 F3 := S2.trans S3
    refine hb B A σ4 H' F3 Γ4 _ _ I4 k4 w ⟨fun Γ5 σ5 H5 F5 k5 S5 I5 => ⟨F5, Γ5, I5, S13.trans S5, k5⟩, fun s Γ5 v σ5 H5 F5 k5 S5 I5 r => o.rt _ _ _ _ _ _ k5 ((S.trans S13).trans S5) I5 r, fun Γ5 σ5 H5 F5 k5 S5 I5 => o.nx _ _ _ _ k5 ((S.trans S13).trans S5) I5, fun Γ5 σ5 H5 F5 k5 S5 I5 => ⟨F5, Γ5, I5, S13.trans S5, k5⟩⟩
  · have e1 : i = ds.length := by omega
    subst e1
    rw [List.drop_length] at k2
    exact .inl ⟨wk.stop _ _ _ _ _ _ I2 S2 True.intro, o.nx _ _ _ _ k2 (S.trans S2) I2⟩
def dWhile (c : TTt) (body : TDS) : TDS := fun DD Γ => ∃ W : Nat → Env' → Prop, (∃ m, W m Γ) ∧ ∀ m Γ, W m Γ → c Γ (fun b Γ1 => bw b
  (body { nx := fun Γ2 => ∃ m', m' < m ∧ W m' Γ2, rt := DD.rt, ct := fun Γ2 => ∃ m', m' < m ∧ W m' Γ2, bk := DD.nx, er := DD.er } Γ1) (DD.nx Γ1)) DD.er
theorem pd_while {c : Expr} {body : List Stmt} {tc : TTt} {b : TDS} (hp : PassesOwn (model X.prog X.w) X.A X.env X.xe) (hc : PTt fam X E c tc) (hb : PDss fam X E body b) : PDs fam X E (.While c body [] pos) (dWhile tc b) := by
  obtain ⟨ce, pc, hc⟩ := hc
  obtain ⟨tb, pb, hb⟩ := hb
  refine ⟨_, ps_while hp pc pb, fun B A σ H F Γ DD D I t w o => ?_⟩
  obtain ⟨W, ⟨m0, w0⟩, turn⟩ := t
  refine ⟨fun m σ H => ∃ F2 Γ2, IV fam X.K B A σ H F2 Γ2 ∧ Same F F2 ∧ W m Γ2, ⟨m0, F, Γ, I, Same.refl _, w0⟩, ?_⟩
  rintro m σ2 H2 ⟨F2, Γ2, I2, S2, w2⟩
  refine hc B A σ2 H2 F2 Γ2 _ _ _ I2 (turn m Γ2 w2) w fun k Γ3 H3 F3 k3 S3 I3 => ?_
  have S23 := S2.trans S3
  cases k with
  | true =>
    refine iteT ⟨fun σ H => ∃ m', m' < m ∧ ∃ F4 Γ4, IV fam X.K B A σ H F4 Γ4 ∧ Same F F4 ∧ W m' Γ4, fun σ' H' ⟨m', l, r⟩ => ⟨m', l, r⟩, ?_⟩
    exact hb B A σ2 H3 F3 Γ3 _ _ I3 k3 w ⟨fun Γ5 σ5 H5 F5 ⟨m', l, k5⟩ S5 I5 => ⟨m', l, F5, Γ5, I5, S23.trans S5, k5⟩, fun s Γ5 v σ5 H5 F5 k5 S5 I5 r => o.rt _ _ _ _ _ _ k5 (S23.trans S5) I5 r, fun Γ5 σ5 H5 F5 k5 S5 I5 => o.nx _ _ _ _ k5 (S23.trans S5) I5, fun Γ5 σ5 H5 F5 ⟨m', l, k5⟩ S5 I5 => ⟨m', l, F5, Γ5, I5, S23.trans S5, k5⟩⟩
  | false => exact iteF (o.nx _ _ _ _ k3 S23 I3)
end
end L2.Dl

set_option Elab.async false
set_option linter.all false
set_option maxRecDepth 100000
set_option maxHeartbeats 4000000
/-! the data layer: comprehensions -/
namespace L2.Dl
open PySem PySem.Spec PyProof.Rows L2.Sl RZ
/-! a reading by data alone -/
def teOf (fam : Fam) (K : PySem.W.Frag) (mg : Str → Option Value) (E : XK) (t : TD) : TE := fun σ H Q => ∃ (B : Bs) (A : List Addr) (F : Hp) (Γ : Env') (Kd : KD) (Ke : KE), IV fam K B A σ H F Γ ∧ t Γ Kd Ke ∧ XW K mg B Ke E ∧
  ∀ s Γ' v H' F', Kd s Γ' → Same F F' → IV fam K B A σ H' F' Γ' → RR fam K B A σ Γ' H' F' v s → Q v H'
theorem PD.pe {fam : Fam} {X : Cx} {E : XK} {e : Expr} {t : TD} (h : PD fam X E e t) : PE X e (teOf fam X.K X.mg E t) := by
  obtain ⟨te, p, run⟩ := h
  exact pe_by p fun σ H Q ⟨B, A, F, Γ, Kd, Ke, I, g, w, fin⟩ => run B A σ H F Γ Kd Ke Q I g w fin
def ttOf (fam : Fam) (K : PySem.W.Frag) (mg : Str → Option Value) (E : XK) (t : TTt) : TT := fun σ H Q => ∃ (B : Bs) (A : List Addr) (F : Hp) (Γ : Env') (Kt : Bool → Env' → Prop) (Ke : KE), IV fam K B A σ H F Γ ∧ t Γ Kt Ke ∧ XW K mg B Ke E ∧
  ∀ b Γ' H' F', Kt b Γ' → Same F F' → IV fam K B A σ H' F' Γ' → Q b H'
def PTsD (fam : Fam) (X : Cx) (E : XK) (ifs : List Expr) (t : TTt) : Prop := PTs X ifs (ttOf fam X.K X.mg E t)
theorem pts_by {X : Cx} {ifs : List Expr} {t t2 : TT} (h : PTs X ifs t) (i : ∀ σ H Q, t2 σ H Q → t σ H Q) : PTs X ifs t2 := ⟨fun pins s σ H Q I z => h.run pins s σ H Q I (i σ H Q z)⟩
def dYes : TTt := fun Γ Kt _ => Kt true Γ
theorem ptd_nil {fam : Fam} {X : Cx} {E : XK} : PTsD fam X E [] dYes := pts_by pts_nil fun σ H Q ⟨B, A, F, Γ, Kt, Ke, I, g, w, fin⟩ => fin _ _ _ _ g (Same.refl _) I
theorem ptd_one {fam : Fam} {X : Cx} {E : XK} {c : Expr} {t : TTt} (h : PTt fam X E c t) : PTsD fam X E [c] t := by
  obtain ⟨te, p, run⟩ := h
  exact pts_by (pts_one p) fun σ H Q ⟨B, A, F, Γ, Kt, Ke, I, g, w, fin⟩ => run B A σ H F Γ Kt Ke Q I g w fin
def gOf (fam : Fam) (K : PySem.W.Frag) (sl : List Nat) (t : TGd) : TG := fun v σ H Q => ∃ (B : Bs) (A : List Addr) (F : Hp) (Γ : Env') (d : D) (Kg : Env' → Prop), IV fam K B A σ H F Γ ∧ Dq K F v d ∧ t d Γ Kg ∧
  ∀ Γ' σ', Kg Γ' → IV fam K B A σ' H F Γ' → (∀ vs, (∀ i ∈ sl, i ∈ vs) → wipe σ' vs = wipe σ vs) → Q σ' H
theorem PGt.pg {fam : Fam} {X : Cx} {tg : Expr} {sl : List Nat} {t : TGd} (h : PGt fam X tg sl t) : PG X tg (gOf fam X.K sl t) := by
  obtain ⟨g, p, run⟩ := h
  exact ⟨fun pins s σ H v u Q I r ⟨B, A, F, Γ, d, Kg, I2, q, k, fin⟩ => p.run pins s σ H v u Q I r (run B A σ H F Γ v d Kg Q I2 q k fin)⟩
/-! the slots of a block -/
def wipeE (Γ : Env') : List Nat → Env'
  | [] => Γ
  | v :: vs => (wipeE Γ vs).set v none
/-- the slots vs as they were in Γ -/
def backE (Γ Γ' : Env') : List Nat → Env'
  | [] => Γ'
  | v :: vs => (backE Γ Γ' vs).set v (Γ[v]?.getD none)
/-- they hold fixed data, or nothing -/
def plainE (Γ : Env') (vs : List Nat) : Bool := vs.all fun v => match Γ[v]? with
  | some (some (.imm _)) => true
  | some none => true
  | none => true
  | _ => false
theorem wipe_ix : ∀ (vs : List Nat) (σ : St) (j : Nat), (wipe σ vs)[j]? = if j ∈ vs ∧ j < σ.length then some none else σ[j]? := by
  intro vs
  induction vs with
  | nil =>
    intro σ j
    simp [wipe]
  | cons v r ih =>
    intro σ j
    unfold wipe
    rw [List.getElem?_set, wipe_length, ih]
    by_cases h1 : v = j
    · subst h1
      by_cases h2 : v < σ.length
      · simp [h2]
      · simp [h2]
    · simp [h1, Ne.symm h1]
theorem wipeE_len (Γ : Env') : ∀ vs, (wipeE Γ vs).length = Γ.length
  | [] => rfl
  | v :: vs => by
    unfold wipeE
    rw [List.length_set, wipeE_len Γ vs]
theorem backE_len (Γ Γ' : Env') : ∀ vs, (backE Γ Γ' vs).length = Γ'.length
  | [] => rfl
  | v :: vs => by
    unfold backE
    rw [List.length_set, backE_len Γ Γ' vs]
theorem backE_ix (Γ Γ' : Env') : ∀ (vs : List Nat) (j : Nat), (backE Γ Γ' vs)[j]? = if j ∈ vs ∧ j < Γ'.length then some (Γ[j]?.getD none) else Γ'[j]? := by
  intro vs
  induction vs with
  | nil =>
    intro j
    simp [backE]
  | cons v r ih =>
    intro j
    unfold backE
    rw [List.getElem?_set, backE_len, ih]
    by_cases h1 : v = j
    · subst h1
      by_cases h2 : v < Γ'.length
      · simp [h2]
      · simp [h2]
    · simp [h1, Ne.symm h1]
theorem wipe_wipe (σ : St) (vs : List Nat) : wipe (wipe σ vs) vs = wipe σ vs := by
  apply List.ext_getElem?
  intro j
  rw [wipe_ix, wipe_length, wipe_ix]
  by_cases h : j ∈ vs ∧ j < σ.length
  · simp [h]
  · simp [h]
theorem wipe_same {σ σ2 : St} {vs : List Nat} (h : wipe σ2 vs = wipe σ vs) {j : Nat} (n : j ∉ vs) : σ2[j]? = σ[j]? := by
  have e : (wipe σ2 vs)[j]? = (wipe σ vs)[j]? := by rw [h]
  rw [wipe_ix, wipe_ix] at e
  simpa [n] using e
section
variable {fam : Fam} {K : PySem.W.Frag} {B : Bs} {A : List Addr} {σ : St} {H F : Hp} {Γ : Env'}
theorem IV.wipe (I : IV fam K B A σ H F Γ) : ∀ vs : List Nat, IV fam K B A (L2.wipe σ vs) H F (wipeE Γ vs)
  | [] => I
  | v :: vs => by
    have J := (I.wipe vs).drop v
    refine ⟨J.sub, J.keep, J.new, J.old, ?_, fun j s es => ?_, fun j l jl oj ol => ?_, J.mA, J.tA, J.one, J.inv, J.ft, J.h0⟩
    · rw [wipe_length, wipeE_len]
      exact I.len
    · have es2 : ((wipeE Γ vs).set v none)[j]? = some (some s) := es
      obtain ⟨u, eu, r⟩ := J.var j s es2
      refine ⟨u, ?_, r⟩
      unfold L2.wipe
      rcases set_at es2 with ⟨_, z⟩ | ⟨c, _⟩
      · cases z
      · rw [List.getElem?_set_ne (Ne.symm c)]
        exact eu
    · have nv : ∀ {j}, ownAt (wipeE Γ (v :: vs)) j → j ≠ v := fun {j} oj => by
        rcases own_set (show ownAt ((wipeE Γ vs).set v none) j from oj) with ⟨_, _, z, zo⟩ | ⟨c, _⟩
        · cases z <;> cases zo
        · exact c
      unfold L2.wipe
      rw [List.getElem?_set_ne (Ne.symm (nv oj)), List.getElem?_set_ne (Ne.symm (nv ol))]
      exact J.dis j l jl oj ol
theorem plain_at {Γ : Env'} {vs : List Nat} (p : plainE Γ vs = true) {j : Nat} (h : j ∈ vs) {s : Slot} (e : Γ[j]? = some (some s)) : ∃ d, s = .imm d := by
  have q := List.all_eq_true.mp p j h
  rw [e] at q
  cases s with
  | imm d => exact ⟨d, rfl⟩
  | own d => cases q
  | lent d => cases q
  | drw n => cases q
  | nds ks => cases q
theorem IV.back {σ2 : St} {H2 F2 : Hp} {Γ2 : Env'} {vs : List Nat} (I : IV fam K B A σ H F Γ) (pl : plainE Γ vs = true) (J : IV fam K B A σ2 H2 F2 Γ2) (S : Same F F2) (hw : L2.wipe σ2 vs = L2.wipe σ vs) : IV fam K B A σ H2 F2 (backE Γ Γ2 vs) := by
  have at_ : ∀ {j s}, (backE Γ Γ2 vs)[j]? = some (some s) → (j ∈ vs ∧ Γ[j]? = some (some s)) ∨ (j ∉ vs ∧ Γ2[j]? = some (some s)) := fun {j s} e => by
    rw [backE_ix] at e
    by_cases h : j ∈ vs
    · by_cases l : j < Γ2.length
      · rw [if_pos ⟨h, l⟩] at e
        left
        refine ⟨h, ?_⟩
        cases q : Γ[j]? with
        | none =>
          rw [q] at e
          cases e
        | some x =>
          rw [q] at e
          exact e
      · rw [if_neg (fun z => l z.2)] at e
        exact absurd (List.getElem?_eq_some_iff.mp e).1 l
    · rw [if_neg (fun z => h z.1)] at e
      exact .inr ⟨h, e⟩
  have own_ : ∀ {j}, ownAt (backE Γ Γ2 vs) j → j ∉ vs ∧ ownAt Γ2 j := fun {j} oj => by
    obtain ⟨s', q, o⟩ := oj
    rcases at_ q with ⟨h, z⟩ | ⟨h, z⟩
    · obtain ⟨d, rfl⟩ := plain_at pl h z
      cases o
    · exact ⟨h, s', z, o⟩
  refine ⟨J.sub, J.keep, J.new, J.old, ?_, fun j s es => ?_, fun j l jl oj ol => ?_, J.mA, J.tA, fun i j n m ei ej => ?_, J.inv, J.ft, J.h0⟩
  · rw [backE_len, ← J.len, ← wipe_length σ vs, ← hw, wipe_length]
  · rcases at_ es with ⟨h, z⟩ | ⟨h, z⟩
    · obtain ⟨d, rfl⟩ := plain_at pl h z
      obtain ⟨v, ev, r⟩ := I.var j _ z
      exact ⟨v, ev, Dq.up (show Dq K F v d from r) S⟩
    · obtain ⟨v, ev, r⟩ := J.var j s z
      exact ⟨v, by rw [← wipe_same hw h]; exact ev, r⟩
  · obtain ⟨n1, o1⟩ := own_ oj
    obtain ⟨n2, o2⟩ := own_ ol
    rw [← wipe_same hw n1, ← wipe_same hw n2]
    exact J.dis j l jl o1 o2
  · rcases at_ ei with ⟨h, z⟩ | ⟨h, z⟩
    · obtain ⟨_, y⟩ := plain_at pl h z
      cases y
    · rcases at_ ej with ⟨h2, z2⟩ | ⟨h2, z2⟩
      · obtain ⟨_, y⟩ := plain_at pl h2 z2
        cases y
      · exact J.one i j n m z z2
/-- an object that nobody owns is changed -/
theorem IV.poke {p : Addr} {o : HO} (I : IV fam K B A σ H F Γ) (f0 : F p = none) (h0 : B.H0 p = none) (na : p ∉ A) (no : ∀ i, ownAt Γ i → σ[i]? ≠ some (some (.ref p))) (nc : ∀ o, H p = some o → ¬ CodeLike o) : IV fam K B A σ (upd H p o) F Γ := by
  refine ⟨fun a x e => ?_, fun a x e m => ?_, I.new, I.old, I.len, fun i s e => ?_, I.dis, I.mA, fun a m => ?_, I.one, fam.inl I.inv (fun a m => upd_ne fun z => na (by rw [← z]; exact m)) (fun a x c e => by rw [upd_ne (fun z => nc x (by rw [← z]; exact e) c)]; exact e), I.ft, I.h0⟩
  · rw [upd_ne (fun z => by rw [z, f0] at e; cases e)]
    exact I.sub a x e
  · rw [upd_ne (fun z => by rw [z, h0] at e; cases e)]
    exact I.keep a x e m
  · obtain ⟨v, ev, r⟩ := I.var i s e
    refine ⟨v, ev, ?_⟩
    have ne : ∀ q, v = .ref q → ownAt Γ i → q ≠ p := fun q eq oi z => no i oi (by rw [ev, eq, z])
    cases s with
    | imm d => exact r
    | own d =>
      obtain ⟨q, eq, b1, b2, b3, oc⟩ := r
      exact ⟨q, eq, b1, b2, b3, oc.step (Same.refl _) fun o2 e2 => by rw [upd_ne (ne q eq ⟨_, e, rfl⟩)]; exact e2⟩
    | lent d =>
      obtain ⟨q, eq, b1, b2, b3, oc⟩ := r
      exact ⟨q, eq, b1, b2, b3, oc.step (Same.refl _) fun o2 e2 => by rw [upd_ne (ne q eq ⟨_, e, rfl⟩)]; exact e2⟩
    | drw n => exact fam.loc r fun a m => upd_ne (fun z => na (by rw [← z]; exact m))
    | nds ks =>
      obtain ⟨q, eq, b1, b2, b3, nd⟩ := r
      exact ⟨q, eq, b1, b2, b3, nd.step (Same.refl _) fun o2 e2 => by rw [upd_ne (ne q eq ⟨_, e, rfl⟩)]; exact e2⟩
  · obtain ⟨a1, a2, a3⟩ := I.tA a m
    refine ⟨?_, a2, a3⟩
    rw [upd_ne (fun z => na (by rw [← z]; exact m))]
    exact a1
/-- an object more is guarded -/
def Bs.with (B : Bs) (p : Addr) (o : HO) : Bs := ⟨upd B.H0 p o, B.F0, B.M⟩
theorem IV.guard {p : Addr} {o : HO} (nt : ∀ ps, o ≠ .tbl ps) (I : IV fam K B A σ H F Γ) (e : H p = some o) (f0 : F p = none) (na : p ∉ A) (no : ∀ i, ownAt Γ i → σ[i]? ≠ some (some (.ref p))) : IV fam K (B.with p o) A σ H F Γ := by
  refine ⟨I.sub, fun a x h m => ?_, fun a x h => ?_, I.old, I.len, fun i s es => ?_, I.dis, I.mA, fun a m => ?_, I.one, I.inv, I.ft, fun hl a ps z => ?_⟩
  · by_cases c : a = p
    · subst c
      have h : upd B.H0 a o a = some x := h
      rw [upd_same] at h
      cases h
      exact e
    · have h : upd B.H0 p o a = some x := h
      rw [upd_ne c] at h
      exact I.keep a x h m
  · by_cases c : a = p
    · rw [c, f0] at h
      cases h
    · rcases I.new a x h with z | z
      · exact .inl z
      · exact .inr (by show upd B.H0 p o a = none; rw [upd_ne c]; exact z)
  · obtain ⟨v, ev, r⟩ := I.var i s es
    refine ⟨v, ev, ?_⟩
    have ne : ∀ q, v = .ref q → ownAt Γ i → q ≠ p := fun q eq oi z => no i oi (by rw [ev, eq, z])
    cases s with
    | imm d => exact r
    | own d =>
      obtain ⟨q, eq, b1, b2, b3, oc⟩ := r
      exact ⟨q, eq, by show upd B.H0 p o q = none; rw [upd_ne (ne q eq ⟨_, es, rfl⟩)]; exact b1, b2, b3, oc⟩
    | lent d =>
      obtain ⟨q, eq, b1, b2, b3, oc⟩ := r
      exact ⟨q, eq, by show upd B.H0 p o q = none; rw [upd_ne (ne q eq ⟨_, es, rfl⟩)]; exact b1, b2, b3, oc⟩
    | drw n => exact r
    | nds ks =>
      obtain ⟨q, eq, b1, b2, b3, nd⟩ := r
      exact ⟨q, eq, by show upd B.H0 p o q = none; rw [upd_ne (ne q eq ⟨_, es, rfl⟩)]; exact b1, b2, b3, nd⟩
  · obtain ⟨a1, a2, a3⟩ := I.tA a m
    refine ⟨a1, a2, a3.imp (fun z => ?_) fun z => z⟩
    show upd B.H0 p o a = none
    rw [upd_ne (fun y => na (by rw [← y]; exact m))]
    exact z
  · have z : upd B.H0 p o a = some (.tbl ps) := z
    by_cases c : a = p
    · subst c
      rw [upd_same] at z
      exact nt ps (Option.some.inj z)
    · rw [upd_ne c] at z
      exact I.h0 hl a ps z
theorem IV.unguard {p : Addr} {o : HO} (h0 : B.H0 p = none) (I : IV fam K (B.with p o) A σ H F Γ) : IV fam K B A σ H F Γ := by
  have ne : ∀ {a}, upd B.H0 p o a = none → a ≠ p := fun {a} h c => by
    rw [c, upd_same] at h
    cases h
  have low : ∀ {a}, upd B.H0 p o a = none → B.H0 a = none := fun {a} h => by
    have c := ne h
    rwa [upd_ne c] at h
  refine ⟨I.sub, fun a x h m => I.keep a x (by show upd B.H0 p o a = some x; rw [upd_ne (fun c => by rw [c, h0] at h; cases h)]; exact h) m, fun a x h => (I.new a x h).imp (fun z => z) low, I.old, I.len, fun i s es => ?_, I.dis, I.mA, fun a m => ?_, I.one, I.inv, I.ft, fun hl a ps z => I.h0 hl a ps (show upd B.H0 p o a = _ by rw [upd_ne (fun c => by rw [c, h0] at z; cases z)]; exact z)⟩
  · obtain ⟨v, ev, r⟩ := I.var i s es
    refine ⟨v, ev, ?_⟩
    cases s with
    | imm d => exact r
    | own d =>
      obtain ⟨q, eq, b1, r⟩ := r
      exact ⟨q, eq, low b1, r⟩
    | lent d =>
      obtain ⟨q, eq, b1, r⟩ := r
      exact ⟨q, eq, low b1, r⟩
    | drw n => exact r
    | nds ks =>
      obtain ⟨q, eq, b1, r⟩ := r
      exact ⟨q, eq, low b1, r⟩
  · obtain ⟨a1, a2, a3⟩ := I.tA a m
    exact ⟨a1, a2, a3.imp low fun z => z⟩
theorem IV.guardOwn {p : Addr} {o : HO} (I : IV fam K (B.with p o) A σ H F Γ) : ∀ i, ownAt Γ i → σ[i]? ≠ some (some (.ref p)) := fun i oi z => by
  obtain ⟨q, x, e, h, _⟩ := ownAt.ref I oi
  rw [e] at z
  cases z
  have h : upd B.H0 p o p = none := h
  rw [upd_same] at h
  cases h
theorem IV.guardF {p : Addr} {o : HO} (I : IV fam K (B.with p o) A σ H F Γ) (f0 : B.F0 p = none) : F p = none := by
  cases e : F p with
  | none => rfl
  | some x =>
    rcases I.new p x e with z | z
    · have z : B.F0 p = some x := z
      rw [f0] at z
      cases z
    · have z : upd B.H0 p o p = none := z
      rw [upd_same] at z
      cases z
end
/-! [e for x in xs if t] -/
def nE : KE := fun _ _ => False
def lentC (lv : Option (Nat × List D)) (Γ : Env') : Prop := match lv with
  | none => True
  | some (i, all) => Γ[i]? = some (some (.lent (.list all)))
def unlend (lv : Option (Nat × List D)) (Γ : Env') : Env' := match lv with
  | none => Γ
  | some (i, all) => Γ.set i (some (.own (.list all)))
def compD (lv : Option (Nat × List D)) (vs : List Nat) (g : TGd) (tt : TTt) (te : TD) : List D → List D → Env' → (List D → Env' → Prop) → Prop
  | [], acc, Γ, k => lentC lv Γ ∧ k acc (unlend lv Γ)
  | d :: ds, acc, Γ, k => lentC lv Γ ∧ plainE Γ vs = true ∧ g d (wipeE Γ vs) fun Γ1 => tt Γ1 (fun b Γ2 => bw b (te Γ2 (fun s Γ3 => match s.d? with
    | some y => acc.length < sizeLine ∧ compD lv vs g tt te ds (acc ++ [y]) (backE Γ Γ3 vs) k
    | none => False) nE) (compD lv vs g tt te ds acc (backE Γ Γ2 vs) k)) nE
def dComp (it : TId) (vs : List Nat) (g : TGd) (tt : TTt) (te : TD) : TD := fun Γ Kd Ke => it Γ (fun ds lv Γ1 => compD lv vs g tt te ds [] Γ1 fun acc Γ2 => Kd (.own (.list acc)) Γ2) Ke
section
variable {fam : Fam} {X : Cx} {E : XK} {elt tg iter : Expr} {ifs : List Expr} {pos : Pos}
theorem xw_nE {K : PySem.W.Frag} {mg : Str → Option Value} {B : Bs} : XW K mg B nE E0 := fun c fs C dd H' F' zs k => k.elim
theorem comp_run {wi : TI} {it : TId} {sl vs : List Nat} {g : TGd} {tt : TTt} {te : TD} (hsl : ∀ i ∈ sl, i ∈ vs)
    (hi : ∀ (B : Bs) (A : List Addr) (σ : St) (H F : Hp) (Γ : Env') (Ki : List D → Option (Nat × List D) → Env' → Prop) (Ke : KE) (R : It → Hp → Prop), IV fam X.K B A σ H F Γ → it Γ Ki Ke → XW X.K X.mg B Ke E →
      (∀ ds lv Γ' H' F' J p, Ki ds lv Γ' → Same F F' → IV fam X.K B A σ H' F' Γ' → WkD fam X.K J ds ((lv.map (·.2)).getD []) (lv.map fun x => (x.1, p)) F' → lentOk (lv.map fun x => (x.1, p)) ((lv.map (·.2)).getD []) σ Γ' → R J H') → wi σ H R) :
    ∀ (B : Bs) (A : List Addr) (σ : St) (H F : Hp) (Γ : Env') (Kd : KD) (Ke : KE) (Q : VK), IV fam X.K B A σ H F Γ → dComp it vs g tt te Γ Kd Ke → XW X.K X.mg B Ke E →
    (∀ s Γ' v H' F', Kd s Γ' → Same F F' → IV fam X.K B A σ H' F' Γ' → RR fam X.K B A σ Γ' H' F' v s → Q v H') → tLc wi (gOf fam X.K sl g) (ttOf fam X.K X.mg E0 tt) (teOf fam X.K X.mg E0 te) vs σ H Q := by
  intro B A σ H F Γ Kd Ke Q I t w fin
  refine hi B A σ H F Γ _ _ _ I t w fun ds lv Γ1 H1 F1 J p k S1 I1 wk lo => ?_
  intro D nD
  have h0 := I1.none0 nD
  have na := I1.noneA nD
  have sig : ∀ Γ', lentC lv Γ' → lentOk (lv.map fun x => (x.1, p)) ((lv.map (·.2)).getD []) σ Γ' := fun Γ' c => by
    cases lv with
    | none => exact True.intro
    | some x => exact ⟨c, lo.2⟩
  refine ⟨fun i m H2 => m = ds.length - i ∧ i ≤ ds.length ∧ ∃ F2 Γ2 acc accV, IV fam X.K B A σ H2 F2 Γ2 ∧ Same F1 F2 ∧ H2 D = some (.lst accV) ∧ F2 D = none ∧ Dqs X.K F2 accV acc ∧ (∀ i, ownAt Γ2 i → σ[i]? ≠ some (some (.ref D))) ∧ compD lv vs g tt te (ds.drop i) acc Γ2 fun acc Γ2 => Kd (.own (.list acc)) Γ2,
    ⟨_, rfl, Nat.zero_le _, F1, Γ1, [], [], I1.fresh nD, Same.refl _, upd_same, I1.noneF nD, .nil, I1.freshOwn nD, k⟩, ?_⟩
  rintro i m H2 ⟨rfl, hi2, F2, Γ2, acc, accV, I2, S2, eD, fD, q, no, k2⟩
  by_cases hlt : i < ds.length
  · have hd : ds.drop i = ds[i] :: ds.drop (i + 1) := List.drop_eq_getElem_cons hlt
    rw [hd] at k2
    obtain ⟨lc, pl, k2⟩ := k2
    refine .inr ⟨wk.go _ _ _ _ _ _ _ hlt I2 S2 (sig _ lc), fun H3 => ∃ F3 Γ3 acc accV, IV fam X.K B A σ H3 F3 Γ3 ∧ Same F1 F3 ∧ H3 D = some (.lst accV) ∧ F3 D = none ∧ Dqs X.K F3 accV acc ∧ (∀ i, ownAt Γ3 i → σ[i]? ≠ some (some (.ref D))) ∧ compD lv vs g tt te (ds.drop (i + 1)) acc Γ3 fun acc Γ2 => Kd (.own (.list acc)) Γ2,
      fun H' r => ⟨ds.length - (i + 1), by omega, rfl, hlt, r⟩, fun x H3 y => ?_⟩
    obtain ⟨F3, d, S3, I3, ed, dq, SH, nw⟩ := wk.yld _ _ _ _ _ _ _ _ _ hlt I2 S2 (sig _ lc) y
    have e1 : ds[i] = d := (List.getElem?_eq_some_iff.mp ed).2
    rw [e1] at k2
    have eD3 := SH _ _ eD
    have fD3 : F3 D = none := by
      cases z : F3 D with
      | none => rfl
      | some o =>
        rcases nw D o z with z | z
        · rw [fD] at z
          cases z
        · rw [eD] at z
          cases z
    have G := I3.guard (by intro _ z; cases z) eD3 fD3 na no
    have f00 : B.F0 D = none := by
      cases z : B.F0 D with
      | none => rfl
      | some o =>
        rw [I3.old _ _ z] at fD3
        cases fD3
    refine ⟨B.with D (.lst accV), A, F3, _, d, _, G.wipe vs, dq, k2, fun Γ4 σ4 k4 I4 w4 => ⟨(w4 vs hsl).trans (wipe_wipe σ vs), ?_⟩⟩
    have hw : L2.wipe σ4 vs = L2.wipe σ vs := (w4 vs hsl).trans (wipe_wipe σ vs)
    have notM : D ∉ B.M := fun z => na (I2.mA _ z)
    -- behind an evaluation in the block
    have fine : ∀ {H5 F5 Γ5}, IV fam X.K (B.with D (.lst accV)) A σ4 H5 F5 Γ5 → Same F3 F5 → IV fam X.K B A σ H5 F5 (backE Γ2 Γ5 vs) ∧ H5 D = some (.lst accV) ∧ F5 D = none ∧ (∀ i, ownAt (backE Γ2 Γ5 vs) i → σ[i]? ≠ some (some (.ref D))) := fun {H5 F5 Γ5} I5 S5 => by
      have Jb : IV fam X.K (B.with D (.lst accV)) A σ H5 F5 (backE Γ2 Γ5 vs) := G.back pl I5 S5 hw
      exact ⟨Jb.unguard h0, I5.keep D _ (by show upd B.H0 D _ D = _; exact upd_same) notM, I5.guardF f00, Jb.guardOwn⟩
    refine ⟨B.with D (.lst accV), A, F3, Γ4, _, _, I4, k4, xw_nE, fun b Γ5 H5 F5 k5 S5 I5 => ?_⟩
    cases b with
    | false =>
      refine iteF ?_
      obtain ⟨z1, z2, z3, z4⟩ := fine I5 S5
      exact ⟨F5, _, acc, accV, z1, (S2.trans S3).trans S5, z2, z3, q.up (S3.trans S5), z4, k5⟩
    | true =>
      refine iteT ⟨B.with D (.lst accV), A, F5, Γ5, _, _, I5, k5, xw_nE, fun s Γ6 yv H6 F6 k6 S6 I6 r => ?_⟩
      match es : s.d?, k6 with
      | some yd, k6 =>
        obtain ⟨F7, S7, I7, dq7⟩ := r.give I6 es
        have S37 := (S5.trans S6).trans S7
        obtain ⟨z1, z2, z3, z4⟩ := fine I7 S37
        exact ⟨accV, z2, by rw [q.len]; exact k6.1, F7, _, acc ++ [yd], accV ++ [yv], z1.poke z3 h0 na z4 (fun o eo => by rw [z2] at eo; cases eo; exact fun ⟨c, q, z⟩ => by unfold LamX.CodeO at z; cases z), (S2.trans S3).trans S37, upd_same, z3, (q.up (S3.trans S37)).app (.cons dq7 .nil), z4, k6.2⟩
  · have e1 : i = ds.length := by omega
    subst e1
    rw [List.drop_length] at k2
    obtain ⟨lc, k2⟩ := k2
    refine .inl ⟨wk.stop _ _ _ _ _ _ I2 S2 (sig _ lc), ?_⟩
    cases lv with
    | none => exact fin _ _ _ _ _ k2 (S1.trans S2) I2 ⟨⟨D, rfl, h0, fD, na, accV, eD, q⟩, no⟩
    | some x =>
      obtain ⟨i, all⟩ := x
      have lc : Γ2[i]? = some (some (.lent (.list all))) := lc
      obtain ⟨v, ev, r⟩ := I2.var i _ lc
      have I3 : IV fam X.K B A σ H2 F2 (Γ2.set i (some (.own (.list all)))) := I2.tell ev r fun z j nj oj => by
        rw [← ev]
        exact I2.dis j i nj oj ⟨_, lc, rfl⟩
      refine fin _ _ _ _ _ k2 (S1.trans S2) I3 ⟨⟨D, rfl, h0, fD, na, accV, eD, q⟩, fun j oj => ?_⟩
      rcases own_set oj with ⟨rfl, _⟩ | ⟨_, oj⟩
      · exact no j ⟨_, lc, rfl⟩
      · exact no j oj
theorem pd_lc {scope : Scope} {own : List (Str × Nat)} {it : TId} {sl : List Nat} {g : TGd} {tt : TTt} {te : TD} (hc : X.calm = true) (hN : X.N.Nodup) (hi : PIt fam X E tg iter it) (ok : BlkOk X.N X.env.scope scope own)
    (hg : ∀ (s : Shared) (H : Hp) (C : Addr) (cl : List (Str × Addr)) (fp : List Addr), PGt fam (X.blk s H scope (compEnvC scope cl C X.env) fp) tg sl g) (ht : ∀ (s : Shared) (H : Hp) (C : Addr) (cl : List (Str × Addr)) (fp : List Addr), PTsD fam (X.blk s H scope (compEnvC scope cl C X.env) fp) E0 ifs tt)
    (he : ∀ (s : Shared) (H : Hp) (C : Addr) (cl : List (Str × Addr)) (fp : List Addr), PD fam (X.blk s H scope (compEnvC scope cl C X.env) fp) E0 elt te) (hsl : ∀ i ∈ sl, i ∈ own.map (·.2) := by decide) (hs : ∀ x, foldedSetIterable iter X.env x = pure x := by intro _; rfl) :
    PD fam X E (.ListComp elt [⟨tg, iter, ifs, 0⟩] scope pos) (dComp it (own.map (·.2)) g tt te) := by
  obtain ⟨wi, pi, hi⟩ := hi
  exact ⟨_, L2.pe_lc (g := gOf fam X.K sl g) (tt := ttOf fam X.K X.mg E0 tt) (te := teOf fam X.K X.mg E0 te) hc hN pi ok (fun s H C cl fp => (hg s H C cl fp).pg) (fun s H C cl fp => ht s H C cl fp) (fun s H C cl fp => (he s H C cl fp).pe) hs, comp_run hsl hi⟩
theorem pd_setLc {i : Nat} {y : Str} {py spos : Pos} {scope : Scope} {own : List (Str × Nat)} {it : TId} {sl : List Nat} {g : TGd} {tt : TTt} {te : TD} (hc : X.calm = true) (hN : X.N.Nodup) (hy : X.N[i]? = some y) (hyl : X.env.scope.names.lookup y = some .local)
    (hsw : swapsWith (.ListComp elt [⟨tg, iter, ifs, 0⟩] scope pos) (some (.Name y py)) spos.line X.env = pure true) (hi : PIt fam X E tg iter it) (ok : BlkOk X.N X.env.scope scope own)
    (hg : ∀ (s : Shared) (H : Hp) (C : Addr) (cl : List (Str × Addr)) (fp : List Addr), PGt fam (X.blk s H scope (compEnvC scope cl C X.env) fp) tg sl g) (ht : ∀ (s : Shared) (H : Hp) (C : Addr) (cl : List (Str × Addr)) (fp : List Addr), PTsD fam (X.blk s H scope (compEnvC scope cl C X.env) fp) E0 ifs tt)
    (he : ∀ (s : Shared) (H : Hp) (C : Addr) (cl : List (Str × Addr)) (fp : List Addr), PD fam (X.blk s H scope (compEnvC scope cl C X.env) fp) E0 elt te) (hsl : ∀ i ∈ sl, i ∈ own.map (·.2) := by decide) (hs : ∀ x, foldedSetIterable iter X.env x = pure x := by intro _; rfl) :
    PDs fam X E (.Assign [.Name y py] (.ListComp elt [⟨tg, iter, ifs, 0⟩] scope pos) spos) (dSet i (dComp it (own.map (·.2)) g tt te)) := by
  obtain ⟨wi, pi, hi⟩ := hi
  refine ⟨_, L2.ps_setLc (g := gOf fam X.K sl g) (tt := ttOf fam X.K X.mg E0 tt) (te := teOf fam X.K X.mg E0 te) hc hN hy hyl hsw pi ok (fun s H C cl fp => (hg s H C cl fp).pg) (fun s H C cl fp => ht s H C cl fp) (fun s H C cl fp => (he s H C cl fp).pe) hs, fun B A σ H F Γ DD D I t w o => ?_⟩
  exact comp_run hsl hi B A σ H F Γ _ _ _ I t w fun s Γ1 v H1 F1 k S I1 r => o.nx _ _ _ _ k S (I1.asg r)
end
end L2.Dl

set_option Elab.async false
set_option linter.all false
set_option maxRecDepth 100000
set_option maxHeartbeats 4000000
/-! the data layer: own lists changed, sorted, types, joins -/
namespace L2.Dl
open PySem PySem.Spec PyProof.Rows L2.Sl RZ
section
variable {fam : Fam} {K : PySem.W.Frag} {B : Bs} {A : List Addr} {σ : St} {H F : Hp} {Γ : Env'}
/-- an own thing is changed -/
theorem IV.ownUpd (I : IV fam K B A σ H F Γ) {i : Nat} {d d' : D} {o : HO} {p : Addr} (e : Γ[i]? = some (some (.own d))) (ev : σ[i]? = some (some (.ref p))) (oc : OC K (upd H p o) F p d') : IV fam K B A σ (upd H p o) F (Γ.set i (some (.own d'))) := by
  obtain ⟨v, ev2, q, rfl, h0, f0, na, oc0⟩ := I.var i _ e
  rw [ev] at ev2
  cases ev2
  obtain ⟨o0, eo0, _, nc0⟩ := oc0.trkN
  have no : ∀ j, ownAt (Γ.set i none) j → σ[j]? ≠ some (some (.ref p)) := fun j oj => by
    rcases own_set oj with ⟨_, _, z, zo⟩ | ⟨nj, oj⟩
    · cases z <;> cases zo
    · rw [← ev]
      exact I.dis j i nj oj ⟨_, e, rfl⟩
  have I2 := ((I.drop i).poke (o := o) f0 h0 na no (fun o2 e2 => by rw [eo0] at e2; cases e2; exact nc0)).tell (s := .own d') ev ⟨p, rfl, h0, f0, na, oc⟩ fun _ j nj oj => no j oj
  rwa [List.set_set] at I2
theorem IV.ownList (I : IV fam K B A σ H F Γ) {i : Nat} {ds : List D} (e : Γ[i]? = some (some (.own (.list ds)))) : ∃ p vs, σ[i]? = some (some (.ref p)) ∧ H p = some (.lst vs) ∧ Dqs K F vs ds := by
  obtain ⟨v, ev, p, rfl, _, _, _, vs, eh, q⟩ := I.var i _ e
  exact ⟨p, vs, ev, eh, q⟩
end
section
variable {fam : Fam} {X : Cx} {E : XK} {e a b : Expr} {pos apos cpos py : Pos} {te : TD} {i : Nat} {y : Str} {xa xb : TB}
/-! x.append(e), x.pop(), x.pop(e), x.remove(e), x[j] = e -/
def dApp (i : Nat) (te : TD) : TD := fun Γ Kd Ke => (∃ ds, Γ[i]? = some (some (.own (.list ds)))) ∧ te Γ (fun s Γ1 => match Γ1[i]?, s.d? with
  | some (some (.own (.list ds))), some d => ds.length < sizeLine ∧ Kd (.imm .none) (Γ1.set i (some (.own (.list (ds ++ [d])))))
  | _, _ => False) Ke
theorem pd_append (hv : PE X (.Name y py) (tVar i)) (he : PD fam X E e te) (hbase : attributeBase (.Name y py) "append" X.env (eval (.Name y py) X.env) = eval (.Name y py) X.env := by rfl)
    (hfew : ((backTo cpos (starEach [e] X.env)).all (fun x => !x.1) && (backToKw cpos (keywordEach [] X.env)).all (fun x => x.1.isSome)
      && decide (([e] : List Expr).length + ([] : List Keyword).length + (if ([] : List Keyword).isEmpty then 0 else 1) < 30)) = true := by rfl)
    (hline : (apos.endLine == cpos.line) = true := by rfl) (hs : starEach [e] X.env = (false, eval e X.env) :: starEach [] X.env := by rfl) (hplain : (backTo cpos (starEach ([] : List Expr) X.env)).any (·.1) = false := by rfl) :
    PD fam X E (.Call (.Attribute (.Name y py) "append" apos) [e] [] cpos) (dApp i te) := by
  obtain ⟨ts, p, he⟩ := he
  refine ⟨_, pe_bm PySem.F.plainAttrs_list PySem.F.slot_list_append PySem.F.type_list_append mt_append hv (pa_cons p pa_nil hs) hbase hfew hline hs hplain, fun B A σ H F Γ Kd Ke Q I t w fin => ?_⟩
  obtain ⟨⟨ds0, e0⟩, t⟩ := t
  obtain ⟨p, vs0, ev, eh0, _⟩ := I.ownList e0
  refine ⟨_, ev, .inl ⟨rfl, vs0, SqL.of eh0⟩, ?_⟩
  refine he B A σ H F Γ _ _ _ I t w fun s Γ1 v H1 F1 k S I1 r => ?_
  match e1 : Γ1[i]?, e2 : s.d?, k with
  | some (some (.own (.list ds))), some d, k =>
    obtain ⟨F2, S2, I2, dq⟩ := r.give I1 e2
    obtain ⟨p2, vs, ev2, eh, q⟩ := I2.ownList e1
    rw [ev] at ev2
    cases ev2
    exact ⟨p, vs, v, rfl, rfl, eh, by rw [q.len]; exact k.1, fin _ _ _ _ _ k.2 (S.trans S2) (I2.ownUpd e1 ev ⟨_, upd_same, q.app (.cons dq .nil)⟩) (show Dq X.K F2 .non .none from .non)⟩
def dPop (i : Nat) : TD := fun Γ Kd _ => match Γ[i]? with
  | some (some (.own (.list ds))) => ∃ d, ds[ds.length - 1]? = some d ∧ Kd (.imm d) (Γ.set i (some (.own (.list ds.dropLast))))
  | _ => False
theorem dqs_dropLast {K : PySem.W.Frag} {H : Hp} {vs : List V} {ds : List D} (q : Dqs K H vs ds) : Dqs K H vs.dropLast ds.dropLast := by
  rw [List.dropLast_eq_take, List.dropLast_eq_take, q.len]
  exact q.take _
theorem pd_pop (hv : PE X (.Name y py) (tVar i)) (hbase : attributeBase (.Name y py) "pop" X.env (eval (.Name y py) X.env) = eval (.Name y py) X.env := by rfl) (hline : (apos.endLine == cpos.line) = true := by rfl) : PD fam X E (.Call (.Attribute (.Name y py) "pop" apos) [] [] cpos) (dPop i) := by
  refine ⟨_, pe_bm0 PySem.F.plainAttrs_list PySem.F.slot_list_pop PySem.F.type_list_pop mt_pop hv hbase hline, fun B A σ H F Γ Kd Ke Q I t w fin => ?_⟩
  have t : (match Γ[i]? with
    | some (some (.own (.list ds))) => ∃ d, ds[ds.length - 1]? = some d ∧ Kd (.imm d) (Γ.set i (some (.own (.list ds.dropLast))))
    | _ => False) := t
  match e1 : Γ[i]?, t with
  | some (some (.own (.list ds))), t =>
    obtain ⟨d, ed, k⟩ := t
    obtain ⟨p, vs, ev, eh, q⟩ := I.ownList e1
    obtain ⟨v, evv, dq⟩ := q.at_ ed
    rw [← q.len] at evv
    exact ⟨_, ev, .inl ⟨rfl, vs, SqL.of eh⟩, p, vs, v, rfl, rfl, eh, evv, fin _ _ _ _ _ k (Same.refl _) (I.ownUpd e1 ev ⟨_, upd_same, dqs_dropLast q⟩) dq⟩
def dPopAt (i : Nat) (te : TD) : TD := fun Γ Kd Ke => (∃ ds, Γ[i]? = some (some (.own (.list ds)))) ∧ te Γ (fun s Γ1 => match Γ1[i]?, s with
  | some (some (.own (.list ds))), .imm (.int n) => (-(2 ^ 63) ≤ n ∧ n < 2 ^ 63) ∧ ∃ j d, ixN ds.length n = some j ∧ ds[j]? = some d ∧ Kd (.imm d) (Γ1.set i (some (.own (.list (ds.eraseIdx j)))))
  | _, _ => False) Ke
theorem dqs_erase {K : PySem.W.Frag} {H : Hp} : ∀ {vs : List V} {ds : List D} (j : Nat), Dqs K H vs ds → Dqs K H (vs.eraseIdx j) (ds.eraseIdx j)
  | [], [], _, _ => .nil
  | _ :: _, _ :: _, 0, .cons _ t => t
  | _ :: _, _ :: _, j + 1, .cons a t => .cons a (dqs_erase j t)
theorem pd_popAt (hv : PE X (.Name y py) (tVar i)) (he : PD fam X E e te) (hbase : attributeBase (.Name y py) "pop" X.env (eval (.Name y py) X.env) = eval (.Name y py) X.env := by rfl)
    (hfew : ((backTo cpos (starEach [e] X.env)).all (fun x => !x.1) && (backToKw cpos (keywordEach [] X.env)).all (fun x => x.1.isSome)
      && decide (([e] : List Expr).length + ([] : List Keyword).length + (if ([] : List Keyword).isEmpty then 0 else 1) < 30)) = true := by rfl)
    (hline : (apos.endLine == cpos.line) = true := by rfl) (hs : starEach [e] X.env = (false, eval e X.env) :: starEach [] X.env := by rfl) (hplain : (backTo cpos (starEach ([] : List Expr) X.env)).any (·.1) = false := by rfl) :
    PD fam X E (.Call (.Attribute (.Name y py) "pop" apos) [e] [] cpos) (dPopAt i te) := by
  obtain ⟨ts, p, he⟩ := he
  refine ⟨_, pe_bm PySem.F.plainAttrs_list PySem.F.slot_list_pop PySem.F.type_list_pop mt_popAt hv (pa_cons p pa_nil hs) hbase hfew hline hs hplain, fun B A σ H F Γ Kd Ke Q I t w fin => ?_⟩
  obtain ⟨⟨ds0, e0⟩, t⟩ := t
  obtain ⟨p, vs0, ev, eh0, _⟩ := I.ownList e0
  refine ⟨_, ev, .inl ⟨rfl, vs0, SqL.of eh0⟩, ?_⟩
  refine he B A σ H F Γ _ _ _ I t w fun s Γ1 v H1 F1 k S I1 r => ?_
  match e1 : Γ1[i]?, s, k, r with
  | some (some (.own (.list ds))), .imm (.int n), k, r =>
    have r : Dq X.K F1 v (.int n) := r
    cases r
    obtain ⟨⟨b1, b2⟩, j, d, ej, ed, k⟩ := k
    obtain ⟨p2, vs, ev2, eh, q⟩ := I1.ownList e1
    rw [ev] at ev2
    cases ev2
    obtain ⟨u, eu, dq⟩ := q.at_ ed
    rw [← q.len] at ej
    exact ⟨p, vs, n, j, u, rfl, rfl, eh, b1, b2, (ixN_seq ej).1, eu, fin _ _ _ _ _ k S (I1.ownUpd e1 ev ⟨_, upd_same, dqs_erase j q⟩) dq⟩
/-- the ints of a list -/
def intsD : List D → Option (List Int)
  | [] => some []
  | .int i :: ds => (intsD ds).map (i :: ·)
  | _ => none
theorem ints_dqs {K : PySem.W.Frag} {H : Hp} : ∀ {vs : List V} {ds : List D} {ns : List Int}, Dqs K H vs ds → intsD ds = some ns → vs = ns.map V.int ∧ ds = ns.map PyData.int
  | [], [], _, _, e => by
    cases e
    exact ⟨rfl, rfl⟩
  | v :: vs, d :: ds, bs, .cons a t, e => by
    match d, a, e with
    | .int b, a, e =>
      cases a
      cases h : intsD ds with
      | none =>
        rw [intsD, h] at e
        cases e
      | some l =>
        rw [intsD, h] at e
        cases e
        obtain ⟨i1, i2⟩ := ints_dqs t h
        exact ⟨by rw [i1] <;> rfl, by rw [i2] <;> rfl⟩
theorem intsD_map : ∀ ns : List Int, intsD (ns.map PyData.int) = some ns
  | [] => rfl
  | n :: ns => by
    rw [List.map_cons, intsD, intsD_map ns] <;> rfl
def dRem (i : Nat) (te : TD) : TD := fun Γ Kd Ke => (∃ ds, Γ[i]? = some (some (.own (.list ds)))) ∧ te Γ (fun s Γ1 => match Γ1[i]?, s with
  | some (some (.own (.list ds))), .imm (.int n) => ∃ ns, intsD ds = some ns ∧ n ∈ ns ∧ Kd (.imm .none) (Γ1.set i (some (.own (.list ((ns.erase n).map PyData.int)))))
  | _, _ => False) Ke
theorem erase_ix {n : Int} : ∀ {ns : List Int}, n ∈ ns → ∃ j, ns[j]? = some n ∧ (∀ m, m < j → ns[m]? ≠ some n) ∧ ns.eraseIdx j = ns.erase n
  | [], h => nomatch h
  | x :: ns, h => by
    by_cases c : x = n
    · subst c
      exact ⟨0, rfl, fun m z => absurd z (Nat.not_lt_zero m), by rw [List.erase_cons_head] <;> rfl⟩
    · have h2 : n ∈ ns := (List.mem_cons.mp h).resolve_left (Ne.symm c)
      obtain ⟨j, e1, e2, e3⟩ := erase_ix h2
      refine ⟨j + 1, e1, fun m hm z => ?_, ?_⟩
      · cases m with
        | zero => exact c (Option.some.inj z)
        | succ m => exact e2 m (by omega) z
      · rw [List.erase_cons_tail (by simpa using c), List.eraseIdx_cons_succ, e3]
theorem pd_remove (hv : PE X (.Name y py) (tVar i)) (he : PD fam X E e te) (hbase : attributeBase (.Name y py) "remove" X.env (eval (.Name y py) X.env) = eval (.Name y py) X.env := by rfl)
    (hfew : ((backTo cpos (starEach [e] X.env)).all (fun x => !x.1) && (backToKw cpos (keywordEach [] X.env)).all (fun x => x.1.isSome)
      && decide (([e] : List Expr).length + ([] : List Keyword).length + (if ([] : List Keyword).isEmpty then 0 else 1) < 30)) = true := by rfl)
    (hline : (apos.endLine == cpos.line) = true := by rfl) (hs : starEach [e] X.env = (false, eval e X.env) :: starEach [] X.env := by rfl) (hplain : (backTo cpos (starEach ([] : List Expr) X.env)).any (·.1) = false := by rfl) :
    PD fam X E (.Call (.Attribute (.Name y py) "remove" apos) [e] [] cpos) (dRem i te) := by
  obtain ⟨ts, p, he⟩ := he
  refine ⟨_, pe_bm PySem.F.plainAttrs_list PySem.F.slot_list_remove PySem.F.type_list_remove mt_remove hv (pa_cons p pa_nil hs) hbase hfew hline hs hplain, fun B A σ H F Γ Kd Ke Q I t w fin => ?_⟩
  obtain ⟨⟨ds0, e0⟩, t⟩ := t
  obtain ⟨p, vs0, ev, eh0, _⟩ := I.ownList e0
  refine ⟨_, ev, .inl ⟨rfl, vs0, SqL.of eh0⟩, ?_⟩
  refine he B A σ H F Γ _ _ _ I t w fun s Γ1 v H1 F1 k S I1 r => ?_
  match e1 : Γ1[i]?, s, k, r with
  | some (some (.own (.list ds))), .imm (.int n), k, r =>
    have r : Dq X.K F1 v (.int n) := r
    cases r
    obtain ⟨ns, en, hm, k⟩ := k
    obtain ⟨p2, vs, ev2, eh, q⟩ := I1.ownList e1
    rw [ev] at ev2
    cases ev2
    obtain ⟨rfl, rfl⟩ := ints_dqs q en
    obtain ⟨j, j1, j2, j3⟩ := erase_ix hm
    refine ⟨p, ns, n, j, rfl, rfl, eh, j1, j2, fin _ _ _ _ _ k S (I1.ownUpd e1 ev ⟨_, upd_same, ?_⟩) (show Dq X.K F1 .non .none from .non)⟩
    rw [j3]
    exact Dqs.ints _
/-- x[j] = e -/
def dPut (i : Nat) (te ti : TD) : TDS := fun DD Γ => te Γ (fun s Γ1 => match s.d? with
  | some d => (∃ ds, Γ1[i]? = some (some (.own (.list ds)))) ∧ ti Γ1 (fun s2 Γ2 => match Γ2[i]?, s2 with
    | some (some (.own (.list ds))), .imm (.int n) => ∃ j, ixN ds.length n = some j ∧ DD.nx (Γ2.set i (some (.own (.list (ds.set j d)))))
    | _, _ => False) DD.er
  | none => False) DD.er
theorem pd_putL {ix : Expr} {ti : TD} {p1 : Pos} (hv : PE X (.Name y py) (tVar i)) (he : PD fam X E e te) (hi : PD fam X E ix ti)
    (ha : ∀ v, assign (.Subscript (.Name y py) ix p1) X.env v = (do
      let ov ← holding [v] (eval (.Name y py) X.env)
      let iv ← holding [v, ov] (eval ix X.env)
      standAt p1
      holding [v, ov, iv] (setItem ov iv v)
      release [v, ov, iv] []) := by intro _; rfl)
    (hs : swapsWithSole [.Subscript (.Name y py) ix p1] e pos.line X.env = pure false := by rfl) (hw : swappedStores [.Subscript (.Name y py) ix p1] e X.env = pure none := by rfl) (h1 : (assignEach [.Subscript (.Name y py) ix p1] X.env).map (·.2) = [assign (.Subscript (.Name y py) ix p1) X.env] := by rfl) :
    PDs fam X E (.Assign [.Subscript (.Name y py) ix p1] e pos) (dPut i te ti) := by
  obtain ⟨ts, p, he⟩ := he
  obtain ⟨tis, pi, hi⟩ := hi
  refine ⟨_, ps_asg p (pg_sub hv pi set_list ha) hs hw h1, fun B A σ H F Γ DD D I t w o => ?_⟩
  refine he B A σ H F Γ _ _ _ I t w fun s Γ1 v H1 F1 k S I1 r => ?_
  match e2 : s.d?, k with
  | some d, k =>
    obtain ⟨F2, S2, I2, dq⟩ := r.give I1 e2
    obtain ⟨⟨ds0, e0⟩, k⟩ := k
    obtain ⟨p, vs0, ev, eh0, _⟩ := I2.ownList e0
    refine ⟨_, ev, ?_⟩
    refine hi B A σ H1 F2 Γ1 _ _ _ I2 k w fun s2 Γ2 v2 H3 F3 k3 S3 I3 r3 => ?_
    match e1 : Γ2[i]?, s2, k3, r3 with
    | some (some (.own (.list ds))), .imm (.int n), k3, r3 =>
      have r3 : Dq X.K F3 v2 (.int n) := r3
      cases r3
      obtain ⟨j, ej, k3⟩ := k3
      obtain ⟨p2, vs, ev2, eh, q⟩ := I3.ownList e1
      rw [ev] at ev2
      cases ev2
      rw [← q.len] at ej
      exact ⟨p, vs, n, j, rfl, rfl, eh, ej, o.nx _ _ _ _ k3 ((S.trans S2).trans S3) (I3.ownUpd e1 ev ⟨_, upd_same, q.set j (dq.up S3)⟩)⟩
/-- x += e, ints -/
def dAug (i : Nat) (te : TD) : TDS := fun DD Γ => match Γ[i]? with
  | some (some (.imm (.int a))) => te Γ (fun s Γ1 => match s with
    | .imm (.int b) => DD.nx (Γ1.set i (some (.imm (.int (a + b)))))
    | _ => False) DD.er
  | _ => False
theorem pd_aug {x : Str} {p2 : Pos} (hN : X.N.Nodup) (hi : X.N[i]? = some x) (hx : Loc X.env.scope x) (h : PD fam X E e te) (hf : X.fn x = true ∨ X.env.scope.names.lookup x = some .local := by first | exact .inl rfl | exact .inr rfl | assumption) : PDs fam X E (.AugAssign (.Name x p2) .Add e pos) (dAug i te) := by
  obtain ⟨ts, p, h⟩ := h
  refine ⟨_, ps_aug (i := i) hN hi hx p ip_add hf, fun B A σ H F Γ DD D I t w o => ?_⟩
  have t : (match Γ[i]? with
    | some (some (.imm (.int a))) => te Γ (fun s Γ1 => match s with
      | .imm (.int b) => DD.nx (Γ1.set i (some (.imm (.int (a + b)))))
      | _ => False) DD.er
    | _ => False) := t
  match e1 : Γ[i]?, t with
  | some (some (.imm (.int a))), t =>
    obtain ⟨v, ev, r0⟩ := I.var i _ e1
    have r0 : Dq X.K F v (.int a) := r0
    cases r0
    refine ⟨_, ev, ?_⟩
    refine h B A σ H F Γ _ _ _ I t w fun s Γ1 v H1 F1 k S I1 r => ?_
    match s, k, r with
    | .imm (.int b), k, r =>
      have r : Dq X.K F1 v (.int b) := r
      cases r
      exact ⟨a, b, rfl, rfl, o.nx _ _ _ _ k S (I1.asg (s := .imm (.int (a + b))) (show Dq X.K F1 (.int (a + b)) (.int (a + b)) from .int _))⟩
/-! ### sorted, of lists of data -/
def sortD (ds : List D) : List D := ds.mergeSort (PySem.W.dataLe false fun b : D => b)
def sortOk (ds : List D) : Prop := flats ds = true ∧ PySem.W.AllAlike ds ∧ PySem.W.Sortable ds ∧ ∀ d ∈ ds, d.depth ≤ 60
def gSorted : D → (Slot → Prop) → Prop
  | .list ds, k => sortOk ds ∧ k (.own (.list (sortD ds)))
  | _, _ => False
theorem dqs_iff {K : PySem.W.Frag} {H : Hp} {bs : List (V × D)} (h : ∀ b ∈ bs, Dq K H b.1 b.2) : Dqs K H (bs.map (·.1)) (bs.map (·.2)) := by
  induction bs with
  | nil => exact .nil
  | cons b r ih => exact .cons (h b List.mem_cons_self) (ih fun c hc => h c (List.mem_cons_of_mem _ hc))
theorem dqs_zip {K : PySem.W.Frag} {H : Hp} : ∀ {vs : List V} {ds : List D}, Dqs K H vs ds → ∀ b ∈ vs.zip ds, Dq K H b.1 b.2
  | [], [], _, b, hb => nomatch hb
  | _ :: _, _ :: _, .cons a t, b, hb => by
    rcases List.mem_cons.mp hb with rfl | hb
    · exact a
    · exact dqs_zip t b hb
theorem srt_dqs {K : PySem.W.Frag} {H : Hp} {vs : List V} {ds : List D} (q : Dqs K H vs ds) : Dqs K H ((srtD vs ds).map fun b => b.1) (sortD ds) := by
  have e : (srtD vs ds).map (fun b => b.2) = sortD ds := by
    have z := List.map_mergeSort (r := PySem.W.dataLe false fun b : V × D => b.2) (s := PySem.W.dataLe false fun b : D => b) (f := fun b : V × D => b.2) (l := vs.zip ds) fun a _ b _ => rfl
    rw [zip_snd q.len] at z
    exact z
  rw [← e]
  exact dqs_iff fun b hb => dqs_zip q b (List.mem_mergeSort.mp hb)
theorem dc_sorted (hu : X.A.units + 64 < cLine) : DC1 fam X (.builtin "sorted") gSorted := by
  refine ⟨_, cr_sortedDa hu, fun B A σ H F Γ x h d Kd Q I r e g fin => ?_⟩
  match d, g with
  | .list ds, g =>
    obtain ⟨⟨f, al, so, de⟩, k⟩ := g
    obtain ⟨p, vs, rfl, hq, q⟩ := r.list I e
    exact ⟨p, vs, ds, rfl, hq, Dqs.dp ds vs f (q.up I.sub), al, so, de, fun z nz => end_lst I fin (srt_dqs q) k nz⟩
/-- sorted of a tuple of ints -/
def gSortedT : D → (Slot → Prop) → Prop
  | .tuple ds, k => ∃ ns, intsD ds = some ns ∧ ∀ ms : List Int, List.Perm ms ns → List.Pairwise (· ≤ ·) ms → k (.own (.list (ms.map PyData.int)))
  | _, _ => False
/-! ### type(x) == T -/
def tyD : D → String
  | .none => "NoneType"
  | .bool _ => "bool"
  | .int _ => "int"
  | .str _ => "str"
  | .list _ => "list"
  | .tuple _ => "tuple"
  | .dict _ => "dict"
theorem Dq.tyB {K : PySem.W.Frag} {H : Hp} {v : V} {d : D} (q : Dq K H v d) : TyB K H v (tyD d) := by
  cases q with
  | non => exact .non
  | bl b => exact .bl b
  | int i => exact .int i
  | str x => exact .str x
  | lst a _ => exact .lst a
  | tup a _ => exact .tup a
  | dic a _ => exact .dK a
theorem tyD_in (d : D) : tyD d ∈ kinds7 := by cases d <;> simp [tyD, kinds7]
def dTyEq (T : String) (n : Bool) (xa : TB) : TD := fun Γ Kd Ke => xa Γ (fun h Γ1 => match getB Γ1 h with
  | some d => Kd (bD (if n then !decide (tyD d = T) else decide (tyD d = T))) Γ1
  | none => False) Ke
theorem ty_run {T : String} (hT : T ∈ kinds7) {p1 p2 p3 : Pos} (hg : Gl X "type") (hm : X.mg "type" = none) (hv : bootBuiltins "type" = some (.type "type")) {Tn : Str} (hT2 : PE X (.Name Tn p3) (tC (.ty T))) (ha : PB fam X E a xa) (hs : starEach [a] X.env = (false, eval a X.env) :: starEach [] X.env) (hpl : (backTo p2 (starEach ([] : List Expr) X.env)).any (·.1) = false) :
    ∃ tea, PE X (.Call (.Name "type" p1) [a] [] p2) tea ∧ ∀ (n : Bool) (r : R2), (r = if n then rNeTy else rEqTy) → ∀ (B : Bs) (A : List Addr) (σ : St) (H F : Hp) (Γ : Env') (Kd : KD) (Ke : KE) (Q : VK), IV fam X.K B A σ H F Γ → dTyEq T n xa Γ Kd Ke → XW X.K X.mg B Ke E →
    (∀ s Γ' v H' F', Kd s Γ' → Same F F' → IV fam X.K B A σ H' F' Γ' → RR fam X.K B A σ Γ' H' F' v s → Q v H') → tOp r tea (tC (.ty T)) σ H Q := by
  obtain ⟨tea, pa, ha⟩ := ha
  refine ⟨_, pe_callTy call_type1 hg hm hv (pa_cons pa pa_nil hs) (by decide) (by decide) hs hpl, fun n r er B A σ H F Γ Kd Ke Q I t w fin => ?_⟩
  refine ha B A σ H F Γ _ _ _ I t w fun h Γ1 v H1 F1 k S I1 rh => ?_
  match e1 : getB Γ1 h, k with
  | some d, k =>
    refine ⟨v, tyD d, rfl, (rh.dq I1 e1).tyB, ?_⟩
    subst er
    cases n with
    | true => exact ⟨_, _, rfl, rfl, tyD_in d, hT, fin _ _ _ _ _ k S I1 (show Dq X.K F1 (.bl _) (.bool _) from .bl _)⟩
    | false => exact ⟨_, _, rfl, rfl, tyD_in d, hT, fin _ _ _ _ _ k S I1 (show Dq X.K F1 (.bl _) (.bool _) from .bl _)⟩
variable {T : String} {p1 p2 p3 : Pos} {Tn : Str}
theorem pd_tyEq (hT : T ∈ kinds7) (hg : Gl X "type") (hm : X.mg "type" = none) (hT2 : PE X (.Name Tn p3) (tC (.ty T))) (ha : PB fam X E a xa) (hs : starEach [a] X.env = (false, eval a X.env) :: starEach [] X.env := by rfl) (hpl : (backTo p2 (starEach ([] : List Expr) X.env)).any (·.1) = false := by rfl) : PD fam X E (.Compare (.Call (.Name "type" p1) [a] [] p2) [.Eq] [.Name Tn p3] pos) (dTyEq T false xa) := by
  obtain ⟨tea, pa, run⟩ := ty_run hT (p1 := p1) hg hm (by decide +kernel) hT2 ha hs hpl
  exact ⟨_, pe_cmpR op_eqTy pa hT2 (nomark _), run false _ rfl⟩
theorem pt_tyEq (hT : T ∈ kinds7) (hg : Gl X "type") (hm : X.mg "type" = none) (hT2 : PE X (.Name Tn p3) (tC (.ty T))) (ha : PB fam X E a xa) (hs : starEach [a] X.env = (false, eval a X.env) :: starEach [] X.env := by rfl) (hpl : (backTo p2 (starEach ([] : List Expr) X.env)).any (·.1) = false := by rfl) : PTt fam X E (.Compare (.Call (.Name "type" p1) [a] [] p2) [.Eq] [.Name Tn p3] pos) (dTest (dTyEq T false xa)) := by
  obtain ⟨tea, pa, run⟩ := ty_run hT (p1 := p1) hg hm (by decide +kernel) hT2 ha hs hpl
  exact ⟨_, pt_cmpR op_eqTy pa hT2 (nomark _), test_run (run false _ rfl)⟩
theorem pd_tyNe (hT : T ∈ kinds7) (hg : Gl X "type") (hm : X.mg "type" = none) (hT2 : PE X (.Name Tn p3) (tC (.ty T))) (ha : PB fam X E a xa) (hs : starEach [a] X.env = (false, eval a X.env) :: starEach [] X.env := by rfl) (hpl : (backTo p2 (starEach ([] : List Expr) X.env)).any (·.1) = false := by rfl) : PD fam X E (.Compare (.Call (.Name "type" p1) [a] [] p2) [.NotEq] [.Name Tn p3] pos) (dTyEq T true xa) := by
  obtain ⟨tea, pa, run⟩ := ty_run hT (p1 := p1) hg hm (by decide +kernel) hT2 ha hs hpl
  exact ⟨_, pe_cmpR op_neTy pa hT2 (nomark _), run true _ rfl⟩
theorem pt_tyNe (hT : T ∈ kinds7) (hg : Gl X "type") (hm : X.mg "type" = none) (hT2 : PE X (.Name Tn p3) (tC (.ty T))) (ha : PB fam X E a xa) (hs : starEach [a] X.env = (false, eval a X.env) :: starEach [] X.env := by rfl) (hpl : (backTo p2 (starEach ([] : List Expr) X.env)).any (·.1) = false := by rfl) : PTt fam X E (.Compare (.Call (.Name "type" p1) [a] [] p2) [.NotEq] [.Name Tn p3] pos) (dTest (dTyEq T true xa)) := by
  obtain ⟨tea, pa, run⟩ := ty_run hT (p1 := p1) hg hm (by decide +kernel) hT2 ha hs hpl
  exact ⟨_, pt_cmpR op_neTy pa hT2 (nomark _), test_run (run true _ rfl)⟩
/-! ### isinstance(x, T) -/
def isD (T : String) : D → Bool
  | .bool _ => decide (T = "bool") || decide (T = "int")
  | d => decide (tyD d = T)
def dIsI (T : String) (xa : TB) : TD := fun Γ Kd Ke => xa Γ (fun h Γ1 => match getB Γ1 h with
  | some d => Kd (bD (isD T d)) Γ1
  | none => False) Ke
end
end L2.Dl

set_option Elab.async false
set_option linter.all false
set_option maxRecDepth 100000
set_option maxHeartbeats 4000000
/-! the data layer: constants that are tuples, list(range(..)), sorted of a tuple of ints, isinstance -/
namespace L2.Dl
open PySem PySem.Spec PyProof.Rows L2.Sl
def TupK (K : PySem.W.Frag) (a : Addr) (ds : List D) : Prop := ∀ F, Dq K F (.ref a) (.tuple ds)
section
variable {fam : Fam} {X : Cx} {E : XK} {e a b : Expr} {pos p p2 pos2 : Pos} {te ta tb : TD} {xa : TB}
theorem pd_globT {x : Str} {ad : Addr} {ds : List D} (hm : X.mg x = some (.ref ad)) (t : TupK X.K ad ds) (hg : Gl X x := by rfl) (hd : (x == ("__debug__" : Str)) = false := by decide) : PD fam X E (.Name x pos) (dC (.tuple ds)) :=
  ⟨_, pe_glob (v := .ref ad) hg hm rfl hd, fun B A σ H F Γ Kd Ke Q I g w fin => fin _ _ _ _ _ g (Same.refl _) I (t F)⟩
theorem pd_globI {x : Str} {i : Int} {tk : Tok} (hm : X.mg x = some (.int i tk)) (hg : Gl X x := by rfl) (hd : (x == ("__debug__" : Str)) = false := by decide) : PD fam X E (.Name x pos) (dC (.int i)) :=
  pd_sc (pe_glob (v := .int i) hg hm ⟨_, rfl⟩ hd) (.int i)
theorem pd_globS {x : Str} {i : Str} {tk : Tok} (hm : X.mg x = some (.str i tk)) (hg : Gl X x := by rfl) (hd : (x == ("__debug__" : Str)) = false := by decide) : PD fam X E (.Name x pos) (dC (.str i)) :=
  pd_sc (pe_glob (v := .str i) hg hm ⟨_, rfl⟩ hd) (.str i)
/-! list(range(..)), tuple(range(..)) -/
theorem rg_dqs {K : PySem.W.Frag} {H : Hp} (lo hi : Int) : Dqs K H (rgV lo hi) (rangeD lo (hi - lo).toNat) := by
  unfold rgV rangeD
  generalize List.range (hi - lo).toNat = l
  induction l with
  | nil => exact .nil
  | cons x r ih => exact .cons (.int _) ih
def dRg1 (te : TD) (k : List D → Slot) : TD := fun Γ Kd Ke => te Γ (fun s Γ1 => match s with
  | .imm (.int n) => RgOk 0 n ∧ Kd (k (rangeD 0 (n - 0).toNat)) Γ1
  | _ => False) Ke
def dRg2 (te tb : TD) (k : List D → Slot) : TD := fun Γ Kd Ke => te Γ (fun s Γ1 => match s with
  | .imm (.int m) => tb Γ1 (fun s2 Γ2 => match s2 with
    | .imm (.int n) => RgOk m n ∧ Kd (k (rangeD m (n - m).toNat)) Γ2
    | _ => False) Ke
  | _ => False) Ke
theorem rg1_run (h : PD fam X E e te) : ∃ t, PE X e t ∧ ∀ (k : List D → Slot) (B : Bs) (A : List Addr) (σ : St) (H F : Hp) (Γ : Env') (Kd : KD) (Ke : KE) (Q : Int → Int → Hp → Prop), IV fam X.K B A σ H F Γ → dRg1 te k Γ Kd Ke → XW X.K X.mg B Ke E →
    (∀ m n Γ' H' F', RgOk m n → Kd (k (rangeD m (n - m).toNat)) Γ' → Same F F' → IV fam X.K B A σ H' F' Γ' → Q m n H') → tRg1 t σ H Q := by
  obtain ⟨t, p, h⟩ := h
  refine ⟨t, p, fun k B A σ H F Γ Kd Ke Q I g w fin => ?_⟩
  refine h B A σ H F Γ _ _ _ I g w fun s Γ1 v H1 F1 k1 S I1 r => ?_
  match s, k1, r with
  | .imm (.int n), k1, r =>
    have r : Dq X.K F1 v (.int n) := r
    cases r
    exact ⟨n, rfl, fin _ _ _ _ _ k1.1 k1.2 S I1⟩
theorem rg2_run (h : PD fam X E a ta) (h2 : PD fam X E b tb) : ∃ t u, PE X a t ∧ PE X b u ∧ ∀ (k : List D → Slot) (B : Bs) (A : List Addr) (σ : St) (H F : Hp) (Γ : Env') (Kd : KD) (Ke : KE) (Q : Int → Int → Hp → Prop), IV fam X.K B A σ H F Γ → dRg2 ta tb k Γ Kd Ke → XW X.K X.mg B Ke E →
    (∀ m n Γ' H' F', RgOk m n → Kd (k (rangeD m (n - m).toNat)) Γ' → Same F F' → IV fam X.K B A σ H' F' Γ' → Q m n H') → tRg2 t u σ H Q := by
  obtain ⟨t, p, h⟩ := h
  obtain ⟨u, p2, h2⟩ := h2
  refine ⟨t, u, p, p2, fun k B A σ H F Γ Kd Ke Q I g w fin => ?_⟩
  refine h B A σ H F Γ _ _ _ I g w fun s Γ1 v H1 F1 k1 S I1 r => ?_
  match s, k1, r with
  | .imm (.int m), k1, r =>
    have r : Dq X.K F1 v (.int m) := r
    cases r
    refine h2 B A σ H1 F1 Γ1 _ _ _ I1 k1 w fun s2 Γ2 v2 H2 F2 k2 S2 I2 r2 => ?_
    match s2, k2, r2 with
    | .imm (.int n), k2, r2 =>
      have r2 : Dq X.K F2 v2 (.int n) := r2
      cases r2
      exact ⟨m, n, rfl, rfl, fin _ _ _ _ _ k2.1 k2.2 (S.trans S2) I2⟩
abbrev ownL (ds : List D) : Slot := .own (.list ds)
abbrev immT (ds : List D) : Slot := .imm (.tuple ds)
theorem pd_listRange {p3 pos3 : Pos} (hc : X.calm = true) (hg : Gl X "list") (hm : X.mg "list" = none) (hg2 : Gl X "range") (hm2 : X.mg "range" = none) (h : PD fam X E e te) (hs : starEach [e] X.env = (false, eval e X.env) :: starEach [] X.env := by rfl)
    (hs2 : starEach [.Call (.Name "range" p3) [e] [] pos3] X.env = (false, eval (.Call (.Name "range" p3) [e] [] pos3) X.env) :: starEach [] X.env := by rfl) : PD fam X E (.Call (.Name "list" p) [.Call (.Name "range" p3) [e] [] pos3] [] pos) (dRg1 te ownL) := by
  obtain ⟨t, pt, run⟩ := rg1_run h
  refine ⟨_, pe_listRg hc hg hm (prg_1 hg2 hm2 pt hs) hs2, fun B A σ H F Γ Kd Ke Q I g w fin => ?_⟩
  exact run _ B A σ H F Γ Kd Ke _ I g w fun m n Γ1 H1 F1 ok k S I1 => ⟨ok, fun q nq => end_lst (Kd := fun s => Kd s Γ1) I1 (fun s v H' F' k S' I' rr => fin _ _ _ _ _ k (S.trans S') I' rr) (rg_dqs m n) k nq⟩
theorem pd_tupRange {p3 pos3 : Pos} (hc : X.calm = true) (hg : Gl X "tuple") (hm : X.mg "tuple" = none) (hg2 : Gl X "range") (hm2 : X.mg "range" = none) (h : PD fam X E e te) (hs : starEach [e] X.env = (false, eval e X.env) :: starEach [] X.env := by rfl)
    (hs2 : starEach [.Call (.Name "range" p3) [e] [] pos3] X.env = (false, eval (.Call (.Name "range" p3) [e] [] pos3) X.env) :: starEach [] X.env := by rfl) : PD fam X E (.Call (.Name "tuple" p) [.Call (.Name "range" p3) [e] [] pos3] [] pos) (dRg1 te immT) := by
  obtain ⟨t, pt, run⟩ := rg1_run h
  refine ⟨_, pe_tupRg hc hg hm (prg_1 hg2 hm2 pt hs) hs2, fun B A σ H F Γ Kd Ke Q I g w fin => ?_⟩
  exact run _ B A σ H F Γ Kd Ke _ I g w fun m n Γ1 H1 F1 ok k S I1 => ⟨ok, fun q nq => end_tup (Kd := fun s => Kd s Γ1) I1 (fun s v H' F' k S' I' rr => fin _ _ _ _ _ k (S.trans S') I' rr) (rg_dqs m n) k nq⟩
/-! sorted of a tuple of ints -/
theorem dc_sortedT : DC1 fam X (.builtin "sorted") gSortedT := by
  refine ⟨_, cr_sortedIT, fun B A σ H F Γ x h d Kd Q I r e g fin => ?_⟩
  match d, g with
  | .tuple ds, g =>
    obtain ⟨ns, en, k⟩ := g
    obtain ⟨p, vs, rfl, hq, q⟩ := r.tup I e
    obtain ⟨rfl, rfl⟩ := ints_dqs q en
    exact ⟨p, ns, rfl, hq, fun ms z pm pw nz => end_lst I fin (Dqs.ints ms) (k ms pm pw) nz⟩
/-! isinstance(x, T), T a built-in type -/
def isT (S T : String) : Bool := decide (S = T) || (decide (S = "bool") && decide (T = "int"))
theorem isT_kit : ∀ S ∈ kinds7, ∀ T ∈ ["int", "bool", "str", "tuple", "list", "dict"], kitB S T = some (isT S T) := by decide +kernel
theorem isD_T (T : String) (d : D) : isD T d = isT (tyD d) T := by
  cases d with
  | bool b =>
    show (decide (T = "bool") || decide (T = "int")) = (decide ("bool" = T) || (decide ("bool" = "bool") && decide (T = "int")))
    rw [decide_eq_true (p := "bool" = "bool") rfl, Bool.true_and, decide_eq_decide.mpr (show T = "bool" ↔ "bool" = T from ⟨Eq.symm, Eq.symm⟩)]
  | none =>
    show decide ("NoneType" = T) = (decide ("NoneType" = T) || (decide ("NoneType" = "bool") && decide (T = "int")))
    rw [show decide ("NoneType" = "bool") = false by decide +kernel, Bool.false_and, Bool.or_false]
  | int _ =>
    show decide ("int" = T) = (decide ("int" = T) || (decide ("int" = "bool") && decide (T = "int")))
    rw [show decide ("int" = "bool") = false by decide +kernel, Bool.false_and, Bool.or_false]
  | str _ =>
    show decide ("str" = T) = (decide ("str" = T) || (decide ("str" = "bool") && decide (T = "int")))
    rw [show decide ("str" = "bool") = false by decide +kernel, Bool.false_and, Bool.or_false]
  | list _ =>
    show decide ("list" = T) = (decide ("list" = T) || (decide ("list" = "bool") && decide (T = "int")))
    rw [show decide ("list" = "bool") = false by decide +kernel, Bool.false_and, Bool.or_false]
  | tuple _ =>
    show decide ("tuple" = T) = (decide ("tuple" = T) || (decide ("tuple" = "bool") && decide (T = "int")))
    rw [show decide ("tuple" = "bool") = false by decide +kernel, Bool.false_and, Bool.or_false]
  | dict _ =>
    show decide ("dict" = T) = (decide ("dict" = T) || (decide ("dict" = "bool") && decide (T = "int")))
    rw [show decide ("dict" = "bool") = false by decide +kernel, Bool.false_and, Bool.or_false]
theorem isD_kit {K : PySem.W.Frag} {T : String} (hT : T ∈ ["int", "bool", "str", "tuple", "list", "dict"]) (d : D) : PySem.W.kitOne K (.type (tyD d)) (.type T) = some (isD T d) := by
  rw [isD_T]
  exact kit_ty (isT_kit _ (tyD_in d) T hT)
theorem Dq.tyX {K : PySem.W.Frag} {H : Hp} {v : V} {d : D} (q : Dq K H v d) : TyX K H v (.type (tyD d)) := by
  cases q with
  | non => exact .base .non
  | bl b => exact .base (.bl b)
  | int i => exact .base (.int i)
  | str x => exact .base (.str x)
  | lst a _ =>
    rcases a with (a | ⟨o, a⟩) | ⟨o, its, n, e, c, _⟩
    · exact .base (.lst a)
    · exact .base (.frz a)
    · exact .kList e c
  | tup a _ =>
    rcases a with (a | ⟨o, a⟩) | ⟨o, its, n, e, c, _⟩
    · exact .base (.tup a)
    · exact .fTuple a
    · exact .kTuple e c
  | dic a _ => exact .base (.dK a)
theorem isi_run {T : String} (hT : T ∈ ["int", "bool", "str", "tuple", "list", "dict"]) {Tn : Str} (hT2 : PE X (.Name Tn p2) (tC (.ty T))) (ha : PB fam X E a xa) : ∃ tea, PE X a tea ∧ ∀ (B : Bs) (A : List Addr) (σ : St) (H F : Hp) (Γ : Env') (Kd : KD) (Ke : KE) (Q : VK), IV fam X.K B A σ H F Γ → dIsI T xa Γ Kd Ke → XW X.K X.mg B Ke E →
    (∀ s Γ' v H' F', Kd s Γ' → Same F F' → IV fam X.K B A σ H' F' Γ' → RR fam X.K B A σ Γ' H' F' v s → Q v H') → tCB (rIsi X.K) (tCons tea (tCons (tC (.ty T)) tNil)) σ H Q := by
  obtain ⟨tea, pa, ha⟩ := ha
  refine ⟨tea, pa, fun B A σ H F Γ Kd Ke Q I t w fin => ?_⟩
  refine ha B A σ H F Γ _ _ _ I t w fun h Γ1 v H1 F1 k S I1 rh => ?_
  match e1 : getB Γ1 h, k with
  | some d, k =>
    exact ⟨v, .ty T, .type (tyD d), .type T, isD T d, rfl, .ty T, (rh.dq I1 e1).tyX, isD_kit hT d, fin _ _ _ _ _ k S I1 (show Dq X.K F1 (.bl _) (.bool _) from .bl _)⟩
theorem pd_isi {T : String} {Tn : Str} (hT : T ∈ ["int", "bool", "str", "tuple", "list", "dict"]) (hg : Gl X "isinstance") (hm : X.mg "isinstance" = none) (hT2 : PE X (.Name Tn p2) (tC (.ty T))) (ha : PB fam X E a xa)
    (hs : starEach [a, .Name Tn p2] X.env = (false, eval a X.env) :: starEach [.Name Tn p2] X.env := by rfl) (hs1 : starEach [.Name Tn p2] X.env = (false, eval (.Name Tn p2) X.env) :: starEach [] X.env := by rfl) (hpl : (backTo pos (starEach [.Name Tn p2] X.env)).any (·.1) = false := by rfl) : PD fam X E (.Call (.Name "isinstance" p) [a, .Name Tn p2] [] pos) (dIsI T xa) := by
  obtain ⟨tea, pa, run⟩ := isi_run hT hT2 ha
  exact ⟨_, L2.pe_callB call_isi hg hm (by decide +kernel) (pa_cons pa (pa_cons hT2 pa_nil hs1) hs) (by decide) (by decide) hs hpl, run⟩
end
end L2.Dl

set_option Elab.async false
set_option linter.all false
set_option maxRecDepth 100000
set_option maxHeartbeats 4000000
/-! the data layer: walks with an invariant; a, b = e, f; joined texts; rows the other way about -/
namespace L2.Dl
open PySem PySem.Spec PyProof.Rows L2.Sl
/-- a comprehension with an invariant: what is found so far, what the slots hold -/
theorem comp_inv {α : Type} {lv : Option (Nat × List D)} {vs : List Nat} {g : TGd} {tt : TTt} {te : TD} {e : α → D} (Inv : Nat → List D → Env' → Prop) {k : List D → Env' → Prop} : ∀ (xs : List α) (i : Nat) (acc : List D) (Γ : Env'),
    (∀ (j : Nat) (x : α) (acc : List D) (Γ : Env'), xs[j]? = some x → Inv (i + j) acc Γ → lentC lv Γ ∧ plainE Γ vs = true ∧ ∀ (Ky : D → Env' → Prop) (Kn : Env' → Prop), (∀ y Γ', Inv (i + j + 1) (acc ++ [y]) Γ' → Ky y Γ') → (∀ Γ', Inv (i + j + 1) acc Γ' → Kn Γ') →
      g (e x) (wipeE Γ vs) fun Γ1 => tt Γ1 (fun b Γ2 => bw b (te Γ2 (fun s Γ3 => match s.d? with
        | some y => Ky y (backE Γ Γ3 vs)
        | none => False) nE) (Kn (backE Γ Γ2 vs))) nE) →
    (∀ acc Γ, Inv (i + xs.length) acc Γ → lentC lv Γ ∧ k acc (unlend lv Γ)) → (∀ n acc Γ, Inv n acc Γ → n < i + xs.length → acc.length < sizeLine) → Inv i acc Γ → compD lv vs g tt te (xs.map e) acc Γ k
  | [], i, acc, Γ, _, fin, _, h => fin acc Γ h
  | x :: xs, i, acc, Γ, st, fin, sz, h => by
    obtain ⟨h1, h2, run⟩ := st 0 x acc Γ rfl h
    have len : (x :: xs).length = xs.length + 1 := rfl
    refine ⟨h1, h2, run (fun y Γ3 => acc.length < sizeLine ∧ compD lv vs g tt te (xs.map e) (acc ++ [y]) Γ3 k) (fun Γ2 => compD lv vs g tt te (xs.map e) acc Γ2 k) (fun y Γ' z => ⟨sz i acc Γ h (by omega), ?_⟩) fun Γ' z => ?_⟩
    · refine comp_inv Inv xs (i + 1) (acc ++ [y]) Γ' (fun j x acc Γ e1 e2 => ?_) (fun acc Γ z => fin acc Γ (by rw [len, show i + (xs.length + 1) = i + 1 + xs.length by omega]; exact z)) (fun n acc Γ z l => sz n acc Γ z (by omega)) z
      have w := st (j + 1) x acc Γ e1 (by rw [show i + (j + 1) = i + 1 + j by omega]; exact e2)
      rw [show i + (j + 1) = i + 1 + j by omega] at w
      exact w
    · refine comp_inv Inv xs (i + 1) acc Γ' (fun j x acc Γ e1 e2 => ?_) (fun acc Γ z => fin acc Γ (by rw [len, show i + (xs.length + 1) = i + 1 + xs.length by omega]; exact z)) (fun n acc Γ z l => sz n acc Γ z (by omega)) z
      have w := st (j + 1) x acc Γ e1 (by rw [show i + (j + 1) = i + 1 + j by omega]; exact e2)
      rw [show i + (j + 1) = i + 1 + j by omega] at w
      exact w
/-- a loop with an invariant -/
theorem for_inv {α : Type} {g : TGd} {b : TDS} {DD : EndsD} {e : α → D} (Inv : Nat → Env' → Prop) : ∀ (xs : List α) (i : Nat) (Γ : Env'),
    (∀ (j : Nat) (x : α) (Γ : Env'), xs[j]? = some x → Inv (i + j) Γ → ∀ nx : Env' → Prop, (∀ Γ', Inv (i + j + 1) Γ' → nx Γ') → g (e x) Γ fun Γ1 => b { nx := nx, rt := DD.rt, ct := nx, bk := DD.nx, er := DD.er } Γ1) →
    (∀ Γ, Inv (i + xs.length) Γ → DD.nx Γ) → Inv i Γ → forD g b DD (xs.map e) Γ
  | [], i, Γ, _, fin, h => fin Γ h
  | x :: xs, i, Γ, st, fin, h => by
    have len : (x :: xs).length = xs.length + 1 := rfl
    refine st 0 x Γ rfl h _ fun Γ' z => for_inv Inv xs (i + 1) Γ' (fun j x Γ e1 e2 => ?_) (fun Γ z => fin Γ (by rw [len, show i + (xs.length + 1) = i + 1 + xs.length by omega]; exact z)) z
    have w := st (j + 1) x Γ e1 (by rw [show i + (j + 1) = i + 1 + j by omega]; exact e2)
    rw [show i + (j + 1) = i + 1 + j by omega] at w
    exact w
section
variable {fam : Fam} {X : Cx} {E : XK} {e a b : Expr} {pos p p2 pos2 : Pos} {te ta tb : TD} {xa xb : TB}
/-! a, b = e, f -/
def dPar (i j : Nat) (ta tb : TD) : TDS := fun DD Γ => ta Γ (fun s1 Γ1 => tb Γ1 (fun s2 Γ2 => DD.nx ((Γ2.set i (some s1)).set j (some s2))) DD.er) DD.er
theorem aside_own {K : PySem.W.Frag} {B : Bs} {A : List Addr} {σ : St} {H F : Hp} {Γ : Env'} {v : V} {s : Slot} (I : IV fam K B A σ H F Γ) (r : RS fam K B A H F v s) (os : s.isOwn = true) (no : ∀ i, ownAt Γ i → σ[i]? ≠ some (some v))
    (mk : ∀ (H' F' : Hp) (Γ' : Env'), RS fam K B A H' F' v s → True → (∀ i, ownAt Γ' i → σ[i]? ≠ some (some v)) → True → True → True → RR fam K B A σ Γ' H' F' v s) : ∃ B', IV fam K B' A σ H F Γ ∧ B'.M = B.M ∧ B'.F0 = B.F0 ∧ (∀ a o, B.H0 a = some o → B'.H0 a = some o) ∧
    ∀ (H' F' : Hp) (Γ' : Env'), Same F F' → IV fam K B' A σ H' F' Γ' → IV fam K B A σ H' F' Γ' ∧ RR fam K B A σ Γ' H' F' v s ∧ ∀ u t, RR fam K B' A σ Γ' H' F' u t → RR fam K B A σ Γ' H' F' u t ∧ (t.isOwn = true → u ≠ v ∨ ∃ d', s = .imm d') := by
  obtain ⟨p, o, rfl, h0, f0, na, eo, nt, nc⟩ := r.ownR os
  have notM : p ∉ B.M := fun z => na (I.mA _ z)
  refine ⟨B.with p o, I.guard nt eo f0 na no, rfl, rfl, fun a x z => ?_, fun H' F' Γ' S J => ?_⟩
  · show upd B.H0 p o a = some x
    rw [upd_ne (fun c => by rw [c, h0] at z; cases z)]
    exact z
  · have hp : H' p = some o := J.keep p o (by show upd B.H0 p o p = _; exact upd_same) notM
    have f00 : B.F0 p = none := by
      cases z : B.F0 p with
      | none => rfl
      | some x =>
        have y2 := I.old p x z
        rw [f0] at y2
        cases y2
    have fp := J.guardF f00
    have J2 := J.unguard h0
    refine ⟨J2, mk H' F' Γ' ?_ True.intro J.guardOwn True.intro True.intro True.intro, fun u t z => ?_⟩
    · refine r.stepO os S (fun q x e _ _ _ hx => ?_)
      cases e
      rw [eo] at hx
      cases hx
      exact ⟨hp, fp⟩
    · cases t with
      | imm x => exact ⟨z, fun y => by cases y⟩
      | own x =>
        obtain ⟨⟨q, rfl, b1, b2, b3, oc2⟩, n2⟩ := z
        have b1 : upd B.H0 p o q = none := b1
        have ne : q ≠ p := fun c => by
          rw [c, upd_same] at b1
          cases b1
        rw [upd_ne ne] at b1
        exact ⟨⟨⟨q, rfl, b1, b2, b3, oc2⟩, n2⟩, fun _ => .inl fun y => ne (V.ref.inj y)⟩
      | lent x => exact z.elim
      | drw n => exact z.elim
      | nds x =>
        obtain ⟨⟨q, rfl, b1, b2, b3, oc2⟩, n2⟩ := z
        have b1 : upd B.H0 p o q = none := b1
        have ne : q ≠ p := fun c => by
          rw [c, upd_same] at b1
          cases b1
        rw [upd_ne ne] at b1
        exact ⟨⟨⟨q, rfl, b1, b2, b3, oc2⟩, n2⟩, fun _ => .inl fun y => ne (V.ref.inj y)⟩
/-- a result that stands aside while another is made -/
theorem aside {K : PySem.W.Frag} {B : Bs} {A : List Addr} {σ : St} {H F : Hp} {Γ : Env'} {v : V} {s : Slot} (I : IV fam K B A σ H F Γ) (r : RR fam K B A σ Γ H F v s) : ∃ B', IV fam K B' A σ H F Γ ∧ B'.M = B.M ∧ B'.F0 = B.F0 ∧ (∀ a o, B.H0 a = some o → B'.H0 a = some o) ∧
    ∀ (H' F' : Hp) (Γ' : Env'), Same F F' → IV fam K B' A σ H' F' Γ' → IV fam K B A σ H' F' Γ' ∧ RR fam K B A σ Γ' H' F' v s ∧ ∀ u t, RR fam K B' A σ Γ' H' F' u t → RR fam K B A σ Γ' H' F' u t ∧ (t.isOwn = true → u ≠ v ∨ ∃ d', s = .imm d') := by
  cases s with
  | imm d => exact ⟨B, I, rfl, rfl, fun _ _ z => z, fun H' F' Γ' S J => ⟨J, Dq.up (show Dq K F v d from r) S, fun u t z => ⟨z, fun _ => .inr ⟨d, rfl⟩⟩⟩⟩
  | own d => exact aside_own I r.1 rfl r.2 fun H' F' Γ' h f no S J hp => ⟨h, no⟩
  | nds ks => exact aside_own I r.1 rfl r.2 fun H' F' Γ' h f no S J hp => ⟨h, no⟩
  | lent d => exact r.elim
  | drw n => exact r.elim
theorem XW.aside {K : PySem.W.Frag} {mg : Str → Option Value} {B B' : Bs} {Ke : KE} {E : XK} (w : XW K mg B Ke E) (hM : B'.M = B.M) (hF : B'.F0 = B.F0) (h : ∀ a o, B.H0 a = some o → B'.H0 a = some o) : XW K mg B' Ke E :=
  fun c fs C dd H' F' zs k m ed fr s ft kp nw => w c fs C dd H' F' zs k m ed fr s ft (fun a o e n => kp a o (h a o e) (by rw [hM]; exact n)) fun a o e => by
    rcases nw a o e with z | z
    · rw [hF] at z
      exact .inl z
    · refine .inr ?_
      cases q : B.H0 a with
      | none => rfl
      | some x =>
        rw [h a x q] at z
        cases z
theorem IV.asg2 {K : PySem.W.Frag} {B : Bs} {A : List Addr} {σ : St} {H F : Hp} {Γ : Env'} {i j : Nat} {v u : V} {s t : Slot} (I : IV fam K B A σ H F Γ) (r : RR fam K B A σ Γ H F v s) (q : RR fam K B A σ Γ H F u t) (ne : t.isOwn = true → u ≠ v ∨ ∃ d', s = .imm d') : IV fam K B A ((σ.set i (some v)).set j (some u)) H F ((Γ.set i (some s)).set j (some t)) := by
  have fr : t.isOwn = true → (∀ l, ownAt Γ l → σ[l]? ≠ some (some u)) → ∀ l, ownAt (Γ.set i (some s)) l → (σ.set i (some v))[l]? ≠ some (some u) := fun ot n2 l ol => by
    rcases own_set ol with ⟨rfl, d', z, oz⟩ | ⟨nl, ol⟩
    · rcases ne ot with n | ⟨d2, e⟩
      · by_cases hl : l < σ.length
        · rw [List.getElem?_set_self hl]
          exact fun y => n (Option.some.inj (Option.some.inj y)).symm
        · rw [List.getElem?_eq_none (by rw [List.length_set]; omega)]
          exact fun y => nomatch y
      · rw [e] at z
        cases z
        cases oz
    · rw [List.getElem?_set_ne (Ne.symm nl)]
      exact n2 l ol
  refine (I.asg r).asg ?_
  cases t with
  | imm d => exact q
  | own d => exact ⟨q.1, fr rfl q.2⟩
  | nds ks => exact ⟨q.1, fr rfl q.2⟩
  | lent d => exact q.elim
  | drw n => exact q.elim
theorem pd_par {i j : Nat} {x y : Str} {px py pt : Pos} {kt k2 pt2} (hc : X.calm = true) (hN : X.N.Nodup) (hi : X.N[i]? = some x) (hj : X.N[j]? = some y) (hij : i ≠ j) (hx : X.env.scope.names.lookup x = some .local) (hy : X.env.scope.names.lookup y = some .local) (ha : PD fam X E a ta) (hb : PD fam X E b tb)
    (hw : swappedStores [.Tuple [.Name x px, .Name y py] kt pt] (.Tuple [a, b] k2 pt2) X.env = pure (some [x, y])) (hs : swapsWithSole [.Tuple [.Name x px, .Name y py] kt pt] (.Tuple [a, b] k2 pt2) pos.line X.env = pure false := by rfl)
    (hs1 : starEach [a, b] X.env = (false, eval a X.env) :: starEach [b] X.env := by rfl) (hs2 : starEach [b] X.env = (false, eval b X.env) :: starEach [] X.env := by rfl) : PDs fam X E (.Assign [.Tuple [.Name x px, .Name y py] kt pt] (.Tuple [a, b] k2 pt2) pos) (dPar i j ta tb) := by
  obtain ⟨tea, pa, ha⟩ := ha
  obtain ⟨teb, pb, hb⟩ := hb
  refine ⟨_, ps_par (i := i) (j := j) hc hN hi hj hij hx hy (pa_cons pa (pa_cons pb pa_nil hs2) hs1) hw hs, fun B A σ H F Γ DD D I t w o => ?_⟩
  refine ha B A σ H F Γ _ _ _ I t w fun s1 Γ1 v1 H1 F1 k1 S1 I1 r1 => ?_
  obtain ⟨B', J, eM, eF, eH, back⟩ := aside I1 r1
  refine hb B' A σ H1 F1 Γ1 _ _ _ J k1 (w.aside eM eF eH) fun s2 Γ2 v2 H2 F2 k2 S2 J2 r2 => ?_
  obtain ⟨I2, r1', b2⟩ := back H2 F2 Γ2 S2 J2
  obtain ⟨r2', ne⟩ := b2 v2 s2 r2
  exact ⟨_, _, rfl, o.nx _ _ _ _ k2 (S1.trans S2) (I2.asg2 r1' r2' ne)⟩
/-- .. where a name is a block's too -/
theorem RR.same {K : PySem.W.Frag} {B : Bs} {A : List Addr} {σ : St} {H F : Hp} {Γ : Env'} {v : V} {s : Slot} {p : Addr} {o : HO} (r : RR fam K B A σ Γ H F v s) (n : H p = none) : RR fam K B A σ Γ (upd H p o) F v s := by
  cases s with
  | imm d => exact r
  | own d =>
    obtain ⟨⟨q, rfl, b1, b2, b3, oc⟩, no⟩ := r
    exact ⟨⟨q, rfl, b1, b2, b3, oc.step (Same.refl _) fun o2 e2 => same_new n _ _ e2⟩, no⟩
  | lent d => exact r.elim
  | drw n => exact r.elim
  | nds ks =>
    obtain ⟨⟨q, rfl, b1, b2, b3, nd⟩, no⟩ := r
    exact ⟨⟨q, rfl, b1, b2, b3, nd.step (Same.refl _) fun o2 e2 => same_new n _ _ e2⟩, no⟩
theorem pd_parA {i j : Nat} {x y : Str} {px py pt : Pos} {kt k2 pt2} (hc : X.calm = true) (ga : PG X (.Name x px) (gName i)) (gb : PG X (.Name y py) (gName j)) (ha : PD fam X E a ta) (hb : PD fam X E b tb)
    (hs : swapsWithSole [.Tuple [.Name x px, .Name y py] kt pt] (.Tuple [a, b] k2 pt2) pos.line X.env = pure false := by rfl) (hw : swappedStores [.Tuple [.Name x px, .Name y py] kt pt] (.Tuple [a, b] k2 pt2) X.env = pure none := by rfl) (h1 : (assignEach [.Tuple [.Name x px, .Name y py] kt pt] X.env).map (·.2) = [assign (.Tuple [.Name x px, .Name y py] kt pt) X.env] := by rfl)
    (hs1 : starEach [a, b] X.env = (false, eval a X.env) :: starEach [b] X.env := by rfl) (hs2 : starEach [b] X.env = (false, eval b X.env) :: starEach [] X.env := by rfl)
    (hn : (assignEach [.Name x px, .Name y py] X.env).length = 2 := by rfl) (hst : (assignEach [.Name x px, .Name y py] X.env).findIdx? (·.1) = none := by rfl)
    (he1 : (assignEach [.Name x px, .Name y py] X.env).map (·.2) = assign (.Name x px) X.env :: (assignEach [.Name y py] X.env).map (·.2) := by rfl) (he2 : (assignEach [.Name y py] X.env).map (·.2) = assign (.Name y py) X.env :: (assignEach [] X.env).map (·.2) := by rfl) : PDs fam X E (.Assign [.Tuple [.Name x px, .Name y py] kt pt] (.Tuple [a, b] k2 pt2) pos) (dPar i j ta tb) := by
  obtain ⟨tea, pa, ha⟩ := ha
  obtain ⟨teb, pb, hb⟩ := hb
  refine ⟨_, ps_asg (pe_tup (pa_cons pa (pa_cons pb pa_nil hs2) hs1)) (pg_tup hc (pgs_cons ga (pgs_cons gb pgs_nil he2) he1) hn hst) hs hw h1, fun B A σ H F Γ DD D I t w o => ?_⟩
  refine ha B A σ H F Γ _ _ _ I t w fun s1 Γ1 v1 H1 F1 k1 S1 I1 r1 => ?_
  obtain ⟨B', J, eM, eF, eH, back⟩ := aside I1 r1
  refine hb B' A σ H1 F1 Γ1 _ _ _ J k1 (w.aside eM eF eH) fun s2 Γ2 v2 H2 F2 k2 S2 J2 r2 => ?_
  obtain ⟨I2, r1', b2⟩ := back H2 F2 Γ2 S2 J2
  obtain ⟨r2', ne⟩ := b2 v2 s2 r2
  refine ⟨(show 2 ≤ sizeLine by decide), fun p np => ⟨p, _, rfl, SqT.of upd_same, rfl, ?_⟩⟩
  exact ⟨v1, _, rfl, v2, _, rfl, rfl, o.nx _ _ _ _ k2 (S1.trans S2) ((I2.fresh np).asg2 (RR.same r1' np) (RR.same r2' np) ne)⟩
/-! joined texts -/
def strsD : List D → Option (List Str)
  | [] => some []
  | .str z :: ds => (strsD ds).map (z :: ·)
  | _ => none
theorem strs_dqs {K : PySem.W.Frag} {H : Hp} : ∀ {vs : List V} {ds : List D} {zs : List Str}, Dqs K H vs ds → strsD ds = some zs → vs = zs.map V.str ∧ ds = zs.map PyData.str
  | [], [], _, _, e => by
    cases e
    exact ⟨rfl, rfl⟩
  | v :: vs, d :: ds, bs, .cons a t, e => by
    match d, a, e with
    | .str b, a, e =>
      cases a
      cases h : strsD ds with
      | none =>
        rw [strsD, h] at e
        cases e
      | some l =>
        rw [strsD, h] at e
        cases e
        obtain ⟨i1, i2⟩ := strs_dqs t h
        exact ⟨by rw [i1] <;> rfl, by rw [i2] <;> rfl⟩
theorem strsD_map : ∀ ns : List Str, strsD (ns.map PyData.str) = some ns
  | [] => rfl
  | n :: ns => by
    rw [List.map_cons, strsD, strsD_map ns] <;> rfl
def gJoin : D → D → (Slot → Prop) → Prop
  | .str a, d, k => match itemsD d with
    | some ds => ∃ zs, strsD ds = some zs ∧ (zs.map (·.length)).sum + zs.length * a.length ≤ 16777216 ∧ k (.imm (.str (Txt.join a zs)))
    | none => False
  | _, _, _ => False
theorem HdR.itemsE {K : PySem.W.Frag} {B : Bs} {A : List Addr} {σ : St} {H F : Hp} {Γ : Env'} {v : V} {h : Hd} (I : IV fam K B A σ H F Γ) (r : HdR K F σ v h) {d : D} {ds : List D} (g : getB Γ h = some d) (e : itemsD d = some ds) : ∃ p vs, v = .ref p ∧ (SqL K H p vs ∨ SqT K H p vs) ∧ Dqs K F vs ds := by
  cases d with
  | list xs =>
    cases e
    obtain ⟨p, vs, a, b, c⟩ := r.list I g
    exact ⟨p, vs, a, .inl b, c⟩
  | tuple xs =>
    cases e
    obtain ⟨p, vs, a, b, c⟩ := r.tup I g
    exact ⟨p, vs, a, .inr b, c⟩
  | _ => cases e
def dJoin (ta : TD) (xb : TB) : TD := fun Γ Kd Ke => ta Γ (fun s Γ1 => match s with
  | .imm (.str a) => xb Γ1 (fun h Γ2 => match getB Γ2 h with
    | some d => gJoin (.str a) d fun s => Kd s Γ2
    | none => False) Ke
  | _ => False) Ke
theorem pd_join {apos : Pos} (ha : PD fam X E a ta) (hb : PB fam X E b xb) (hs : starEach [b] X.env = [(false, eval b X.env)] := by rfl) (hbase : attributeBase a "join" X.env (eval a X.env) = eval a X.env := by rfl) (hline : (apos.endLine == pos.line) = true := by rfl) :
    PD fam X E (.Call (.Attribute a "join" apos) [b] [] pos) (dJoin ta xb) := by
  obtain ⟨tea, pa, ha⟩ := ha
  obtain ⟨teb, pb, hb⟩ := hb
  refine ⟨_, pe_join pa pb hs hbase hline, fun B A σ H F Γ Kd Ke Q I t w fin => ?_⟩
  refine ha B A σ H F Γ _ _ _ I t w fun s Γ1 v1 H1 F1 k1 S1 I1 r1 => ?_
  match s, k1, r1 with
  | .imm (.str z), k1, r1 =>
    have r1 : Dq X.K F1 v1 (.str z) := r1
    cases r1
    refine ⟨⟨z, rfl⟩, ?_⟩
    refine hb B A σ H1 F1 Γ1 _ _ _ I1 k1 w fun h Γ2 v2 H2 F2 k2 S2 I2 r2 => ?_
    match e2 : getB Γ2 h, k2 with
    | some d, k2 =>
      have k2 : (match itemsD d with
        | some ds => ∃ zs, strsD ds = some zs ∧ (zs.map (·.length)).sum + zs.length * z.length ≤ 16777216 ∧ Kd (.imm (.str (Txt.join z zs))) Γ2
        | none => False) := k2
      match ei : itemsD d, k2 with
      | some ds, k2 =>
        obtain ⟨zs, es, bd, k⟩ := k2
        obtain ⟨p, vs, rfl, hq, q⟩ := r2.itemsE I2 e2 ei
        obtain ⟨rfl, _⟩ := strs_dqs q es
        exact ⟨z, p, zs, rfl, rfl, hq, bd, fin _ _ _ _ _ k (S1.trans S2) I2 (show Dq X.K F2 (.str _) (.str _) from .str _)⟩
def dRev (xa : TB) : TD := fun Γ Kd Ke => xa Γ (fun h Γ1 => match getB Γ1 h with
  | some (.tuple ds) => Kd (.imm (.tuple ds.reverse)) Γ1
  | _ => False) Ke
theorem pd_rev {k : Nat} {p1 p2 p3 pos : Pos} (ha : PB fam X E a xa) : PD fam X E (.Subscript a (.Slice none none (some (.UnaryOp .USub (.Constant (.int 1) k p1) p2)) p3) pos) (dRev xa) := by
  obtain ⟨tea, pa, ha⟩ := ha
  refine ⟨_, pe_revT pa, fun B A σ H F Γ Kd Ke Q I t w fin => ?_⟩
  refine ha B A σ H F Γ _ _ _ I t w fun h1 Γ1 v1 H1 F1 k1 S1 I1 r1 => ?_
  match e1 : getB Γ1 h1, k1 with
  | some (.tuple ds), k1 =>
    obtain ⟨p, vs, rfl, hq, q⟩ := r1.tup I1 e1
    exact ⟨p, vs, rfl, hq, fun z nz => end_tup (Kd := fun s => Kd s Γ1) I1 (fun s v H' F' k S' I' rr => fin _ _ _ _ _ k (S1.trans S') I' rr) q.rev k1 nz⟩
/-- sorted of a list of few texts -/
def gSortedS : D → (Slot → Prop) → Prop
  | .list ds, k => ∃ zs, strsD ds = some zs ∧ zs.length < 64 ∧ ∀ ys : List Str, List.Perm ys zs → sortedS ys = true → k (.own (.list (ys.map PyData.str)))
  | _, _ => False
theorem dc_sortedS : DC1 fam X (.builtin "sorted") gSortedS := by
  refine ⟨_, cr_sortedS, fun B A σ H F Γ x h d Kd Q I r e g fin => ?_⟩
  match d, g with
  | .list ds, g =>
    obtain ⟨zs, en, l, k⟩ := g
    obtain ⟨p, vs, rfl, hq, q⟩ := r.list I e
    obtain ⟨rfl, rfl⟩ := strs_dqs q en
    exact ⟨p, zs, rfl, hq, l, fun ms z pm pw nz => end_lst I fin (Dqs.strs ms) (k ms pm pw) nz⟩
end
end L2.Dl

set_option Elab.async false
set_option linter.all false
set_option maxRecDepth 100000
set_option maxHeartbeats 4000000
/-! the data layer: lambdas that are handed to a def, defs that make them -/
namespace L2.Dl
open PySem PySem.Spec PyProof.Rows L2.Sl
/-- a family whose things stand with tables of code objects -/
structure LamFam (fam : Fam) (T : List (Addr × Str)) : Prop where
  lam : fam.lam = true
  tb : ∀ {H A}, fam.IN H A → LamX.Tabs T H
  ext : ∀ {H H1 A}, fam.IN H A → LamX.ExtN H H1 → LamX.Tabs T H1 → fam.IN H1 A
  dr : ∀ {H H1 v n A}, fam.DR H v n A → LamX.ExtN H H1 → LamX.Tabs T H1 → fam.DR H1 v n A
  only : ∀ {H A}, fam.IN H A → ∀ a ∈ A, (∃ ps, H a = some (.tbl ps)) → a ∈ (T.map fun r : Addr × Str => r.1)
  th : ∀ {H H1 A}, fam.IN H A → LamX.ExtN H H1 → LamX.Tabs T H1 → ∀ a ∈ A, H a ≠ none → H1 a ≠ none
section
variable {fam : Fam} {K : PySem.W.Frag} {B : Bs} {A : List Addr} {σ : St} {H F H1 : Hp} {Γ : Env'} {T : List (Addr × Str)}
/-- a lambda was made -/
theorem IV.ext (L : LamFam fam T) (I : IV fam K B A σ H F Γ) (e : LamX.ExtN H H1) (t : LamX.Tabs T H1) : IV fam K B A σ H1 F Γ := by
  have h0 := I.h0 L.lam
  refine ⟨fun a o z => e a o (I.sub a o z) fun ps c => I.ft a ps (by rw [← c]; exact z), fun a o z m => e a o (I.keep a o z m) fun ps c => h0 a ps (by rw [← c]; exact z), I.new, I.old, I.len, fun i s es => ?_, I.dis, I.mA, fun a m => ?_, I.one, L.ext I.inv e t, I.ft, I.h0⟩
  · obtain ⟨v, ev, r⟩ := I.var i s es
    refine ⟨v, ev, ?_⟩
    cases s with
    | imm d => exact r
    | own d =>
      obtain ⟨p, o, _, _, _, _, eo, nt, _⟩ := RS.ownR r rfl
      exact RS.stepO r rfl (Same.refl _) fun q x eq f0 _ _ hx => ⟨e q x hx (by obtain ⟨p, o, e1, _, _, _, eo, nt, _⟩ := RS.ownR r rfl; rw [e1] at eq; cases eq; rw [eo] at hx; cases hx; exact nt), f0⟩
    | lent d => exact RS.stepO r rfl (Same.refl _) fun q x eq f0 _ _ hx => ⟨e q x hx (by obtain ⟨p, o, e1, _, _, _, eo, nt, _⟩ := RS.ownR r rfl; rw [e1] at eq; cases eq; rw [eo] at hx; cases hx; exact nt), f0⟩
    | nds d => exact RS.stepO r rfl (Same.refl _) fun q x eq f0 _ _ hx => ⟨e q x hx (by obtain ⟨p, o, e1, _, _, _, eo, nt, _⟩ := RS.ownR r rfl; rw [e1] at eq; cases eq; rw [eo] at hx; cases hx; exact nt), f0⟩
    | drw n => exact L.dr r e t
  · obtain ⟨z1, z2, z3⟩ := I.tA a m
    exact ⟨L.th I.inv e t a m z1, z2, z3⟩
/-- only what is fixed -/
def immE (Γ : Env') : Env' := Γ.map fun s => match s with
  | some (.imm d) => some (.imm d)
  | _ => none
theorem immE_at {i : Nat} {s : Slot} (e : (immE Γ)[i]? = some (some s)) : ∃ d, s = .imm d ∧ Γ[i]? = some (some (.imm d)) := by
  unfold immE at e
  rw [List.getElem?_map] at e
  cases h : Γ[i]? with
  | none =>
    rw [h] at e
    cases e
  | some x =>
    rw [h] at e
    have e := Option.some.inj e
    match x, e with
    | some (.imm d), e => exact ⟨d, (Option.some.inj e).symm, rfl⟩
theorem IV.inner {w : World} (I : IV fam K B A σ H F Γ) : IV (noFam w) K ⟨H, F, []⟩ [] σ H F (immE Γ) := by
  refine ⟨I.sub, fun _ _ e _ => e, fun _ _ e => .inl e, Same.refl _, ?_, fun i s es => ?_, fun i j _ oi _ => ?_, (fun _ z => nomatch z), (fun _ z => nomatch z), fun i j n m e _ => ?_, True.intro, I.ft, fun z => nomatch z⟩
  · unfold immE
    rw [List.length_map]
    exact I.len
  · obtain ⟨d, rfl, e⟩ := immE_at es
    exact I.var i _ e
  · obtain ⟨d, e, o⟩ := oi
    obtain ⟨_, rfl, _⟩ := immE_at e
    cases o
  · obtain ⟨_, z, _⟩ := immE_at e
    cases z
/-- what the def that is handed the lambda makes of it, by data -/
def SaidOk (K : PySem.W.Frag) (mg : Str → Option Value) (TT : (XK → Hp → VK → Prop) → Hp → VK → Prop) (tellN : D → Slot) (tellE : Str → List (Str × D) → Option Slot) : Prop :=
  ∀ (tl : XK → Hp → VK → Prop) (H F : Hp) (N : D → Prop) (Xc : KE) (Q : VK), Same F H → FD F →
    (∀ (E : XK) (R : VK), (∀ v H2 F2 d, N d → Same H H2 → Same F F2 → Same F2 H2 → FD F2 → (∀ a o, F2 a = some o → F a = some o ∨ H a = none) → Dq K F2 v d → R v H2) → XW K mg ⟨H, F, []⟩ Xc E → tl E H R) →
    (∀ s v H2 F2, ((∃ d, N d ∧ s = tellN d) ∨ ∃ c fs, Xc c fs ∧ tellE c fs = some s) → Same H H2 → Same F F2 → Same F2 H2 → FD F2 → (∀ a o, F2 a = some o → F a = some o ∨ H a = none) → RO K H H2 F2 v s → Q v H2) →
    (∀ c fs, Xc c fs → (tellE c fs).isSome = true) → TT tl H Q
def dSaid (te : TD) (tellN : D → Slot) (tellE : Str → List (Str × D) → Option Slot) : TD := fun Γ Kd _ => te (immE Γ) (fun s _ => match s.d? with
  | some d => Kd (tellN d) Γ
  | none => False) (fun c fs => match tellE c fs with
  | some s => Kd s Γ
  | none => False)
theorem pd_said {X : Cx} {E : XK} {e : Expr} {TT : (XK → Hp → VK → Prop) → Hp → VK → Prop} {te : TD} {tellN : D → Slot} {tellE : Str → List (Str × D) → Option Slot} (L : LamFam fam T) (ok : SaidOk X.K X.mg TT tellN tellE) (h : PE X e (LamX.tLam T TT fun E => teOf (noFam X.w) X.K X.mg E te)) : PD fam X E e (dSaid te tellN tellE) := by
  refine ⟨_, h, fun B A σ H F Γ Kd Ke Q I g w fin => ⟨L.tb I.inv, fun H1 e1 t1 => ?_⟩⟩
  have I1 := I.ext L e1 t1
  refine ok _ H1 F (fun d => Kd (tellN d) Γ) (fun c fs => ∃ s, tellE c fs = some s ∧ Kd s Γ) Q I1.sub I1.ft (fun E' R hR xw => ?_) (fun s v H2 F2 hs S SF SH ft nw ro => ?_) (fun c fs ⟨s, es, _⟩ => by rw [es] <;> rfl)
  · refine ⟨⟨H1, F, []⟩, [], F, immE Γ, _, _, I1.inner (w := X.w), g, ?_, fun s Γ' v H' F' k S I' r => ?_⟩
    · intro c fs C dd H' F' zs k
      refine xw c fs C dd H' F' zs ?_
      match es : tellE c fs, k with
      | some s, k => exact ⟨s, es, k⟩
    · match es : s.d?, k with
      | some d, k =>
        obtain ⟨F2, S2, I2, dq⟩ := r.give I' es
        exact hR v H' F2 d k (fun a o z => I2.keep a o z (by simp)) (S.trans S2) I2.sub I2.ft (fun a o z => I2.new a o z) dq
  · refine fin s Γ v H2 F2 ?_ SF (I1.call S SF SH ft nw) (RO.rr I1 ro)
    rcases hs with ⟨d, n, rfl⟩ | ⟨c, fs, ⟨s2, e2, k⟩, e3⟩
    · exact n
    · rw [e2] at e3
      cases e3
      exact k
/-! ### defs that make lambdas -/
/-- the heap but its tables -/
noncomputable def noTab (H : Hp) : Hp := fun a => match H a with
  | some (.tbl _) => none
  | o => o
theorem noTab_of {a : Addr} {o : HO} (e : H a = some o) (n : ∀ ps, o ≠ .tbl ps) : noTab H a = some o := by
  unfold noTab
  rw [e]
  cases o <;> first | rfl | exact absurd rfl (n _)
theorem noTab_at {a : Addr} {o : HO} (e : noTab H a = some o) : H a = some o ∧ ∀ ps, o ≠ .tbl ps := by
  unfold noTab at e
  split at e
  · cases e
  · rename_i n
    exact ⟨e, fun ps z => n ps (by rw [e, z])⟩
theorem noTab_FD : FD (noTab H) := fun a ps z => (noTab_at z).2 ps rfl
/-- a result of a def that makes lambdas -/
def RL (K : PySem.W.Frag) (H : Hp) (A : List Addr) (H' F' : Hp) (v : V) : Slot → Prop
  | .imm d => Dq K F' v d
  | .own d => ∃ p, v = .ref p ∧ noTab H p = none ∧ F' p = none ∧ p ∉ A ∧ OC K H' F' p d
  | _ => False
/-- what such a def does, by data; the tables T stand -/
abbrev CL := List D → (Slot → Prop) → Prop
def spL (T : List (Addr × Str)) (K : PySem.W.Frag) (n : Nat) (C : CL) : Sp := fun vs H Q _ => ∃ (F : Hp) (ds : List D) (Kd : Slot → Prop), vs.length = n ∧ Same F H ∧ FD F ∧ LamX.Tabs T H ∧ Dqs K F vs ds ∧ C ds Kd ∧
  (∀ s v H' F', Kd s → LamX.ExtN H H' → LamX.Tabs T H' → Same F F' → Same F' H' → FD F' → (∀ a o, F' a = some o → F a = some o ∨ noTab H a = none) → (∀ a ∈ (T.map fun r : Addr × Str => r.1), F' a = none) → RL K H (T.map fun r : Addr × Str => r.1) H' F' v s → Q v H')
/-- .. and changes the thing of the draws, that is handed on first -/
abbrev CML := Nat → List D → (Slot → Nat → Prop) → Prop
def spML (fam : Fam) (K : PySem.W.Frag) (n : Nat) (C : CML) : Sp := fun vs H Q _ => ∃ (v0 : V) (vr : List V) (A : List Addr) (N : Nat) (F : Hp) (ds : List D) (Kd : Slot → Nat → Prop), vs = v0 :: vr ∧ vr.length = n ∧ Same F H ∧ FD F ∧ (∀ a ∈ A, F a = none) ∧ fam.IN H A ∧ fam.DR H v0 N A ∧ Dqs K F vr ds ∧ C N ds Kd ∧
  (∀ s N' v H' F', Kd s N' → (∀ a o, noTab H a = some o → a ∉ A → H' a = some o) → Same F F' → Same F' H' → (∀ a o, F' a = some o → F a = some o ∨ noTab H a = none) → FD F' → (∀ a ∈ A, F' a = none) → fam.IN H' A → fam.DR H' v0 N' A → RL K H A H' F' v s → Q v H')
theorem noTab_none {a : Addr} (h : H a = none) : noTab H a = none := by
  unfold noTab
  rw [h]
theorem IV.none0L (L : LamFam fam T) (I : IV fam K B A σ H F Γ) {p : Addr} (h : noTab H p = none) (na : p ∉ A) : B.H0 p = none := by
  cases e : B.H0 p with
  | none => rfl
  | some o =>
    have hm : p ∉ B.M := fun z => na (I.mA p z)
    have z := noTab_of (I.keep p o e hm) fun ps c => I.h0 L.lam p ps (by rw [← c]; exact e)
    rw [h] at z
    cases z
theorem IV.noneFL (I : IV fam K B A σ H F Γ) {p : Addr} (h : noTab H p = none) : F p = none := by
  cases e : F p with
  | none => rfl
  | some o =>
    have z := noTab_of (I.sub p o e) fun ps c => I.ft p ps (by rw [← c]; exact e)
    rw [h] at z
    cases z
theorem IV.freshOwnL (I : IV fam K B A σ H F Γ) {p : Addr} (h : noTab H p = none) : ∀ (i : Nat), ownAt Γ i → σ[i]? ≠ some (some (.ref p)) := fun i oi z => by
  obtain ⟨s, e, os⟩ := oi
  obtain ⟨v, ev, r⟩ := I.var i _ e
  obtain ⟨q, o, rfl, _, _, _, eo, nt, _⟩ := RS.ownR r os
  rw [ev] at z
  cases z
  rw [noTab_of eo nt] at h
  cases h
/-- behind a call of such a def -/
theorem IV.callL (L : LamFam fam T) {H' F' : Hp} (I : IV fam K B A σ H F Γ) (e : LamX.ExtN H H') (t : LamX.Tabs T H') (SF : Same F F') (SH : Same F' H') (ft : FD F') (nw : ∀ a o, F' a = some o → F a = some o ∨ noTab H a = none) (fA : ∀ a ∈ A, F' a = none) : IV fam K B A σ H' F' Γ := by
  have I1 := I.ext L e t
  have nf : ∀ {q : Addr} {x : HO}, F q = none → H q = some x → (∀ ps, x ≠ .tbl ps) → F' q = none := fun {q x} f h n => by
    cases e : F' q with
    | none => rfl
    | some y =>
      rcases nw q y e with z | z
      · rw [f] at z
        cases z
      · rw [noTab_of h n] at z
        cases z
  refine ⟨SH, I1.keep, fun a o z => ?_, I1.old.trans SF, I1.len, fun i s es => ?_, I1.dis, I1.mA, fun a m => ?_, I1.one, I1.inv, ft, I1.h0⟩
  · rcases nw a o z with y | y
    · exact I.new a o y
    · exact .inr (I.none0L L y fun m => by rw [fA a m] at z; cases z)
  · obtain ⟨v, ev, r⟩ := I.var i s es
    obtain ⟨v1, ev1, r1⟩ := I1.var i s es
    rw [ev] at ev1
    cases ev1
    refine ⟨v, ev, ?_⟩
    cases s with
    | imm d => exact Dq.up (show Dq K F v d from r) SF
    | own d =>
      exact RS.stepO r rfl SF fun q x eq f0 _ _ hx => by
        obtain ⟨p, o, e1, _, _, _, eo, nt, _⟩ := RS.ownR r rfl
        rw [e1] at eq
        cases eq
        rw [eo] at hx
        cases hx
        exact ⟨e _ _ eo nt, nf f0 eo nt⟩
    | lent d =>
      exact RS.stepO r rfl SF fun q x eq f0 _ _ hx => by
        obtain ⟨p, o, e1, _, _, _, eo, nt, _⟩ := RS.ownR r rfl
        rw [e1] at eq
        cases eq
        rw [eo] at hx
        cases hx
        exact ⟨e _ _ eo nt, nf f0 eo nt⟩
    | nds d =>
      exact RS.stepO r rfl SF fun q x eq f0 _ _ hx => by
        obtain ⟨p, o, e1, _, _, _, eo, nt, _⟩ := RS.ownR r rfl
        rw [e1] at eq
        cases eq
        rw [eo] at hx
        cases hx
        exact ⟨e _ _ eo nt, nf f0 eo nt⟩
    | drw n => exact r1
  · obtain ⟨z1, z2, z3⟩ := I1.tA a m
    exact ⟨z1, fA a m, z3⟩
end
section
variable {P : Program} {w : World} {K : PySem.W.Frag} {mg : Str → Option Value} {base : Heap} {fam : Fam} {T : List (Addr × Str)}
abbrev endL (Kd : Slot → Prop) : EndsD := { nx := fun _ => Kd (.imm .none), rt := fun s _ => toldS s Kd, er := nE }
/-- a def that makes lambdas, by its body -/
theorem okL {x qual : Str} {st : Stmt} {f c : Addr} {fd : FuncData} {N ps : List Str} {k : Nat} {C : CL} {t : TDS} (F : FunC K x qual st f fd c) (S : FnScope N ps (defScope st)) (hle : ps.length ≤ N.length) (L : LamFam fam T) (hi : ∀ H, LamX.Tabs T H → fam.IN H (T.map fun r : Addr × Str => r.1))
    (hb : ∀ (A : Around) (outer : List Env) (s : Shared) (H : Hp) (E : XK), Room k (A.deeper (envOfC qual (defScope st) s.heap.objs.size f (.ref c))) →
      PDss fam (cxOf CX0 P w K mg base N qual (defScope st) f (.ref c) A outer s H E).nox E0 (defBody st) t)
    (hc : ∀ ds Kd, ds.length = ps.length → C ds Kd → t (endL Kd) (envD N.length ds)) : FnOk P w K mg base CX0 (k + 1) f fd ps (spL T K ps.length C) := by
  refine F.ok S (fun vs H Q E h => ?_) (fun A outer s H vs Q E hr h => ?_)
  · obtain ⟨F, ds, Kd, l, _⟩ := h
    exact l
  · obtain ⟨F0, ds, Kd, l, SF, ft, tb, q, c0, post⟩ := h
    obtain ⟨ts, p, run⟩ := hb A outer s H E hr
    refine ⟨ts, p, ?_⟩
    have isT : ∀ a ∈ (T.map fun r : Addr × Str => r.1), ∃ ps, H a = some (.tbl ps) := fun a m => by
      obtain ⟨r, hr, rfl⟩ := List.mem_map.mp m
      obtain ⟨ps, e, _⟩ := tb r hr
      exact ⟨ps, e⟩
    have fA : ∀ a ∈ (T.map fun r : Addr × Str => r.1), F0 a = none := fun a m => by
      cases e : F0 a with
      | none => rfl
      | some o =>
        obtain ⟨ps, e2⟩ := isT a m
        have z := SF a o e
        rw [e2] at z
        cases z
        exact absurd e (ft a ps)
    have I0 : IV fam K ⟨noTab H, F0, (T.map fun r : Addr × Str => r.1)⟩ (T.map fun r : Addr × Str => r.1) (start N vs) H F0 (envD N.length ds) := by
      refine ⟨SF, fun a o e _ => (noTab_at e).1, fun a o e => .inl e, Same.refl _, ?_, fun i s e => ?_, fun i j _ oi _ => ?_, fun _ z => z, fun a m => ?_, fun i j n m e _ => ?_, hi H tb, ft, fun _ => noTab_FD⟩
      · rw [start_len (by rw [l]; exact hle)]
        unfold envD
        rw [List.length_append, List.length_map, List.length_replicate, ← q.len, l]
        omega
      · obtain ⟨d, ed, rfl⟩ := env_at e
        obtain ⟨v, ev, qv⟩ := q.at_ ed
        exact ⟨v, start_at ev, qv⟩
      · obtain ⟨d, e, o⟩ := oi
        obtain ⟨_, _, rfl⟩ := env_at e
        cases o
      · obtain ⟨ps, e⟩ := isT a m
        exact ⟨by rw [e]; simp, fA a m, .inr m⟩
      · obtain ⟨_, _, z⟩ := env_at e
        cases z
    have fin : ∀ {s : Slot} {Γ : Env'} {v : V} {σ : St} {H' F' : Hp}, Kd s → Same F0 F' → IV fam K ⟨noTab H, F0, (T.map fun r : Addr × Str => r.1)⟩ (T.map fun r : Addr × Str => r.1) σ H' F' Γ → RR fam K ⟨noTab H, F0, (T.map fun r : Addr × Str => r.1)⟩ (T.map fun r : Addr × Str => r.1) σ Γ H' F' v s → (∀ ks, s ≠ .nds ks) → Q v H' := fun {s Γ v σ H' F'} k S I r ns => by
      refine post s v H' F' k (fun a o e n => I.keep a o (noTab_of e n) fun m => ?_) (L.tb I.inv) S I.sub I.ft (fun a o e => I.new a o e) (fun a m => (I.tA a m).2.1) ?_
      · obtain ⟨ps, e2⟩ := isT a m
        rw [e2] at e
        cases e
        exact n ps rfl
      · cases s with
        | imm d => exact r
        | own d =>
          obtain ⟨⟨p, rfl, b1, b2, b3, oc⟩, _⟩ := r
          exact ⟨p, rfl, b1, b2, b3, oc⟩
        | lent d => exact r.elim
        | drw n => exact r.elim
        | nds ks => exact absurd rfl (ns ks)
    refine run ⟨noTab H, F0, (T.map fun r : Addr × Str => r.1)⟩ (T.map fun r : Addr × Str => r.1) _ H F0 _ (endL Kd) _ I0 (hc ds Kd (q.len.symm.trans l) c0) xw_nE ⟨fun Γ σ H' F' k S I => ?_, fun s Γ v σ H' F' k S I r => ?_, fun _ _ _ _ z => z.elim, fun _ _ _ _ z => z.elim⟩
    · exact fin k S I (show Dq K F' .non .none from .non) (fun _ z => nomatch z)
    · exact fin (toldS_of k).1 S I r (toldS_of k).2
/-- .. whose first is the thing of the draws -/
theorem okML {x qual : Str} {st : Stmt} {f c : Addr} {fd : FuncData} {N ps : List Str} {n0 : Str} {k : Nat} {C : CML} {t : TDS} (F : FunC K x qual st f fd c) (S : FnScope N (n0 :: ps) (defScope st)) (hle : ps.length + 1 ≤ N.length)
    (hb : ∀ (A : Around) (outer : List Env) (s : Shared) (H : Hp) (E : XK), Room k (A.deeper (envOfC qual (defScope st) s.heap.objs.size f (.ref c))) →
      PDss fam (cxOf CX0 P w K mg base N qual (defScope st) f (.ref c) A outer s H E).nox E0 (defBody st) t)
    (hc : ∀ M ds Kd, ds.length = ps.length → C M ds Kd → t (endM Kd nE) (envM N.length M ds)) : FnOk P w K mg base CX0 (k + 1) f fd (n0 :: ps) (spML fam K ps.length C) := by
  refine F.ok S (fun vs H Q E h => ?_) (fun A outer s H vs Q E hr h => ?_)
  · obtain ⟨v0, vr, A, N, F, ds, Kd, rfl, l, _⟩ := h
    exact congrArg (· + 1) l
  · obtain ⟨v0, vr, A2, M, F0, ds, Kd, rfl, l, SF, ft, fA, inv, dr, q, c0, post⟩ := h
    obtain ⟨ts, p, run⟩ := hb A outer s H E hr
    refine ⟨ts, p, ?_⟩
    have I0 : IV fam K ⟨noTab H, F0, A2⟩ A2 (start N (v0 :: vr)) H F0 (envM N.length M ds) := by
      have el : (envD (N.length - 1) ds).length + 1 = N.length := by
        unfold envD
        rw [List.length_append, List.length_map, List.length_replicate, ← q.len, l]
        omega
      refine ⟨SF, fun a o e _ => (noTab_at e).1, fun a o e => .inl e, Same.refl _, ?_, fun i s e => ?_, fun i j _ oi _ => ?_, fun _ z => z, fun a m => ⟨fam.trk dr a m, fA a m, .inr m⟩, fun i j n m ei ej => ?_, inv, ft, fun _ => noTab_FD⟩
      · rw [start_len (by rw [List.length_cons, l]; exact hle)]
        exact el.symm
      · cases i with
        | zero =>
          cases e
          exact ⟨v0, rfl, dr⟩
        | succ i =>
          obtain ⟨d, ed, rfl⟩ := env_at (show (envD (N.length - 1) ds)[i]? = some (some s) from e)
          obtain ⟨v, ev, qv⟩ := q.at_ ed
          exact ⟨v, start_at (i := i + 1) (vs := v0 :: vr) ev, qv⟩
      · obtain ⟨d, e, o⟩ := oi
        cases i with
        | zero =>
          cases e
          cases o
        | succ i =>
          obtain ⟨_, _, rfl⟩ := env_at (show (envD (N.length - 1) ds)[i]? = some (some _) from e)
          cases o
      · cases i with
        | succ i =>
          obtain ⟨_, _, z⟩ := env_at (show (envD (N.length - 1) ds)[i]? = some (some _) from ei)
          cases z
        | zero =>
          cases j with
          | zero => rfl
          | succ j =>
            obtain ⟨_, _, z⟩ := env_at (show (envD (N.length - 1) ds)[j]? = some (some _) from ej)
            cases z
    have fin : ∀ {s : Slot} {Γ : Env'} {v : V} {σ : St} {H' F' : Hp}, drw0 Γ (Kd s) → Same F0 F' → IV fam K ⟨noTab H, F0, A2⟩ A2 σ H' F' Γ → RR fam K ⟨noTab H, F0, A2⟩ A2 σ Γ H' F' v s → (∀ ks, s ≠ .nds ks) → Q v H' := fun {s Γ v σ H' F'} k S I r ns => by
      have k : (match Γ[(0 : Nat)]? with
        | some (some (Slot.drw n)) => Kd s n
        | _ => False) := k
      match e : Γ[(0 : Nat)]?, k with
      | some (some (.drw n)), k =>
        obtain ⟨u, eu, d⟩ := I.var 0 _ e
        obtain ⟨a1, r1, e1, e2⟩ := fam.ref dr
        obtain ⟨a2, r2, e3, e4⟩ := fam.ref d
        rw [e1] at e3
        cases e3
        rw [e4, ← e2] at d
        refine post _ _ _ _ _ k (fun a o e m => I.keep a o e m) S I.sub (fun a o e => I.new a o e) I.ft (fun a m => (I.tA a m).2.1) I.inv d ?_
        cases s with
        | imm d => exact r
        | own d =>
          obtain ⟨⟨p, rfl, b1, b2, b3, oc⟩, _⟩ := r
          exact ⟨p, rfl, b1, b2, b3, oc⟩
        | lent d => exact r.elim
        | drw n => exact r.elim
        | nds ks => exact absurd rfl (ns ks)
    refine run ⟨noTab H, F0, A2⟩ A2 _ H F0 _ (endM Kd nE) _ I0 (hc M ds Kd (q.len.symm.trans l) c0) xw_nE ⟨fun Γ σ H' F' k S I => ?_, fun s Γ v σ H' F' k S I r => ?_, fun _ _ _ _ z => z.elim, fun _ _ _ _ z => z.elim⟩
    · exact fin k S I (show Dq K F' .non .none from .non) (fun _ z => nomatch z)
    · exact fin (toldS_of k).1 S I r (toldS_of k).2
end
section
variable {fam : Fam} {X : Cx} {E : XK} {e : Expr} {es : List Expr} {pos : Pos} {tr : TAr} {k i : Nat} {f : Addr} {fd : FuncData} {ps : List Str} {x y : Str} {p py : Pos} {CX : CXT} {T : List (Addr × Str)}
def dCallL (n : Nat) (C : CL) (t : TAr) : TD := fun Γ Kd Ke => t Γ (fun ds Γ1 => ds.length = n ∧ C ds fun s => Kd s Γ1) Ke
theorem pd_callL {C : CL} (L : LamFam fam T) (G : FnOk X.prog X.w X.K X.mg X.base CX k f fd ps (spL T X.K (es.length + 1) C)) (hr : Room k X.A) (hg : Gl X x) (hm : X.mg x = some (.ref f)) (hk : PySem.W.keepIn X.K (.ref f) = true) (hb : Binds X.K fd ps []) (hx : Passes CX X E)
    (ha : PAr fam X E (e :: es) tr) (hdb : (x == ("__debug__" : Str)) = false := by decide) (he : starEach (e :: es) X.env = (false, eval e X.env) :: starEach es X.env := by rfl) (hpl : (backTo pos (starEach es X.env)).any (·.1) = false := by rfl) :
    PD fam X E (.Call (.Name x p) (e :: es) [] pos) (dCallL (es.length + 1) C tr) := by
  obtain ⟨ts, pa, ha⟩ := ha
  refine ⟨_, L2.pe_call G hr hg hm hk hb .nil hx pa hdb he hpl, fun B A σ H F Γ Kd Ke Q I t w fin => ?_⟩
  refine ha B A σ H F Γ _ _ _ I t w fun ds Γ1 vs H1 F1 k S I1 q => ?_
  rw [List.append_nil]
  refine ⟨F1, ds, _, q.len.trans k.1, I1.sub, I1.ft, L.tb I1.inv, q, k.2, fun s v H' F' ks eN tb S2 S3 ft nw nT r => ?_⟩
  have tabOf : ∀ a ∈ A, noTab H1 a = none → a ∈ (T.map fun r : Addr × Str => r.1) := fun a m z => by
    obtain ⟨z1, _, _⟩ := I1.tA a m
    cases e : H1 a with
    | none => exact absurd e z1
    | some o =>
      by_cases h : ∀ ps, o ≠ .tbl ps
      · rw [noTab_of e h] at z
        cases z
      · obtain ⟨ps, h⟩ := Classical.not_forall.mp h
        exact L.only I1.inv a m ⟨ps, by rw [e, Classical.not_not.mp h]⟩
  have fA : ∀ a ∈ A, F' a = none := fun a m => by
    obtain ⟨z1, z2, _⟩ := I1.tA a m
    cases e : F' a with
    | none => rfl
    | some o =>
      rcases nw a o e with z | z
      · rw [z2] at z
        cases z
      · have y := nT a (tabOf a m z)
        rw [e] at y
        cases y
  refine fin _ _ _ _ _ ks (S.trans S2) (I1.callL L eN tb S2 S3 ft nw fA) ?_
  cases s with
  | imm d => exact r
  | own d =>
    obtain ⟨p, rfl, b1, b2, b3, oc⟩ := r
    have na : p ∉ A := fun m => b3 (tabOf p m b1)
    exact ⟨⟨p, rfl, I1.none0L L b1 na, b2, na, oc⟩, I1.freshOwnL b1⟩
  | lent d => exact r.elim
  | drw n => exact r.elim
  | nds ks => exact r.elim
def dCallML (i : Nat) (n : Nat) (C : CML) (t : TAr) : TD := fun Γ Kd Ke => (∃ N, Γ[i]? = some (some (.drw N))) ∧ t Γ (fun ds Γ1 => match Γ1[i]? with
  | some (some (.drw N)) => ds.length = n ∧ C N ds fun s N' => Kd s (Γ1.set i (some (.drw N')))
  | _ => False) Ke
theorem IV.callML {K : PySem.W.Frag} {B : Bs} {A : List Addr} {σ : St} {H F H' F' : Hp} {Γ : Env'} {N N' : Nat} {v0 : V} (L : LamFam fam T) (I : IV fam K B A σ H F Γ) (e : Γ[i]? = some (some (.drw N))) (ev : σ[i]? = some (some v0)) (S : ∀ a o, noTab H a = some o → a ∉ A → H' a = some o) (SF : Same F F') (SH : Same F' H') (nw : ∀ a o, F' a = some o → F a = some o ∨ noTab H a = none) (ft : FD F') (fA : ∀ a ∈ A, F' a = none) (inv : fam.IN H' A) (d : fam.DR H' v0 N' A) : IV fam K B A σ H' F' (Γ.set i (some (.drw N'))) := by
  have h0 := I.h0 L.lam
  have nf : ∀ {q : Addr} {x : HO}, F q = none → H q = some x → (∀ ps, x ≠ .tbl ps) → F' q = none := fun {q x} f h n => by
    cases e : F' q with
    | none => rfl
    | some y =>
      rcases nw q y e with z | z
      · rw [f] at z
        cases z
      · rw [noTab_of h n] at z
        cases z
  refine ⟨SH, fun a o e m => ?_, fun a o z => ?_, I.old.trans SF, by rw [List.length_set]; exact I.len, fun j s es => ?_, fun j l jl oj ol => ?_, I.mA, fun a m => ?_, fun j l n m ej el => ?_, inv, ft, I.h0⟩
  · have e2 := noTab_of (I.keep a o e m) fun ps c => h0 a ps (by rw [← c]; exact e)
    by_cases c : a ∈ A
    · obtain ⟨_, _, z⟩ := I.tA a c
      rcases z with z | z
      · rw [z] at e
        cases e
      · exact absurd z m
    · exact S _ _ e2 c
  · rcases nw a o z with y | y
    · exact I.new a o y
    · exact .inr (I.none0L L y fun m => by rw [fA a m] at z; cases z)
  · rcases set_at es with ⟨rfl, z⟩ | ⟨c, z⟩
    · cases z
      exact ⟨v0, ev, d⟩
    · obtain ⟨v, ev, r⟩ := I.var j s z
      refine ⟨v, ev, ?_⟩
      cases s with
      | imm x => exact Dq.up (show Dq K F v x from r) SF
      | own x =>
        exact RS.stepO r rfl SF fun q x eq f0 _ na hx => by
          obtain ⟨p, o, e1, _, _, _, eo, nt, _⟩ := RS.ownR r rfl
          rw [e1] at eq
          cases eq
          rw [eo] at hx
          cases hx
          exact ⟨S _ _ (noTab_of eo nt) na, nf f0 eo nt⟩
      | lent x =>
        exact RS.stepO r rfl SF fun q x eq f0 _ na hx => by
          obtain ⟨p, o, e1, _, _, _, eo, nt, _⟩ := RS.ownR r rfl
          rw [e1] at eq
          cases eq
          rw [eo] at hx
          cases hx
          exact ⟨S _ _ (noTab_of eo nt) na, nf f0 eo nt⟩
      | nds x =>
        exact RS.stepO r rfl SF fun q x eq f0 _ na hx => by
          obtain ⟨p, o, e1, _, _, _, eo, nt, _⟩ := RS.ownR r rfl
          rw [e1] at eq
          cases eq
          rw [eo] at hx
          cases hx
          exact ⟨S _ _ (noTab_of eo nt) na, nf f0 eo nt⟩
      | drw n => exact absurd (I.one _ _ _ _ z e) c
  · rcases own_set oj with ⟨_, d, z, zo⟩ | ⟨_, oj2⟩
    · cases z <;> cases zo
    · rcases own_set ol with ⟨_, d, z, zo⟩ | ⟨_, ol2⟩
      · cases z <;> cases zo
      · exact I.dis j l jl oj2 ol2
  · obtain ⟨_, _, z3⟩ := I.tA a m
    exact ⟨fam.trk d a m, fA a m, z3⟩
  · have at_ : ∀ {j n : Nat}, (Γ.set i (some (.drw N')))[j]? = some (some (.drw n)) → j = i := fun {j n} q => by
      rcases set_at q with ⟨z, _⟩ | ⟨_, z⟩
      · exact z
      · exact I.one _ _ _ _ z e
    exact (at_ ej).trans (at_ el).symm
theorem pd_callML {C : CML} (L : LamFam fam T) (G : FnOk X.prog X.w X.K X.mg X.base CX k f fd ps (spML fam X.K es.length C)) (hr : Room k X.A) (hg : Gl X x) (hm : X.mg x = some (.ref f)) (hk : PySem.W.keepIn X.K (.ref f) = true) (hb : Binds X.K fd ps []) (hx : Passes CX X E)
    (hv : PE X (.Name y py) (tVar i)) (ha : PAr fam X E es tr) (hdb : (x == ("__debug__" : Str)) = false := by decide) (he : starEach (.Name y py :: es) X.env = (false, eval (.Name y py) X.env) :: starEach es X.env := by rfl) (hpl : (backTo pos (starEach es X.env)).any (·.1) = false := by rfl) :
    PD fam X E (.Call (.Name x p) (.Name y py :: es) [] pos) (dCallML i es.length C tr) := by
  obtain ⟨ts, pa, ha⟩ := ha
  refine ⟨_, L2.pe_call G hr hg hm hk hb .nil hx (pa_cons hv pa he) hdb he hpl, fun B A σ H F Γ Kd Ke Q I t w fin => ?_⟩
  obtain ⟨⟨N0, e0⟩, t⟩ := t
  obtain ⟨v0, ev, _⟩ := I.var i _ e0
  refine ⟨v0, ev, ?_⟩
  refine ha B A σ H F Γ _ _ _ I t w fun ds Γ1 vs H1 F1 k S I1 q => ?_
  show spML fam X.K es.length C (v0 :: vs ++ []) H1 Q E
  rw [List.append_nil]
  match e1 : Γ1[i]?, k with
  | some (some (.drw N)), k =>
    obtain ⟨u, eu, d⟩ := I1.var i _ e1
    rw [ev] at eu
    cases eu
    refine ⟨v0, vs, A, N, F1, ds, _, rfl, q.len.trans k.1, I1.sub, I1.ft, (fun a m => (I1.tA a m).2.1), I1.inv, d, q, k.2, fun s N' v H' F' ks S1 S2 S3 nw ft fA inv d' r => ?_⟩
    refine fin _ _ _ _ _ ks (S.trans S2) (I1.callML L e1 ev S1 S2 S3 nw ft fA inv d') ?_
    cases s with
    | imm x => exact r
    | own x =>
      obtain ⟨q, rfl, n, f, na, oc⟩ := r
      refine ⟨⟨q, rfl, I1.none0L L n na, f, na, oc⟩, fun j oj => ?_⟩
      rcases own_set oj with ⟨_, _, z, zo⟩ | ⟨_, oj⟩
      · cases z <;> cases zo
      · exact I1.freshOwnL n j oj
    | lent x => exact r.elim
    | drw n => exact r.elim
    | nds ks => exact r.elim
end
end L2.Dl

set_option Elab.async false
set_option linter.all false
set_option maxRecDepth 100000
set_option maxHeartbeats 4000000
/-! the data layer: dicts whose keys are data of any depth, each with True -/
namespace L2.Dl
open PySem PySem.Spec PyProof.Rows L2.Sl
section
variable {X : Cx} {pins : List (Addr × Obj)} {σ : St} {H F : Hp} {s : Shared}
mutual
theorem nis (I : Inv X pins σ H s) (S : Same F H) : ∀ (d : D) (k : NestedKey) (v : V) (u : Value), Dq X.K F v d → kN d = some k → RelV v u → NestedIs s.heap k u
  | .int i, k, v, u, q, e, r => by
    cases q
    cases e
    obtain ⟨t, rfl⟩ := r
    exact .int i t
  | .str x, k, v, u, q, e, r => by
    cases q
    cases e
    obtain ⟨t, rfl⟩ := r
    exact .text x t
  | .tuple ds, k, v, u, q, e, r => by
    cases q with
    | tup a b =>
      cases h : kNs ds with
      | none =>
        simp only [kN, h, Option.map_none] at e
        cases e
      | some ks =>
        simp only [kN, h, Option.map_some] at e
        cases e
        obtain ⟨its, rv, ⟨o, h1, h2, n, h3⟩, _⟩ := I.tuple (sqT_same S a)
        cases r
        exact .tup h1 h2 h3 (by simpa using nisAll I S ds ks _ _ b h rv)
  | .none, k, v, u, q, e, r => by simp [kN] at e
  | .bool _, k, v, u, q, e, r => by simp [kN] at e
  | .list _, k, v, u, q, e, r => by simp [kN] at e
  | .dict _, k, v, u, q, e, r => by simp [kN] at e
theorem nisAll (I : Inv X pins σ H s) (S : Same F H) : ∀ (ds : List D) (ks : List NestedKey) (vs : List V) (us : List Value), Dqs X.K F vs ds → kNs ds = some ks → Vals vs us → NestedAll s.heap ks us
  | [], ks, vs, us, q, e, r => by
    cases q
    cases r
    simp only [kNs, Option.some.injEq] at e
    subst e
    exact .nil
  | d :: ds, ks, vs, us, q, e, r => by
    cases q with
    | cons a b =>
      cases r with
      | cons r1 r2 =>
        cases h1 : kN d with
        | none => simp [kNs, h1] at e
        | some k =>
          cases h2 : kNs ds with
          | none => simp [kNs, h1, h2] at e
          | some ks2 =>
            simp only [kNs, h1, h2, Option.some.injEq] at e
            subst e
            exact .cons (nis I S d k _ _ a h1 r1) (nisAll I S ds ks2 _ _ b h2 r2)
end
/-- a key by data -/
def KeyQ (K : PySem.W.Frag) (H : Hp) (k : NestedKey) (b : Addr) : Prop := k.depth ≤ 8 ∧ ∃ F d, Same F H ∧ Dq K F (.ref b) d ∧ kN d = some k
theorem KeyQ.is {k : NestedKey} {b : Addr} (I : Inv X pins σ H s) (h : KeyQ X.K H k b) : NestedIs s.heap k (.ref b) := by
  obtain ⟨_, F, d, S, q, e⟩ := h
  exact nis I S d k _ _ q e rfl
theorem ndq_at {a : Addr} {xs : List (NestedKey × Addr)} (I : Inv X pins σ H s) (e : H a = some (NDo X.w a xs)) (k : ∀ x ∈ xs, KeyQ X.K H x.1 x.2) : xs.length ≤ sizeLine ∧ (a == sysModules) = false ∧ s.heap.DictOfH (nestedKind X.prog X.w) a (withT xs) := by
  obtain ⟨⟨z1, z2, o, es, ep, h1, h2, h3, h4, h5⟩, _⟩ := I.hok a _ e
  refine ⟨z1, z2, o, es, ep, h1, h2, h3, ?_, fun x hx => ?_, ?_⟩
  · rw [h4, withT_ent]
  · obtain ⟨y, hy, rfl⟩ := List.mem_map.mp hx
    exact ⟨(k y hy).is I, (k y hy).1⟩
  · rw [withT_keys]
    exact h5
def rNotInQ (w : World) (K : PySem.W.Frag) : R2 := fun x y H Q => ∃ a xs b k, x = .ref b ∧ y = .ref a ∧ H a = some (NDo w a xs) ∧ (∀ z ∈ xs, KeyQ K H z.1 z.2) ∧ KeyQ K H k b ∧ Q (.bl (!decide (k ∈ xs.map (·.1)))) H
theorem op_notInQ {w : World} (hw : X.w = w) (hu : X.A.units + 64 < cLine) : OpR X (compareOp .NotIn) (rNotInQ w X.K) := by
  subst hw
  intro pins s σ H x y v u Q I rx ry h
  obtain ⟨a, xs, b, k, rfl, rfl, e, ks, kb, q⟩ := h
  cases rx
  cases ry
  obtain ⟨z, hd, dd⟩ := ndq_at I e ks
  refine wpAny_notIn_heap (knd := nestedKind X.prog X.w) (show X.A.in1.units + 8 < cLine from Nat.lt_of_le_of_lt (show X.A.units + 1 + 8 ≤ X.A.units + 64 by omega) hu) ⟨kb.is I, kb.1⟩ hd dd ?_
  rw [atKey_withT]
  exact ⟨_, H, I.tok _, (show RelV (.bl (!decide (k ∈ xs.map fun x : NestedKey × Addr => x.1))) (.bool (!decide (k ∈ xs.map fun x : NestedKey × Addr => x.1))) from rfl), q⟩
def sNPutQ (w : World) (K : PySem.W.Frag) (td ty tv : TE) : TS := fun D σ H => tv σ H fun v H1 => td σ H1 fun x H2 => ty σ H2 fun y H3 => ∃ a xs b k, v = .bl true ∧ x = .ref a ∧ y = .ref b ∧ H3 a = some (NDo w a xs) ∧ (∀ z ∈ xs, KeyQ K H3 z.1 z.2) ∧ KeyQ K H3 k b ∧ k ∉ xs.map (·.1) ∧ xs.length < sizeLine ∧ D.nx σ (upd H3 a (NDo w a (xs ++ [(k, b)])))
variable {o i e value : Expr} {pos pos' tpos : Pos} {td ty tv : TE}
theorem ps_nputQ {w : World} (hw : X.w = w) (hu : X.A.units + 64 < cLine) (ho : PE X o td) (hi : PE X i ty) (hv : PE X value tv) (hs : swapsWith value (some (.Subscript o i pos')) pos.line X.env = pure false) :
    PS X (.Assign [.Subscript o i pos'] value pos) (sNPutQ w X.K td ty tv) := by
  subst hw
  refine ⟨fun pins s σ H D I h => ?_⟩
  refine wpAny_Assign_Subscript (thn (hv.run pins s σ H _ I h) fun r s1 ⟨v, H1, I1, rv, q1⟩ => thn (ho.run pins s1 σ H1 _ I1 q1) fun u s2 ⟨x, H2, I2, rx, q2⟩ => thn (hi.run pins s2 σ H2 _ I2 q2) fun iv s3 ⟨y, H3, I3, ry, a, xs, b, k, e1, e2, e3, e, ks, kb, kn, lz, q3⟩ => ?_) hs
  subst e1 e2 e3
  cases rv
  cases rx
  cases ry
  obtain ⟨z, hd, dd⟩ := ndq_at I3 e ks
  refine wpAny_setItem_heap (knd := nestedKind X.prog X.w) (hsz := by rw [withT_len]; exact z) (show X.A.in1.units + 8 < cLine from Nat.lt_of_le_of_lt (show X.A.units + 1 + 8 ≤ X.A.units + 64 by omega) hu) ⟨kb.is I3, kb.1⟩ dd fun h' dd' hs => ⟨σ, _, ?_, q3⟩
  have no : atKey (withT xs) k = none := by
    have z := atKey_withT k xs
    rw [decide_eq_false kn] at z
    exact Option.isSome_eq_false_iff.mp z |> Option.isNone_iff_eq_none.mp
  rw [storedH_new no, show withT xs ++ [(k, b, Value.bool true)] = withT (xs ++ [(k, b)]) by unfold withT; rw [List.map_append]; rfl] at dd'
  have he : ∃ q, h'.get? a = some q := let ⟨q, _, _, hq, _⟩ := dd'; ⟨q, hq⟩
  exact d_write I3 (by rw [e]; exact True.intro) hs he (ndo_ok (by rw [List.length_append]; exact lz) hd dd')
def tNDispQ (w : World) (K : PySem.W.Frag) (tk tv : TE) : TE := fun σ H Q => ∀ p, H p = none → tk σ (upd H p (NDo w p [])) fun x H1 => tv σ H1 fun y H2 => H2 p = some (NDo w p []) ∧ ∃ b k, x = .ref b ∧ y = .bl true ∧ KeyQ K H2 k b ∧ Q (.ref p) (upd H2 p (NDo w p [(k, b)]))
theorem pe_ndispQ {w : World} (hw : X.w = w) {ke ve : Expr} {tk tv : TE} (hu : X.A.units + 64 < cLine) (hk : PE X ke tk) (hv : PE X ve tv) : PE X (.Dict [some ke] [ve] pos) (tNDispQ w X.K tk tv) := by
  subst hw
  refine ⟨fun pins s σ H Q I q => ?_⟩
  have hn := I.hok.fresh (Nat.le_refl s.heap.objs.size)
  have I1 := I.laid (a := s.heap.objs.size) (o := NDo X.w s.heap.objs.size []) (h' := s.heap.push { cls := .type "dict", data := .dict #[] }) (t' := s.toks) (fun _ _ q => Heap.get?_push_of_some _ q) (Nat.le_refl _) (nd_empty s.heap I.big)
  refine wpAny_Dict_walkH (knd := nestedKind X.prog X.w) (show X.A.units + 8 < cLine by omega) rfl rfl (fun z => by cases z) (show 1 ≤ 15 by decide) (thn ((pps_cons hk hv pps_nil).run pins _ σ _ (fun ps H2 => match ps with
      | [(x, y)] => H2 s.heap.objs.size = some (NDo X.w s.heap.objs.size []) ∧ ∃ b k, x = .ref b ∧ y = .bl true ∧ KeyQ X.K H2 k b ∧ Q (.ref s.heap.objs.size) (upd H2 s.heap.objs.size (NDo X.w s.heap.objs.size [(k, b)]))
      | _ => False) I1 (q _ hn)) fun ws s2 hw => ?_)
  obtain ⟨ps, H2, I2, rel, hw⟩ := hw
  cases rel with
  | nil => exact hw.elim
  | @cons p u ps us h1 r =>
    cases r with
    | cons _ _ => exact hw.elim
    | nil =>
      obtain ⟨x, y⟩ := p
      obtain ⟨v1, v2⟩ := u
      obtain ⟨e, b, k, rfl, rfl, kb, q2⟩ := hw
      obtain ⟨r1, r2⟩ := h1
      obtain rfl : v1 = .ref b := r1
      obtain rfl : v2 = .bool true := r2
      obtain ⟨z, hd, dd⟩ := ndq_at I2 e (fun _ z => nomatch z)
      refine ⟨[(k, b, .bool true)], ⟨rfl, rfl, ⟨kb.is I2, kb.1⟩, True.intro⟩, dd, fun h' tk dd' hs => ⟨.ref s.heap.objs.size, _, ?_, rfl, q2⟩⟩
      have he : ∃ q, h'.get? s.heap.objs.size = some q := let ⟨q, _, _, hq, _⟩ := dd'; ⟨q, hq⟩
      exact d_write I2 (by rw [e]; exact True.intro) hs he (ndo_ok (xs := [(k, b)]) (show 1 ≤ sizeLine by decide) hd dd')
end
section
variable {fam : Fam} {X : Cx} {E : XK} {e a b : Expr} {pos p p2 py : Pos} {te : TD} {i : Nat} {y : Str}
theorem nds_keys {w : World} {K : PySem.W.Frag} {H F : Hp} {p : Addr} {ks : List D} {xs : List (NestedKey × Addr)} (S : Same F H) (q : Dqs K F (xs.map fun x => V.ref x.2) ks) (r : ks.map kN = xs.map (fun x => some x.1)) (l : ∀ x ∈ xs, x.1.depth ≤ 8) : ∀ x ∈ xs, KeyQ K H x.1 x.2 := fun x hx => by
  obtain ⟨j, hj, ej⟩ := List.getElem_of_mem hx
  have e1 : xs[j]? = some x := by rw [List.getElem?_eq_getElem hj, ej]
  obtain ⟨d, ed, dq⟩ := q.atV (i := j) (v := .ref x.2) (by rw [List.getElem?_map, e1] <;> rfl)
  have e2 := congrArg (·[j]?) r
  simp only [List.getElem?_map, ed, e1, Option.map_some, Option.some.injEq] at e2
  exact ⟨l x hx, F, d, S, dq, e2⟩
theorem IV.ndUpd {K : PySem.W.Frag} {B : Bs} {A : List Addr} {σ : St} {H F : Hp} {Γ : Env'} (I : IV fam K B A σ H F Γ) {ks ks' : List D} {o : HO} {p : Addr} (e : Γ[i]? = some (some (.nds ks))) (ev : σ[i]? = some (some (.ref p))) (oc : NdC fam.w K (upd H p o) F p ks') : IV fam K B A σ (upd H p o) F (Γ.set i (some (.nds ks'))) := by
  obtain ⟨v, ev2, q, rfl, h0, f0, na, xs, eo, _⟩ := I.var i _ e
  rw [ev] at ev2
  cases ev2
  have no : ∀ j, ownAt (Γ.set i none) j → σ[j]? ≠ some (some (.ref p)) := fun j oj => by
    rcases own_set oj with ⟨_, _, z, zo⟩ | ⟨nj, oj⟩
    · cases z <;> cases zo
    · rw [← ev]
      exact I.dis j i nj oj ⟨_, e, rfl⟩
  have I2 := ((I.drop i).poke (o := o) f0 h0 na no (fun o2 e2 => by rw [eo] at e2; cases e2; exact ndo_code)).tell (s := .nds ks') ev ⟨p, rfl, h0, f0, na, oc⟩ fun _ j nj oj => no j oj
  rwa [List.set_set] at I2
/-- {k: True} -/
def dNdisp (te : TD) : TD := fun Γ Kd Ke => te Γ (fun s Γ1 => match s.d? with
  | some (.tuple ds) => ∃ k, kN (.tuple ds) = some k ∧ k.depth ≤ 8 ∧ Kd (.nds [.tuple ds]) Γ1
  | _ => False) Ke
theorem pd_ndisp {ve : Expr} (hw : X.w = fam.w) (hu : X.A.units + 64 < cLine) (hk : PD fam X E e te) (hv : PE X ve (tC (.bl true))) : PD fam X E (.Dict [some e] [ve] pos) (dNdisp te) := by
  obtain ⟨tk, pk, hk⟩ := hk
  refine ⟨_, pe_ndispQ hw hu pk hv, fun B A σ H F Γ Kd Ke Q I t w fin => ?_⟩
  intro p np
  have I1 := I.fresh (o := NDo fam.w p []) np
  have h0 := I.none0 np
  have na := I.noneA np
  have I2 := I1.guard (p := p) (by intro _ z; unfold NDo at z; cases z) upd_same (I.noneF np) na (I1.var |> fun _ => I.freshOwn np)
  have notM : p ∉ B.M := fun z => na (I.mA _ z)
  have eH : ∀ a o, B.H0 a = some o → (B.with p (NDo fam.w p [])).H0 a = some o := fun a o z => by
    show upd B.H0 p _ a = some o
    rw [upd_ne (fun c => by rw [c, h0] at z; cases z)]
    exact z
  refine hk (B.with p (NDo fam.w p [])) A σ _ F Γ _ _ _ I2 t (w.aside rfl rfl eH) fun s Γ1 v H1 F1 k S I3 r => ?_
  have ep : H1 p = some (NDo fam.w p []) := I3.keep p _ (by show upd B.H0 p _ p = _; exact upd_same) notM
  refine ⟨ep, ?_⟩
  match es : s.d?, k with
  | some (.tuple ds), k =>
    obtain ⟨kk, ek, dk, kd⟩ := k
    obtain ⟨F2, S2, I4, dq⟩ := r.give I3 es
    have f00 : B.F0 p = none := by
      cases z : B.F0 p with
      | none => rfl
      | some x =>
        have y2 := I.old p x z
        rw [I.noneF np] at y2
        cases y2
    have fp := I4.guardF f00
    have go := I4.guardOwn
    have I5 := (I4.unguard h0).poke (o := NDo fam.w p [(kk, match v with | .ref b => b | _ => 0)]) fp h0 na go (fun o2 e2 => by rw [ep] at e2; cases e2; exact ndo_code)
    cases dq with
    | @tup b xs ds a q =>
      have dq : Dq X.K F2 (.ref b) (.tuple ds) := .tup a q
      refine ⟨b, kk, rfl, rfl, ⟨dk, F2, _, I4.sub, dq, ek⟩, ?_⟩
      refine fin _ _ _ _ _ kd (S.trans S2) I5 ⟨⟨p, rfl, h0, fp, na, [(kk, b)], upd_same, .cons dq .nil, by simp [ek], fun x hx => by rw [List.mem_singleton.mp hx]; exact dk⟩, go⟩
/-- k not in d -/
def dNotInN (te : TD) (i : Nat) : TD := fun Γ Kd Ke => te Γ (fun s Γ1 => match s.d?, Γ1[i]? with
  | some (.tuple ds), some (some (.nds ks)) => ∃ k, kN (.tuple ds) = some k ∧ k.depth ≤ 8 ∧ Kd (bD (!decide (some k ∈ ks.map kN))) Γ1
  | _, _ => False) Ke
theorem notInN_run {tk : TE} (hk : ∀ (B : Bs) (A : List Addr) (σ : St) (H F : Hp) (Γ : Env') (Kd : KD) (Ke : KE) (Q : VK), IV fam X.K B A σ H F Γ → te Γ Kd Ke → XW X.K X.mg B Ke E →
    (∀ s Γ' v H' F', Kd s Γ' → Same F F' → IV fam X.K B A σ H' F' Γ' → RR fam X.K B A σ Γ' H' F' v s → Q v H') → tk σ H Q) : ∀ (B : Bs) (A : List Addr) (σ : St) (H F : Hp) (Γ : Env') (Kd : KD) (Ke : KE) (Q : VK), IV fam X.K B A σ H F Γ → dNotInN te i Γ Kd Ke → XW X.K X.mg B Ke E →
    (∀ s Γ' v H' F', Kd s Γ' → Same F F' → IV fam X.K B A σ H' F' Γ' → RR fam X.K B A σ Γ' H' F' v s → Q v H') → tOp (rNotInQ fam.w X.K) tk (tVar i) σ H Q := by
  intro B A σ H F Γ Kd Ke Q I t w fin
  refine hk B A σ H F Γ _ _ _ I t w fun s Γ1 v H1 F1 k S I1 r => ?_
  match es : s.d?, ei : Γ1[i]?, k with
  | some (.tuple ds), some (some (.nds ks)), k =>
    obtain ⟨kk, ek, dk, kd⟩ := k
    obtain ⟨F2, S2, I2, dq⟩ := r.give I1 es
    obtain ⟨u, eu, p, rfl, h0, f0, na, xs, eo, q, rr, l⟩ := I2.var i _ ei
    cases dq with
    | @tup b vs ds a q2 =>
      have dq : Dq X.K F2 (.ref b) (.tuple ds) := .tup a q2
      refine ⟨.ref p, eu, p, xs, b, kk, rfl, rfl, eo, nds_keys (w := fam.w) (p := p) I2.sub q rr l, ⟨dk, F2, _, I2.sub, dq, ek⟩, ?_⟩
      have em : decide (kk ∈ xs.map (·.1)) = decide (some kk ∈ ks.map kN) := by
        rw [rr]
        refine decide_eq_decide.mpr ⟨fun z => ?_, fun z => ?_⟩
        · obtain ⟨x, hx, rfl⟩ := List.mem_map.mp z
          exact List.mem_map.mpr ⟨x, hx, rfl⟩
        · obtain ⟨x, hx, e⟩ := List.mem_map.mp z
          exact List.mem_map.mpr ⟨x, hx, Option.some.inj e⟩
      rw [em]
      exact fin _ _ _ _ _ kd (S.trans S2) I2 (show Dq X.K F2 (.bl _) (.bool _) from .bl _)
theorem pt_notInN (hw : X.w = fam.w) (hu : X.A.units + 64 < cLine) (hk : PD fam X E e te) (hv : PE X (.Name y py) (tVar i)) (hm : behindInMarks .NotIn (.Name y py) = false := by with_unfolding_all rfl) : PTt fam X E (.Compare e [.NotIn] [.Name y py] pos) (dTest (dNotInN te i)) := by
  obtain ⟨tk, pk, hk⟩ := hk
  exact ⟨_, pt_cmpR (op_notInQ hw hu) pk hv hm, test_run (notInN_run hk)⟩
/-- d[k] = True, k not there -/
def dNput (i : Nat) (te : TD) : TDS := fun DD Γ => (∃ ks, Γ[i]? = some (some (.nds ks))) ∧ te Γ (fun s Γ1 => match s.d?, Γ1[i]? with
  | some (.tuple ds), some (some (.nds ks)) => ∃ k, kN (.tuple ds) = some k ∧ k.depth ≤ 8 ∧ some k ∉ ks.map kN ∧ ks.length < sizeLine ∧ DD.nx (Γ1.set i (some (.nds (ks ++ [.tuple ds]))))
  | _, _ => False) DD.er
theorem pd_nput {ve : Expr} {p1 : Pos} (hw : X.w = fam.w) (hu : X.A.units + 64 < cLine) (hv : PE X (.Name y py) (tVar i)) (hk : PD fam X E e te) (hve : PE X ve (tC (.bl true))) (hs : swapsWith ve (some (.Subscript (.Name y py) e p1)) pos.line X.env = pure false := by rfl) : PDs fam X E (.Assign [.Subscript (.Name y py) e p1] ve pos) (dNput i te) := by
  obtain ⟨tk, pk, hk⟩ := hk
  refine ⟨_, ps_nputQ hw hu hv pk hve hs, fun B A σ H F Γ DD D I t w o => ?_⟩
  obtain ⟨⟨ks0, e0⟩, t⟩ := t
  obtain ⟨u0, eu0, p, rfl, _⟩ := I.var i _ e0
  refine ⟨_, eu0, ?_⟩
  refine hk B A σ H F Γ _ _ _ I t w fun s Γ1 v H1 F1 k S I1 r => ?_
  match es : s.d?, ei : Γ1[i]?, k with
  | some (.tuple ds), some (some (.nds ks)), k =>
    obtain ⟨kk, ek, dk, nin, lz, kd⟩ := k
    obtain ⟨F2, S2, I2, dq⟩ := r.give I1 es
    obtain ⟨u, eu, p2, rfl, h0, f0, na, xs, eo, q, rr, l⟩ := I2.var i _ ei
    rw [eu0] at eu
    cases eu
    have ll : xs.length = ks.length := by
      have := congrArg List.length rr
      simpa using this.symm
    cases dq with
    | @tup b vs ds a q2 =>
      have dq : Dq X.K F2 (.ref b) (.tuple ds) := .tup a q2
      refine ⟨p, xs, b, kk, rfl, rfl, rfl, eo, nds_keys (w := fam.w) (p := p) I2.sub q rr l, ⟨dk, F2, _, I2.sub, dq, ek⟩, fun z => nin ?_, by rw [ll]; exact lz, ?_⟩
      · rw [rr]
        obtain ⟨x, hx, rfl⟩ := List.mem_map.mp z
        exact List.mem_map.mpr ⟨x, hx, rfl⟩
      · refine o.nx _ _ _ _ kd (S.trans S2) (I2.ndUpd ei eu0 ⟨xs ++ [(kk, b)], upd_same, ?_, ?_, fun x hx => ?_⟩)
        · rw [List.map_append]
          exact q.app (.cons dq .nil)
        · rw [List.map_append, List.map_append, rr]
          simp [ek]
        · rcases List.mem_append.mp hx with h | h
          · exact l x h
          · rw [List.mem_singleton.mp h]
            exact dk
/-- sorted(d) -/
def dSortN (i : Nat) : TD := fun Γ Kd _ => match Γ[i]? with
  | some (some (.nds ks)) => sortOk ks ∧ Kd (.own (.list (sortD ks))) Γ
  | _ => False
theorem pd_sortN {pb : Pos} (hw : X.w = fam.w) (hc : X.calm = true) (hu : X.A.units + 64 < cLine) (hg : Gl X "sorted") (hm : X.mg "sorted" = none) (hv : PE X (.Name y py) (tVar i)) (hs : starEach [.Name y py] X.env = (false, eval (.Name y py) X.env) :: starEach [] X.env := by rfl)
    (hpl : (backTo pos (starEach ([] : List Expr) X.env)).any (·.1) = false := by rfl) : PD fam X E (.Call (.Name "sorted" pb) [.Name y py] [] pos) (dSortN i) := by
  refine ⟨_, L2.pe_callB (cr_sortedN hw hc hu) hg hm (by decide +kernel) (pa_cons hv pa_nil hs) (by decide) (by decide) hs hpl, fun B A σ H F Γ Kd Ke Q I t w fin => ?_⟩
  have t : (match Γ[i]? with
    | some (some (.nds ks)) => sortOk ks ∧ Kd (.own (.list (sortD ks))) Γ
    | _ => False) := t
  match ei : Γ[i]?, t with
  | some (some (.nds ks)), t =>
    obtain ⟨⟨f, al, so, de⟩, k⟩ := t
    obtain ⟨u, eu, p, rfl, h0, f0, na, xs, eo, q, rr, l⟩ := I.var i _ ei
    exact ⟨_, eu, p, xs, ks, rfl, eo, Dqs.dp ks _ f (q.up I.sub), al, so, de, fun z nz => end_lst (Kd := fun s => Kd s Γ) I (fun s v H' F' k S' I' rr => fin _ _ _ _ _ k S' I' rr) (srt_dqs q) k nz⟩
/-- a list, a tuple as a test -/
def dTruL (i : Nat) : TTt := fun Γ Kt _ => match getB Γ (.var i) with
  | some (.list ds) => Kt (!ds.isEmpty) Γ
  | some (.tuple ds) => Kt (!ds.isEmpty) Γ
  | _ => False
theorem dqs_empty {K : PySem.W.Frag} {H : Hp} {vs : List V} {ds : List D} (q : Dqs K H vs ds) : vs.isEmpty = ds.isEmpty := by cases q <;> rfl
theorem pt_truthL (hv : PE X (.Name y py) (tVar i)) (he : ∀ whole, isTrue (.Name y py) X.env whole = (do let v ← whole; standAt (Expr.Name y py).pos; holding [v] (truthy v)) := by intro _; rfl) : PTt fam X E (.Name y py) (dTruL i) := by
  refine ⟨_, pt_truth hv he, fun B A σ H F Γ Kt Ke Q I t w fin => ?_⟩
  have t : (match getB Γ (.var i) with
    | some (.list ds) => Kt (!ds.isEmpty) Γ
    | some (.tuple ds) => Kt (!ds.isEmpty) Γ
    | _ => False) := t
  have at_ : ∀ d, getB Γ (.var i) = some d → ∃ v, σ[i]? = some (some v) := fun d g => by
    rcases getB_at g with e | e | e
    · obtain ⟨v, ev, _⟩ := I.var i _ e
      exact ⟨v, ev⟩
    · obtain ⟨v, ev, _⟩ := I.var i _ e
      exact ⟨v, ev⟩
    · obtain ⟨v, ev, _⟩ := I.var i _ e
      exact ⟨v, ev⟩
  match g : getB Γ (.var i), t with
  | some (.list ds), t =>
    obtain ⟨v, ev⟩ := at_ _ g
    obtain ⟨p, vs, rfl, hq, q⟩ := HdR.list (h := .var i) I (show HdR X.K F σ v (.var i) from ev) g
    refine ⟨_, ev, _, .inl ⟨vs, hq, rfl⟩, ?_⟩
    rw [dqs_empty q]
    exact fin _ _ _ _ t (Same.refl _) I
  | some (.tuple ds), t =>
    obtain ⟨v, ev⟩ := at_ _ g
    obtain ⟨p, vs, rfl, hq, q⟩ := HdR.tup (h := .var i) I (show HdR X.K F σ v (.var i) from ev) g
    refine ⟨_, ev, _, .inr (.inl ⟨vs, hq, rfl⟩), ?_⟩
    rw [dqs_empty q]
    exact fin _ _ _ _ t (Same.refl _) I
end
end L2.Dl

set_option Elab.async false
set_option linter.all false
set_option maxRecDepth 100000
set_option maxHeartbeats 8000000
namespace L2.Dl
open PySem PySem.Spec PyProof.Rows L2.Sl
section
variable {fam : Fam} {X : Cx} {E : XK} {pos : Pos}
/-- {} -/
def dNew : TD := fun Γ Kd _ => Kd (.own (.dict [])) Γ
theorem pd_dnew : PD fam X E (.Dict [] [] pos) dNew :=
  ⟨_, pe_dnewK, fun B A σ H F Γ Kd Ke Q I t w fin => fun p np => end_dic (Kd := fun s => Kd s Γ) I (fun s v H' F' k S' I' rr => fin _ _ _ _ _ k S' I' rr) (ps := []) (kvs := []) .nil t np⟩
end
end L2.Dl

set_option Elab.async false
set_option linter.all false
set_option maxRecDepth 100000
set_option maxHeartbeats 8000000
/-! repr of data -/
namespace L2.Dl
open PySem PySem.Spec PyProof.Rows L2.Sl
/-- data whose text is told: nothing with a dict within, or the empty dict -/
def tellsD (d : D) : Prop := d.showable = true ∧ ((flat d = true ∧ d.hasDict = false) ∨ d = .dict []) ∧ d.depth ≤ 60 ∧ d.shown.length ≤ sizeLine
def rReprD (K : PySem.W.Frag) : List V → Hp → VK → Prop := fun xs H Q => ∃ (x : V) (d : D), xs = [x] ∧ Dq K H x d ∧ tellsD d ∧ Q (.str d.shown) H
theorem call_reprD {X : Cx} (hgu : X.A.guards = some []) {k : Nat} (hr : Room k X.A) : CallR X (.builtin "repr") (rReprD X.K) := by
  intro pins s σ H xs us Q I r h
  obtain ⟨x, d, rfl, q, ⟨t1, t2, t3, t4⟩, c⟩ := h
  have far : (∃ a, x = .ref a) → flat d = true ∧ d.hasDict = false → wpAny (model X.prog X.w) X.A (call (.builtin "repr") us) (fun u s' => ∃ v H', Inv X pins σ H' s' ∧ RelV v u ∧ Q v H') X.xe s := fun hx hf =>
    (call_repr hgu hr) pins s σ H _ us Q I r ⟨x, d, rfl, Dq.dp d x hf.1 q, hx, t1, hf.2, t3, t4, c⟩
  cases q with
  | non =>
    obtain ⟨u, rfl, ru⟩ := vals1 r
    cases ru
    exact PySem.P.repr_of_none ⟨.str _, H, I.tok _, ⟨_, rfl⟩, by rw [PyData.shown_none] at c; exact c⟩
  | bl b =>
    obtain ⟨u, rfl, ru⟩ := vals1 r
    cases ru
    refine PySem.P.repr_of_bool ⟨.str _, H, I.tok _, ⟨_, rfl⟩, by rw [PyData.shown_bool] at c; exact c⟩
  | int i =>
    obtain ⟨u, rfl, t, rfl⟩ := vals1 r
    exact PySem.P.repr_of_int (of_decide_eq_true t1) ⟨.str _, H, I.tok _, ⟨_, rfl⟩, by rw [PyData.shown_int] at c; exact c⟩
  | str z =>
    obtain ⟨u, rfl, t, rfl⟩ := vals1 r
    rw [PyData.shown_str] at c t4
    exact PySem.P.repr_of_str ⟨.str _, H, I.tok _, ⟨_, rfl⟩, c⟩ t4
  | lst a b => exact far ⟨_, rfl⟩ (t2.resolve_right fun z => by cases z)
  | tup a b => exact far ⟨_, rfl⟩ (t2.resolve_right fun z => by cases z)
  | dic a b =>
    rcases t2 with ⟨z, _⟩ | z
    · cases z
    · cases z
      cases b
      obtain ⟨u, rfl, ru⟩ := vals1 r
      cases ru
      obtain ⟨_, y, vs, rk, o, es, ep, e, ex, ed, _, pr, _⟩ := (show ObjOk X.prog X.w H s.heap _ (.dK []) from I.hok _ _ a)
      cases rk
      have e0 : es.toList = [] := by
        cases h : es.toList with
        | nil => rfl
        | cons x xs =>
          rw [h] at pr
          have := pr.length
          cases this
      have rd : Reads s.heap (.ref _) (.dict []) [_] := .dict (as := []) (bs := []) e ex.1 ed (by rw [e0]; exact .nil) (by rw [e0]; exact .nil)
      have hu := hr.units
      exact repr_of_reads' rd t1 (fun _ m => by rw [List.mem_singleton] at m; rw [← m] at y; simp at y) hgu (by show X.A.units + (0 + 1 + 1) < cLine; omega) (fun _ _ e => e) (fun h2 u tk kk => ⟨.str _, H, I.kept (t' := tk) kk, ⟨u, rfl⟩, c⟩) t4
def gRepr (d : D) (k : Slot → Prop) : Prop := tellsD d ∧ k (.imm (.str d.shown))
theorem dc_repr {fam : Fam} {X : Cx} (hgu : X.A.guards = some []) {k : Nat} (hr : Room k X.A) : DC1 fam X (.builtin "repr") gRepr :=
  ⟨_, call_reprD hgu hr, fun B A σ H F Γ x h d Kd Q I r e g fin => ⟨x, d, rfl, r.dq I e, g.1, end_sc I fin (.str _) g.2⟩⟩
end L2.Dl

set_option Elab.async false
set_option linter.all false
set_option maxRecDepth 100000
set_option maxHeartbeats 4000000
/-! defs that make lambdas and draw, run where nothing is being shown -/
namespace L2.Sl
open PySem PySem.Spec PyProof.Rows
theorem FunC.okG {P : Program} {w : World} {K : PySem.W.Frag} {mg : Str → Option Value} {base : Heap} {x qual : Str} {st : Stmt} {f c : Addr} {fd : FuncData} {N ps : List Str} {k : Nat} {sp : Sp} (F : FunC K x qual st f fd c) (S : FnScope N ps (defScope st)) (len : ∀ vs H Q E, sp vs H Q E → vs.length = ps.length)
    (bodyOk : ∀ (A : Around) (outer : List Env) (s : Shared) (H : Hp) (vs : List V) (Q : VK) (E : XK), A.guards = some [] → Room k (A.deeper (envOfC qual (defScope st) s.heap.objs.size f (.ref c))) → sp vs H Q E →
      ∃ t, PSs (cxOf CX0 P w K mg base N qual (defScope st) f (.ref c) A outer s H E).nox (defBody st) t ∧ t { nx := fun _ H2 => Q .non H2, rt := Q } (start N vs) H) : FnG P w K mg base CX0 (k + 1) f fd ps sp := by
  obtain ⟨oc, od, kV, doc, pm, an, ct, osl, rfl, lk, hcd⟩ := F.ex
  refine fnG_of lk hcd S len fun A outer s H vs Q E hg hr z => ?_
  obtain ⟨t, y, q⟩ := bodyOk A outer s H vs Q E hg hr z
  exact ⟨t, y.nox, q⟩
end L2.Sl
namespace L2.Dl
open PySem PySem.Spec PyProof.Rows L2.Sl
section
variable {P : Program} {w : World} {K : PySem.W.Frag} {mg : Str → Option Value} {base : Heap} {fam : Fam} {T : List (Addr × Str)}
theorem okMLG {x qual : Str} {st : Stmt} {f c : Addr} {fd : FuncData} {N ps : List Str} {n0 : Str} {k : Nat} {C : CML} {t : TDS} (F : FunC K x qual st f fd c) (S : FnScope N (n0 :: ps) (defScope st)) (hle : ps.length + 1 ≤ N.length)
    (hb : ∀ (A : Around) (outer : List Env) (s : Shared) (H : Hp) (E : XK), A.guards = some [] → Room k (A.deeper (envOfC qual (defScope st) s.heap.objs.size f (.ref c))) →
      PDss fam (cxOf CX0 P w K mg base N qual (defScope st) f (.ref c) A outer s H E).nox E0 (defBody st) t)
    (hc : ∀ M ds Kd, ds.length = ps.length → C M ds Kd → t (endM Kd nE) (envM N.length M ds)) : FnG P w K mg base CX0 (k + 1) f fd (n0 :: ps) (spML fam K ps.length C) := by
  refine F.okG S (fun vs H Q E h => ?_) (fun A outer s H vs Q E hgu hr h => ?_)
  · obtain ⟨v0, vr, A, N, F, ds, Kd, rfl, l, _⟩ := h
    exact congrArg (· + 1) l
  · obtain ⟨v0, vr, A2, M, F0, ds, Kd, rfl, l, SF, ft, fA, inv, dr, q, c0, post⟩ := h
    obtain ⟨ts, p, run⟩ := hb A outer s H E hgu hr
    refine ⟨ts, p, ?_⟩
    have I0 : IV fam K ⟨noTab H, F0, A2⟩ A2 (start N (v0 :: vr)) H F0 (envM N.length M ds) := by
      have el : (envD (N.length - 1) ds).length + 1 = N.length := by
        unfold envD
        rw [List.length_append, List.length_map, List.length_replicate, ← q.len, l]
        omega
      refine ⟨SF, fun a o e _ => (noTab_at e).1, fun a o e => .inl e, Same.refl _, ?_, fun i s e => ?_, fun i j _ oi _ => ?_, fun _ z => z, fun a m => ⟨fam.trk dr a m, fA a m, .inr m⟩, fun i j n m ei ej => ?_, inv, ft, fun _ => noTab_FD⟩
      · rw [start_len (by rw [List.length_cons, l]; exact hle)]
        exact el.symm
      · cases i with
        | zero =>
          cases e
          exact ⟨v0, rfl, dr⟩
        | succ i =>
          obtain ⟨d, ed, rfl⟩ := env_at (show (envD (N.length - 1) ds)[i]? = some (some s) from e)
          obtain ⟨v, ev, qv⟩ := q.at_ ed
          exact ⟨v, start_at (i := i + 1) (vs := v0 :: vr) ev, qv⟩
      · obtain ⟨d, e, o⟩ := oi
        cases i with
        | zero =>
          cases e
          cases o
        | succ i =>
          obtain ⟨_, _, rfl⟩ := env_at (show (envD (N.length - 1) ds)[i]? = some (some _) from e)
          cases o
      · cases i with
        | succ i =>
          obtain ⟨_, _, z⟩ := env_at (show (envD (N.length - 1) ds)[i]? = some (some _) from ei)
          cases z
        | zero =>
          cases j with
          | zero => rfl
          | succ j =>
            obtain ⟨_, _, z⟩ := env_at (show (envD (N.length - 1) ds)[j]? = some (some _) from ej)
            cases z
    have fin : ∀ {s : Slot} {Γ : Env'} {v : V} {σ : St} {H' F' : Hp}, drw0 Γ (Kd s) → Same F0 F' → IV fam K ⟨noTab H, F0, A2⟩ A2 σ H' F' Γ → RR fam K ⟨noTab H, F0, A2⟩ A2 σ Γ H' F' v s → (∀ ks, s ≠ .nds ks) → Q v H' := fun {s Γ v σ H' F'} k S I r ns => by
      have k : (match Γ[(0 : Nat)]? with
        | some (some (Slot.drw n)) => Kd s n
        | _ => False) := k
      match e : Γ[(0 : Nat)]?, k with
      | some (some (.drw n)), k =>
        obtain ⟨u, eu, d⟩ := I.var 0 _ e
        obtain ⟨a1, r1, e1, e2⟩ := fam.ref dr
        obtain ⟨a2, r2, e3, e4⟩ := fam.ref d
        rw [e1] at e3
        cases e3
        rw [e4, ← e2] at d
        refine post _ _ _ _ _ k (fun a o e m => I.keep a o e m) S I.sub (fun a o e => I.new a o e) I.ft (fun a m => (I.tA a m).2.1) I.inv d ?_
        cases s with
        | imm d => exact r
        | own d =>
          obtain ⟨⟨p, rfl, b1, b2, b3, oc⟩, _⟩ := r
          exact ⟨p, rfl, b1, b2, b3, oc⟩
        | lent d => exact r.elim
        | drw n => exact r.elim
        | nds ks => exact absurd rfl (ns ks)
    refine run ⟨noTab H, F0, A2⟩ A2 _ H F0 _ (endM Kd nE) _ I0 (hc M ds Kd (q.len.symm.trans l) c0) xw_nE ⟨fun Γ σ H' F' k S I => ?_, fun s Γ v σ H' F' k S I r => ?_, fun _ _ _ _ z => z.elim, fun _ _ _ _ z => z.elim⟩
    · exact fin k S I (show Dq K F' .non .none from .non) (fun _ z => nomatch z)
    · exact fin (toldS_of k).1 S I r (toldS_of k).2
end
section
variable {fam : Fam} {X : Cx} {E : XK} {e : Expr} {es : List Expr} {pos : Pos} {tr : TAr} {k i : Nat} {f : Addr} {fd : FuncData} {ps : List Str} {x y : Str} {p py : Pos} {CX : CXT} {T : List (Addr × Str)}
theorem pd_callMLG {C : CML} (L : LamFam fam T) (G : FnG X.prog X.w X.K X.mg X.base CX k f fd ps (spML fam X.K es.length C)) (hgu : X.A.guards = some []) (hr : Room k X.A) (hg : Gl X x) (hm : X.mg x = some (.ref f)) (hk : PySem.W.keepIn X.K (.ref f) = true) (hb : Binds X.K fd ps []) (hx : Passes CX X E)
    (hv : PE X (.Name y py) (tVar i)) (ha : PAr fam X E es tr) (hdb : (x == ("__debug__" : Str)) = false := by decide) (he : starEach (.Name y py :: es) X.env = (false, eval (.Name y py) X.env) :: starEach es X.env := by rfl) (hpl : (backTo pos (starEach es X.env)).any (·.1) = false := by rfl) :
    PD fam X E (.Call (.Name x p) (.Name y py :: es) [] pos) (dCallML i es.length C tr) := by
  obtain ⟨ts, pa, ha⟩ := ha
  refine ⟨_, pe_callG G hgu hr hg hm hk hb .nil hx (pa_cons hv pa he) hdb he hpl, fun B A σ H F Γ Kd Ke Q I t w fin => ?_⟩
  obtain ⟨⟨N0, e0⟩, t⟩ := t
  obtain ⟨v0, ev, _⟩ := I.var i _ e0
  refine ⟨v0, ev, ?_⟩
  refine ha B A σ H F Γ _ _ _ I t w fun ds Γ1 vs H1 F1 k S I1 q => ?_
  show spML fam X.K es.length C (v0 :: vs ++ []) H1 Q E
  rw [List.append_nil]
  match e1 : Γ1[i]?, k with
  | some (some (.drw N)), k =>
    obtain ⟨u, eu, d⟩ := I1.var i _ e1
    rw [ev] at eu
    cases eu
    refine ⟨v0, vs, A, N, F1, ds, _, rfl, q.len.trans k.1, I1.sub, I1.ft, (fun a m => (I1.tA a m).2.1), I1.inv, d, q, k.2, fun s N' v H' F' ks S1 S2 S3 nw ft fA inv d' r => ?_⟩
    refine fin _ _ _ _ _ ks (S.trans S2) (I1.callML L e1 ev S1 S2 S3 nw ft fA inv d') ?_
    cases s with
    | imm x => exact r
    | own x =>
      obtain ⟨q, rfl, n, f, na, oc⟩ := r
      refine ⟨⟨q, rfl, I1.none0L L n na, f, na, oc⟩, fun j oj => ?_⟩
      rcases own_set oj with ⟨_, _, z, zo⟩ | ⟨_, oj⟩
      · cases z <;> cases zo
      · exact I1.freshOwnL n j oj
    | lent x => exact r.elim
    | drw n => exact r.elim
    | nds ks => exact r.elim
end
end L2.Dl

set_option Elab.async false
set_option linter.all false
set_option maxRecDepth 100000
set_option maxHeartbeats 4000000
/-! a call by keywords, the two the other way about -/
namespace L2.Dl
open PySem PySem.Spec PyProof.Rows L2.Sl
section
variable {fam : Fam} {X : Cx} {E : XK} {e a b : Expr} {es : List Expr} {kws : List Keyword} {ta : TD} {tr : TAr} {kpos pos p : Pos} {nm : Option Str} {k : Nat} {f : Addr} {fd : FuncData} {ps ks : List Str} {x : Str} {CX : CXT}
def PKr (fam : Fam) (X : Cx) (E : XK) (kws : List Keyword) (t : TAr) : Prop := ∃ te : TA, PK X kws te ∧ ∀ (B : Bs) (A : List Addr) (σ : St) (H F : Hp) (Γ : Env') (Ka : List D → Env' → Prop) (Ke : KE) (Q : List V → Hp → Prop), IV fam X.K B A σ H F Γ → t Γ Ka Ke → XW X.K X.mg B Ke E →
  (∀ ds Γ' vs H' F', Ka ds Γ' → Same F F' → IV fam X.K B A σ H' F' Γ' → Dqs X.K F' vs ds → Q vs H') → te σ H Q
theorem pkr_nil : PKr fam X E [] aNil := ⟨_, pk_nil, fun B A σ H F Γ Ka Ke Q I t w fin => fin _ _ _ _ _ t (Same.refl _) I .nil⟩
theorem pkr_cons (h : PD fam X E e ta) (hr : PKr fam X E kws tr) : PKr fam X E (⟨nm, e, kpos⟩ :: kws) (aCons ta tr) := by
  obtain ⟨te, p, h⟩ := h
  obtain ⟨tre, pr, hr⟩ := hr
  refine ⟨_, pk_cons p pr, fun B A σ H F Γ Ka Ke Q I t w fin => ?_⟩
  refine h B A σ H F Γ _ Ke _ I t w fun s Γ1 v H1 F1 k S1 I1 r => ?_
  match e : s.d?, k with
  | some d, k =>
    obtain ⟨F1', S1', I1', q1⟩ := r.give I1 e
    exact hr B A σ H1 F1' Γ1 _ Ke _ I1' k w fun ds Γ2 vs H2 F2 k2 S2 I2 q2 => fin _ _ _ _ _ k2 ((S1.trans S1').trans S2) I2 (.cons (q1.up S2) q2)
theorem kbnSw {K : PySem.W.Frag} {x qual : Str} {st : Stmt} {f : Addr} {fd : FuncData} {p1 p2 : Str} (F : Fun K x qual st f fd)
    (h : ∀ (kV doc pm : Value) (an : Option Addr) (cdv ct a b : Value), bindArgs (PySem.W.fnOf x qual (defArgs st) (defBody st) (defScope st) .none kV doc pm an cdv ct) ⟨[], [p2, p1].zip [a, b]⟩ = pure ([p1, p2].zip [b, a])) : KBn K fd [p1, p2] 0 [p2, p1] (fun _ us => swU1 us) (fun _ vs => swV1 vs) := by
  refine ⟨fun s us ws _ hu hw => ?_, fun _ r2 => Vals.sw r2⟩
  obtain ⟨oc, od, kV, doc, pm, an, cdv, ct, osl, rfl, lk, hcd⟩ := F.ex
  match us, ws, hu, hw with
  | [], [a, b], _, _ => exact .of_eq (h kV doc pm an cdv ct a b)
def dCallSw (C : CD) (t : TAr) : TD := fun Γ Kd Ke => t Γ (fun ds Γ1 => match ds with
  | [a, b] => C [b, a] (fun s => Kd s Γ1) Ke
  | _ => False) Ke
theorem pd_callSw {C : CD} {p1 p2 : Str} (G : FnOk X.prog X.w X.K X.mg X.base CX k f fd [p1, p2] (spD X.K X.mg 2 C)) (hr : Room k X.A) (hg : Gl X x) (hm : X.mg x = some (.ref f)) (hk : PySem.W.keepIn X.K (.ref f) = true) (hb : KBn X.K fd [p1, p2] 0 [p2, p1] (fun _ us => swU1 us) (fun _ vs => swV1 vs)) (hx : Passes CX X E) (ha : PKr fam X E kws tr)
    (hall : (backToKw pos (keywordEach kws X.env)).all (·.1.isSome) = true := by rfl) (hks : (backToKw pos (keywordEach kws X.env)).filterMap (·.1) = [p2, p1] := by rfl) (hdb : (x == ("__debug__" : Str)) = false := by decide)
    (hpl : ((backTo pos (starEach [] X.env)).any (·.1) || (backToKw pos (keywordEach kws X.env)).any (·.1.isNone)) = false := by rfl) : PD fam X E (.Call (.Name x p) [] kws pos) (dCallSw C tr) := by
  obtain ⟨ts, pa, ha⟩ := ha
  refine ⟨_, pe_callKw G hr hg hm hk hb hx pa hall hks hdb hpl, fun B A σ H F Γ Kd Ke Q I t w fin => ?_⟩
  refine ha B A σ H F Γ _ _ _ I t w fun ds Γ1 vs H1 F1 k S I1 q => ?_
  match ds, q, k with
  | [d1, d2], .cons (v := v1) q1 (.cons (v := v2) q2 .nil), k =>
    refine ⟨rfl, ?_⟩
    show spD X.K X.mg 2 C [v2, v1] H1 Q E
    exact ⟨F1, [d2, d1], _, Ke, rfl, I1.sub, I1.ft, .cons q2 (.cons q1 .nil), k, fun s v H' F' ks S1 S2 S3 ft nw r => fin _ _ _ _ _ ks (S.trans S2) (I1.call S1 S2 S3 ft nw) (RO.rr I1 r), XW.call I1 w⟩
end
end L2.Dl

set_option Elab.async false
set_option linter.all false
set_option maxRecDepth 100000
set_option maxHeartbeats 4000000
/-! isinstance of a held exception and a row of classes -/
namespace L2.Sl
open PySem PySem.W PySem.Spec PyProof.Rows
def rIsHT (K : PySem.W.Frag) : List V → Hp → VK → Prop := fun xs H Q => ∃ (a D dd tp : Addr) (fs : List (Str × V)) (cs : List V) (ws : List Value) (b : Bool), xs = [.ref a, .ref tp] ∧ H a = some (exH (.ref D) (some dd) a) ∧ H dd = some (.xd fs) ∧ ExR K D ∧ H tp = some (.tup cs) ∧ Paired ClsV cs ws ∧ PySem.W.kitAny K (.ref D) ws = some b ∧ Q (.bl b) H
theorem call_isHT {X : Cx} : CallR X (.builtin "isinstance") (rIsHT X.K) := by
  intro pins s σ H xs us Q I r h
  obtain ⟨a, D, dd, tp, fs, cs, ws, b, rfl, ea, ed, T, hT, k, e, q⟩ := h
  obtain ⟨u1, u2, rfl, r1, r2⟩ := vals2 r
  cases (show u2 = Value.ref tp from r2)
  cases (show u1 = Value.ref a from r1)
  obtain ⟨oe, od, J, _⟩ := inst_at I.hok ea ed
  obtain ⟨_, its, rv, o, h1, h2, n, h3⟩ := (show ObjOk X.prog X.w H s.heap tp (.tup cs) from I.hok tp _ hT)
  have e3 := ClsV.all k rv
  subst e3
  obtain ⟨oc, od2, dt, sl⟩ := o
  simp only at h2 h3
  subst h2 h3
  exact PySem.W.kia_tup (SlX.kit_exc T) I.kIn J h1 e (fun z => nomatch z) fun tk => ⟨.bl b, H, I.kept (t' := tk) fun _ _ z => z, rfl, q⟩
end L2.Sl

set_option Elab.async false
set_option linter.all false
set_option maxRecDepth 100000
set_option maxHeartbeats 4000000
/-! a lambda handed to a def that makes things of its own before it calls -/
namespace L2.Dl
open PySem PySem.Spec PyProof.Rows L2.Sl
section
variable {fam : Fam} {K : PySem.W.Frag} {B : Bs} {A : List Addr} {σ : St} {H F H1 : Hp} {Γ : Env'} {T : List (Addr × Str)}
def SaidOk2 (K : PySem.W.Frag) (mg : Str → Option Value) (TT : (XK → Hp → VK → Prop) → Hp → VK → Prop) (tellN : D → Slot) (tellE : Str → List (Str × D) → Option Slot) : Prop :=
  ∀ (tl : XK → Hp → VK → Prop) (H F : Hp) (N : D → Prop) (Xc : KE) (Q : VK), Same F H → FD F →
    (∀ H1, Same H H1 → ∀ (E : XK) (R : VK), (∀ v H2 F2 d, N d → Same H1 H2 → Same F F2 → Same F2 H2 → FD F2 → (∀ a o, F2 a = some o → F a = some o ∨ H1 a = none) → Dq K F2 v d → R v H2) → XW K mg ⟨H1, F, []⟩ Xc E → tl E H1 R) →
    (∀ s v H2 F2, ((∃ d, N d ∧ s = tellN d) ∨ ∃ c fs, Xc c fs ∧ tellE c fs = some s) → Same H H2 → Same F F2 → Same F2 H2 → FD F2 → (∀ a o, F2 a = some o → F a = some o ∨ H a = none) → RO K H H2 F2 v s → Q v H2) →
    (∀ c fs, Xc c fs → (tellE c fs).isSome = true) → TT tl H Q
theorem pd_said2 {X : Cx} {E : XK} {e : Expr} {TT : (XK → Hp → VK → Prop) → Hp → VK → Prop} {te : TD} {tellN : D → Slot} {tellE : Str → List (Str × D) → Option Slot} (L : LamFam fam T) (ok : SaidOk2 X.K X.mg TT tellN tellE) (h : PE X e (LamX.tLam T TT fun E => teOf (noFam X.w) X.K X.mg E te)) : PD fam X E e (dSaid te tellN tellE) := by
  refine ⟨_, h, fun B A σ H F Γ Kd Ke Q I g w fin => ⟨L.tb I.inv, fun H1 e1 t1 => ?_⟩⟩
  have I1 := I.ext L e1 t1
  refine ok _ H1 F (fun d => Kd (tellN d) Γ) (fun c fs => ∃ s, tellE c fs = some s ∧ Kd s Γ) Q I1.sub I1.ft (fun H3 S3 E' R hR xw => ?_) (fun s v H2 F2 hs S SF SH ft nw ro => ?_) (fun c fs ⟨s, es, _⟩ => by rw [es] <;> rfl)
  · have I3 : IV fam X.K B A σ H3 F Γ := I1.call S3 (Same.refl _) (I1.sub.trans S3) I1.ft (fun a o e => .inl e)
    refine ⟨⟨H3, F, []⟩, [], F, immE Γ, _, _, I3.inner (w := X.w), g, ?_, fun s Γ' v H' F' k S I' r => ?_⟩
    · intro c fs C dd H' F' zs k
      refine xw c fs C dd H' F' zs ?_
      match es : tellE c fs, k with
      | some s, k => exact ⟨s, es, k⟩
    · match es : s.d?, k with
      | some d, k =>
        obtain ⟨F2, S2, I2, dq⟩ := r.give I' es
        exact hR v H' F2 d k (fun a o z => I2.keep a o z (by simp)) (S.trans S2) I2.sub I2.ft (fun a o z => I2.new a o z) dq
  · refine fin s Γ v H2 F2 ?_ SF (I1.call S SF SH ft nw) (RO.rr I1 ro)
    rcases hs with ⟨d, n, rfl⟩ | ⟨c, fs, ⟨s2, e2, k⟩, e3⟩
    · exact n
    · rw [e2] at e3
      cases e3
      exact k
end
end L2.Dl

set_option Elab.async false
set_option linter.all false
set_option maxRecDepth 100000
set_option maxHeartbeats 8000000
/-! how long the text of data is, by counts; its signs -/
namespace L2.Dl
open PySem PySem.Spec PyProof.Rows L2.Sl
/-! ### the signs of a shown text -/
def okC (x : Str) : Prop := ∀ c ∈ x.cps.toList, c < 1114112
theorem okC_app {x y : Str} (h1 : okC x) (h2 : okC y) : okC (x ++ y) := fun c hc => by
  have e : (x ++ y).cps.toList = x.cps.toList ++ y.cps.toList := Array.toList_append ..
  rw [e] at hc
  rcases List.mem_append.mp hc with h | h
  · exact h1 c h
  · exact h2 c h
theorem chr_ok (c : Char) : c.toNat < 1114112 := by
  have h := c.valid
  rcases h with h | h
  · show c.val.toNat < 1114112
    exact Nat.lt_of_lt_of_le h (by decide)
  · exact h.2
theorem okC_of (s : String) : okC (Str.ofString s) := fun c hc => by
  rw [Str.ofString_eq_toList] at hc
  have hc : c ∈ s.toList.map Char.toNat := by simpa using hc
  obtain ⟨d, _, rfl⟩ := List.mem_map.mp hc
  exact chr_ok d
theorem strOk_of {x : Str} (h : okC x) : PyData.strOk x = true := by
  unfold PyData.strOk
  rw [Array.all_eq_true']
  intro c hc
  exact decide_eq_true (h c (by simpa using hc))
theorem of_strOk {x : Str} (h : PyData.strOk x = true) : okC x := fun c hc => by
  unfold PyData.strOk at h
  rw [Array.all_eq_true'] at h
  exact of_decide_eq_true (h c (by simpa using hc))
theorem reprChar_ok {q c : Nat} (hq : q < 1114112) (hc : c < 1114112) : ∀ d ∈ Builtin.Str.reprChar q c, d < 1114112 := by
  have dig : ∀ d ∈ (Nat.toDigits 16 c).map Char.toNat, d < 1114112 := fun d hd => by
    obtain ⟨x, _, rfl⟩ := List.mem_map.mp hd
    exact chr_ok x
  have hex : ∀ (n : Nat) (d : Nat), d ∈ List.replicate n 48 ++ (Nat.toDigits 16 c).map Char.toNat → d < 1114112 := fun n d hd => by
    rcases List.mem_append.mp hd with h | h
    · rw [(List.mem_replicate.mp h).2]
      decide
    · exact dig d h
  intro d hd
  unfold Builtin.Str.reprChar at hd
  dsimp only at hd
  repeat' split at hd
  all_goals first
    | (simp only [List.mem_cons, List.not_mem_nil, or_false] at hd; omega)
    | (rcases List.mem_append.mp hd with h | h
       · simp only [List.mem_cons, List.not_mem_nil, or_false] at h; omega
       · exact hex _ d h)
theorem foldl_ok {q : Nat} (hq : q < 1114112) : ∀ (l : List Nat) (acc : Array Nat), (∀ c ∈ l, c < 1114112) → (∀ c ∈ acc.toList, c < 1114112) → ∀ c ∈ (l.foldl (fun out c => out ++ (Builtin.Str.reprChar q c).toArray) acc).toList, c < 1114112
  | [], acc, _, ha => ha
  | x :: r, acc, hl, ha => by
    refine foldl_ok hq r _ (fun c hc => hl c (List.mem_cons_of_mem _ hc)) fun c hc => ?_
    have e : (acc ++ (Builtin.Str.reprChar q x).toArray).toList = acc.toList ++ Builtin.Str.reprChar q x := by simp
    rw [e] at hc
    rcases List.mem_append.mp hc with h | h
    · exact ha c h
    · exact reprChar_ok hq (hl x List.mem_cons_self) c h
theorem okC_repr {x : Str} (h : okC x) : okC (reprText x) := fun c hc => by
  have hq : reprQuote x < 1114112 := by
    unfold reprQuote
    split <;> decide
  unfold reprText at hc
  rw [Array.toList_push, ← Array.foldl_toList] at hc
  rcases List.mem_append.mp hc with h2 | h2
  · exact foldl_ok hq x.cps.toList #[reprQuote x] h (fun d hd => by simp at hd; rw [hd]; exact hq) c h2
  · rw [List.mem_singleton.mp h2]
    exact hq
theorem okC_from : ∀ (ts : List Str) (k : Nat) (acc : Str), (∀ t ∈ ts, okC t) → okC acc → okC (textFrom k acc ts)
  | [], _, _, _, ha => ha
  | t :: ts, k, acc, h, ha => okC_from ts (k + 1) _ (fun x hx => h x (List.mem_cons_of_mem _ hx)) (okC_app (okC_app ha (okC_of _)) (h t List.mem_cons_self))
theorem okC_join {s : Str} (hs : okC s) : ∀ {ys : List Str}, (∀ y ∈ ys, okC y) → okC (Str.join s ys)
  | [], _ => fun _ h => by simp [Str.join, Str.empty] at h
  | [y], h => h y (by simp)
  | y :: z :: r, h => okC_app (okC_app (h y (by simp)) hs) (okC_join hs (ys := z :: r) fun u hu => h u (List.mem_cons_of_mem _ hu))
mutual
theorem okC_shown : ∀ d : D, d.canLay0 = true → okC d.shown
  | .none, _ => by unfold PyData.shown; exact okC_of _
  | .bool b, _ => by unfold PyData.shown; cases b <;> exact okC_of _
  | .int i, _ => by unfold PyData.shown; exact okC_of _
  | .str x, h => by
    unfold PyData.shown
    exact okC_repr (of_strOk (by simpa only [PyData.canLay0] using h))
  | .list xs, h => by
    unfold PyData.shown listText
    exact okC_app (okC_from _ _ _ (okC_shownAll xs (by simpa only [PyData.canLay0] using h)) (okC_of _)) (okC_of _)
  | .tuple xs, h => by
    unfold PyData.shown tupleText
    exact okC_app (okC_app (okC_of _) (okC_join (okC_of _) (okC_shownAll xs (by simpa only [PyData.canLay0] using h)))) (okC_of _)
  | .dict _, h => by simp [PyData.canLay0] at h
theorem okC_shownAll : ∀ ds : List D, PyData.canLayAll0 ds = true → ∀ t ∈ PyData.shownAll ds, okC t
  | [], _, t, ht => by simp [PyData.shownAll] at ht
  | d :: ds, h, t, ht => by
    have h : d.canLay0 = true ∧ PyData.canLayAll0 ds = true := by simpa only [PyData.canLayAll0, Bool.and_eq_true] using h
    simp only [PyData.shownAll, List.mem_cons] at ht
    rcases ht with rfl | ht
    · exact okC_shown d h.1
    · exact okC_shownAll ds h.2 t ht
end
/-- data without dicts, of depth n at most, whose leaves are short, of b signs and things at most -/
structure Told (n b : Nat) (d : D) : Prop where
  sh : d.showable = true
  fl : flat d = true
  nd : d.hasDict = false
  dp : d.depth ≤ n
  lf : d.leavesShort 13 = true
  bk : d.bulk ≤ b
  cl : d.canLay0 = true
theorem Told.up {n b n2 b2 : Nat} {d : D} (h : Told n b d) (h1 : n ≤ n2) (h2 : b ≤ b2) : Told n2 b2 d := ⟨h.sh, h.fl, h.nd, Nat.le_trans h.dp h1, h.lf, Nat.le_trans h.bk h2, h.cl⟩
theorem told_non : Told 0 0 .none := ⟨by simp [PyData.showable], rfl, by simp [PyData.hasDict], by simp [PyData.depth], by simp [PyData.leavesShort], by simp [PyData.bulk], by simp [PyData.canLay0]⟩
theorem told_bool (x : Bool) : Told 0 0 (.bool x) := ⟨by simp [PyData.showable], rfl, by simp [PyData.hasDict], by simp [PyData.depth], by simp [PyData.leavesShort], by simp [PyData.bulk], by simp [PyData.canLay0]⟩
theorem told_str {z : Str} {b : Nat} (h : okC z) (l : z.length ≤ b) : Told 0 b (.str z) := ⟨by simp [PyData.showable], rfl, by simp [PyData.hasDict], by simp [PyData.depth], by
  simp only [PyData.leavesShort, List.all_eq_true, decide_eq_true_eq]
  exact fun c hc => Nat.lt_of_lt_of_le (h c hc) (by decide), by simp only [PyData.bulk]; exact l, by simpa only [PyData.canLay0] using strOk_of h⟩
theorem told_int {i : Int} (h : decide (i.natAbs.log2 < 1920) = true) (l : decide ((PyData.shown (.int i)).length ≤ 13) = true) : Told 0 0 (.int i) := ⟨by simpa only [PyData.showable] using h, rfl, by simp [PyData.hasDict], by simp [PyData.depth], by simpa only [PyData.leavesShort] using l, by simp [PyData.bulk], by simp [PyData.canLay0]⟩
theorem told_all {n b : Nat} : ∀ {ds : List D}, (∀ d ∈ ds, Told n b d) → PyData.showableAll ds = true ∧ flats ds = true ∧ PyData.hasDictAll ds = false ∧ PyData.depthAll ds ≤ n ∧ PyData.leavesShortAll 13 ds = true ∧ PyData.bulkAll ds ≤ ds.length * (b + 1) ∧ PyData.canLayAll0 ds = true
  | [], _ => ⟨by simp [PyData.showableAll], rfl, by simp [PyData.hasDictAll], by simp [PyData.depthAll], by simp [PyData.leavesShortAll], by simp [PyData.bulkAll], by simp [PyData.canLayAll0]⟩
  | d :: ds, h => by
    obtain ⟨h1, h2, h3, h4, h5, h6, h7⟩ := told_all fun x hx => h x (List.mem_cons_of_mem _ hx)
    have t := h d List.mem_cons_self
    refine ⟨?_, ?_, ?_, ?_, ?_, ?_, ?_⟩
    · simp only [PyData.showableAll, t.sh, h1, Bool.and_self]
    · show (flat d && flats ds) = true
      rw [t.fl, h2] <;> rfl
    · simp only [PyData.hasDictAll, t.nd, h3, Bool.or_self]
    · simp only [PyData.depthAll]
      exact Nat.max_le.mpr ⟨t.dp, h4⟩
    · simp only [PyData.leavesShortAll, t.lf, h5, Bool.and_self]
    · simp only [PyData.bulkAll, List.length_cons]
      have := t.bk
      rw [Nat.add_mul, Nat.one_mul]
      omega
    · simp only [PyData.canLayAll0, t.cl, h7, Bool.and_self]
theorem told_list {n b m : Nat} {ds : List D} (h : ∀ d ∈ ds, Told n b d) (l : ds.length ≤ m) : Told (n + 1) (m * (b + 1)) (.list ds) := by
  obtain ⟨h1, h2, h3, h4, h5, h6, h7⟩ := told_all h
  refine ⟨by simpa only [PyData.showable] using h1, h2, by simpa only [PyData.hasDict] using h3, ?_, by simpa only [PyData.leavesShort] using h5, ?_, by simpa only [PyData.canLay0] using h7⟩
  · simp only [PyData.depth]
    omega
  · simp only [PyData.bulk]
    exact Nat.le_trans h6 (Nat.mul_le_mul_right _ l)
theorem told_tup {n b m : Nat} {ds : List D} (h : ∀ d ∈ ds, Told n b d) (l : ds.length ≤ m) : Told (n + 1) (m * (b + 1)) (.tuple ds) := by
  obtain ⟨h1, h2, h3, h4, h5, h6, h7⟩ := told_all h
  refine ⟨by simpa only [PyData.showable] using h1, h2, by simpa only [PyData.hasDict] using h3, ?_, by simpa only [PyData.leavesShort] using h5, ?_, by simpa only [PyData.canLay0] using h7⟩
  · simp only [PyData.depth]
    omega
  · simp only [PyData.bulk]
    exact Nat.le_trans h6 (Nat.mul_le_mul_right _ l)
theorem told_2 {n b : Nat} {x y : D} (h1 : Told n b x) (h2 : Told n b y) : ∀ d ∈ [x, y], Told n b d := fun d hd => by
  simp only [List.mem_cons, List.not_mem_nil, or_false] at hd
  rcases hd with rfl | rfl
  · exact h1
  · exact h2
theorem told_3 {n b : Nat} {x y z : D} (h1 : Told n b x) (h2 : Told n b y) (h3 : Told n b z) : ∀ d ∈ [x, y, z], Told n b d := fun d hd => by
  simp only [List.mem_cons, List.not_mem_nil, or_false] at hd
  rcases hd with rfl | rfl | rfl
  · exact h1
  · exact h2
  · exact h3
/-- what repr tells, and that the text is of signs -/
def tellsC (d : D) : Prop := tellsD d ∧ okC d.shown
theorem Told.tells {n b : Nat} {d : D} (h : Told n b d) (hn : n ≤ 60) (hb : b ≤ 2 ^ 20) : tellsC d :=
  ⟨⟨h.sh, .inl ⟨h.fl, h.nd⟩, Nat.le_trans h.dp hn, PyData.shown_fits_bulk (B := 13) (by decide) (by decide) h.lf (Nat.le_trans h.bk hb)⟩, okC_shown d h.cl⟩
theorem tells_dnil : tellsC (.dict []) := ⟨⟨by simp [PyData.showable, PyData.showableKv], .inr rfl, by simp [PyData.depth, PyData.depthKv], by decide +kernel⟩, by unfold okC; decide +kernel⟩
theorem tells_int {i : Int} (h : decide (i.natAbs.log2 < 1920) = true) (l : decide ((PyData.shown (.int i)).length ≤ 2000) = true) : tellsC (.int i) :=
  ⟨⟨by simpa only [PyData.showable] using h, .inl ⟨rfl, by simp [PyData.hasDict]⟩, by simp [PyData.depth], Nat.le_trans (of_decide_eq_true l) (by decide)⟩, okC_shown _ (by simp [PyData.canLay0])⟩
theorem told_fits {n b : Nat} {d : D} (h : Told n b d) (hn : n ≤ 8) : fits d = true := by
  unfold fits SeqAt.shaped
  rw [h.fl, h.cl]
  simp only [Bool.true_and]
  first | exact decide_eq_true (Nat.le_trans h.dp (by omega)) | skip
end L2.Dl

set_option Elab.async false
set_option linter.all false
set_option maxRecDepth 100000
set_option maxHeartbeats 8000000
/-! repr of data with empty dicts within -/
namespace L2.Dl
open PySem PySem.Spec PyProof.Rows L2.Sl
mutual
/-- no dict within but the empty one -/
def flatE : D → Bool
  | .none => true
  | .bool _ => true
  | .int _ => true
  | .str _ => true
  | .list ds => flatsE ds
  | .tuple ds => flatsE ds
  | .dict kvs => kvs.isEmpty
def flatsE : List D → Bool
  | [] => true
  | d :: ds => flatE d && flatsE ds
end
section
variable {X : Cx} {pins : List (Addr × Obj)} {σ : St} {H : Hp} {s : Shared}
theorem dq_dnil (I : Inv X pins σ H s) {a : Addr} (e : H a = some (.dK [])) : Reads s.heap (.ref a) (.dict []) [a] ∧ sysModules ∉ [a] := by
  obtain ⟨_, y, vs, rk, o, es, ep, e, ex, ed, _, pr, _⟩ := (show ObjOk X.prog X.w H s.heap a (.dK []) from I.hok _ _ e)
  cases rk
  have e0 : es.toList = [] := by
    cases h : es.toList with
    | nil => rfl
    | cons x xs =>
      rw [h] at pr
      have := pr.length
      cases this
  refine ⟨.dict (as := []) (bs := []) e ex.1 ed (by rw [e0]; exact .nil) (by rw [e0]; exact .nil), fun m => ?_⟩
  rw [List.mem_singleton] at m
  rw [← m] at y
  simp at y
mutual
theorem shows1 (I : Inv X pins σ H s) : ∀ (d : D) (v : V) (u : Value), flatE d = true → Dq X.K H v d → RelV v u → d.showable = true → d.shown.length ≤ sizeLine →
    ∃ as bs, Reads s.heap u d as ∧ ReadAtMost s.heap d.depth bs ∧ ReprK X.prog X.w bs s.heap d.depth u d.shown
  | .none, _, _, _, q, r, z1, z2 => by
    cases q
    cases r
    exact ⟨_, _, Reads.none, ReprK.of_reads Reads.none z1 (fun e => by simp [PyData.hasDict] at e) z2 |>.choose_spec⟩
  | .bool b, _, _, _, q, r, z1, z2 => by
    cases q
    cases r
    exact ⟨_, _, Reads.bool b, ReprK.of_reads (Reads.bool b) z1 (fun e => by simp [PyData.hasDict] at e) z2 |>.choose_spec⟩
  | .int i, _, _, _, q, r, z1, z2 => by
    cases q
    obtain ⟨t, rfl⟩ := r
    exact ⟨_, _, Reads.int i t, ReprK.of_reads (Reads.int i t) z1 (fun e => by simp [PyData.hasDict] at e) z2 |>.choose_spec⟩
  | .str x, _, _, _, q, r, z1, z2 => by
    cases q
    obtain ⟨t, rfl⟩ := r
    exact ⟨_, _, Reads.str x t, ReprK.of_reads (Reads.str x t) z1 (fun e => by simp [PyData.hasDict] at e) z2 |>.choose_spec⟩
  | .list ds, _, _, f, q, r, z1, z2 => by
    cases q with
    | lst hs qs =>
      rename_i a xs
      cases r
      obtain ⟨us, rv, ⟨o, n, ho, hc, _, hd⟩, _⟩ := I.list hs
      have zl : (listText (PyData.shownAll ds)).length ≤ sizeLine := by
        have z := z2
        simp only [PyData.shown] at z
        exact z
      obtain ⟨as, bs, ra, rm, rk⟩ := showsAll I ds xs us f qs rv (by simp only [PyData.showable] at z1; exact z1) (fun t ht => Nat.le_trans (listText_mem_le ht) zl)
      have rd : Reads s.heap (.ref a) (.list ds) (a :: as) := .list ho hc hd ra
      have ds1 : PyData.depthAll ds < (PyData.list ds).depth := by simp only [PyData.depth]; exact Nat.lt_succ_self _
      have na : a ∉ bs := not_mem_of_deeper rd ds1 rm
      refine ⟨_, a :: bs, rd, ReadAtMost.cons rd (Nat.le_of_lt ds1) rm, ?_⟩
      simp only [PyData.shown, PyData.depth]
      cases us with
      | nil =>
        cases ra
        simp only [listText_nil, PyData.shownAll]
        exact ReprK.listEmpty ho hc hd
      | cons y l => exact ReprK.list ho hc hd na (by rw [rk.length_eq] <;> simp) (fun j y' e' => ReprAllK.item rk j y' (by simpa using e'))
  | .tuple ds, _, _, f, q, r, z1, z2 => by
    cases q with
    | tup hs qs =>
      rename_i a xs
      cases r
      obtain ⟨us, rv, ⟨o, ho, hc, n, hd⟩, _⟩ := I.tuple hs
      have zl : (tupleText (PyData.shownAll ds)).length ≤ sizeLine := by
        have z := z2
        simp only [PyData.shown] at z
        exact z
      obtain ⟨as, bs, ra, rm, rk⟩ := showsAll I ds xs us f qs rv (by simp only [PyData.showable] at z1; exact z1) (fun t ht => Nat.le_trans (tupleText_mem_le ht) zl)
      have rd : Reads s.heap (.ref a) (.tuple ds) as := .tuple ho hc hd ra
      have ds1 : PyData.depthAll ds < (PyData.tuple ds).depth := by simp only [PyData.depth]; exact Nat.lt_succ_self _
      have na : a ∉ bs := not_mem_of_deeper rd ds1 rm
      refine ⟨_, a :: bs, rd, ReadAtMost.cons rd (Nat.le_of_lt ds1) rm, ?_⟩
      simp only [PyData.shown, PyData.depth]
      exact ReprK.tuple ho hc hd na rk
  | .dict kvs, _, _, f, q, r, z1, z2 => by
    cases q with
    | dic e qk =>
      cases kvs with
      | cons _ _ => cases f
      | nil =>
        cases qk
        cases r
        obtain ⟨rd, ns⟩ := dq_dnil I e
        exact ⟨_, _, rd, ReprK.of_reads rd z1 (fun _ => ns) z2 |>.choose_spec⟩
theorem showsAll (I : Inv X pins σ H s) : ∀ (ds : List D) (vs : List V) (us : List Value), flatsE ds = true → Dqs X.K H vs ds → Vals vs us → PyData.showableAll ds = true → (∀ t ∈ PyData.shownAll ds, t.length ≤ sizeLine) →
    ∃ as bs, ReadsAll s.heap us ds as ∧ ReadAtMost s.heap (PyData.depthAll ds) bs ∧ ReprAllK X.prog X.w bs s.heap (PyData.depthAll ds) us (PyData.shownAll ds)
  | [], _, _, _, q, r, _, _ => by
    cases q
    cases r
    exact ⟨[], [], .nil, (fun _ h => nomatch h), by simp only [PyData.shownAll]; exact .nil⟩
  | d :: ds, _, _, f, q, r, z1, z2 => by
    cases q with
    | cons q1 q2 =>
      cases r with
      | cons r1 r2 =>
        have f : (flatE d && flatsE ds) = true := f
        rw [Bool.and_eq_true] at f
        have z1 : d.showable = true ∧ PyData.showableAll ds = true := by simp only [PyData.showableAll, Bool.and_eq_true] at z1; exact z1
        simp only [PyData.shownAll, List.mem_cons, forall_eq_or_imp] at z2
        obtain ⟨as, bs, ra, rm, rk⟩ := shows1 I d _ _ f.1 q1 r1 z1.1 z2.1
        obtain ⟨as2, bs2, ra2, rm2, rk2⟩ := showsAll I ds _ _ f.2 q2 r2 z1.2 z2.2
        refine ⟨_, bs ++ bs2, .cons ra ra2, ?_, ?_⟩
        · simp only [PyData.depthAll]
          exact (rm.mono (Nat.le_max_left _ _)).append (rm2.mono (Nat.le_max_right _ _))
        · simp only [PyData.shownAll, PyData.depthAll]
          exact .cons ((rk.more fun x hx => List.mem_append.mpr (.inl hx)).level_le (Nat.le_max_left _ _)) (rk2.more_le (fun x hx => List.mem_append.mpr (.inr hx)) (Nat.le_max_right _ _))
end
end
def tellsE (d : D) : Prop := d.showable = true ∧ flatE d = true ∧ d.depth ≤ 60 ∧ d.shown.length ≤ sizeLine
def rReprE (K : PySem.W.Frag) : List V → Hp → VK → Prop := fun xs H Q => ∃ (x : V) (d : D), xs = [x] ∧ Dq K H x d ∧ tellsE d ∧ Q (.str d.shown) H
theorem call_reprE {X : Cx} (hgu : X.A.guards = some []) {k : Nat} (hr : Room k X.A) : CallR X (.builtin "repr") (rReprE X.K) := by
  intro pins s σ H xs us Q I r h
  obtain ⟨x, d, rfl, q, ⟨t1, t2, t3, t4⟩, c⟩ := h
  have hu := hr.units
  obtain ⟨u, rfl, ru⟩ := vals1 r
  have fin : ∀ (g : Heap) (t : Tok) (tk : Nat), (∀ b o, s.heap.get? b = some o → g.get? b = some o) → ∃ v H', Inv X pins σ H' { s with heap := g, toks := tk } ∧ RelV v (.str d.shown t) ∧ Q v H' := fun g t tk kk => ⟨.str d.shown, H, I.kept (t' := tk) kk, ⟨t, rfl⟩, c⟩
  cases q with
  | non =>
    cases ru
    exact PySem.P.repr_of_none ⟨.str _, H, I.tok _, ⟨_, rfl⟩, by rw [PyData.shown_none] at c; exact c⟩
  | bl b =>
    cases ru
    exact PySem.P.repr_of_bool ⟨.str _, H, I.tok _, ⟨_, rfl⟩, by rw [PyData.shown_bool] at c; exact c⟩
  | int i =>
    obtain ⟨t, rfl⟩ := ru
    exact PySem.P.repr_of_int (of_decide_eq_true t1) ⟨.str _, H, I.tok _, ⟨_, rfl⟩, by rw [PyData.shown_int] at c; exact c⟩
  | str z =>
    obtain ⟨t, rfl⟩ := ru
    rw [PyData.shown_str] at c t4
    exact PySem.P.repr_of_str ⟨.str _, H, I.tok _, ⟨_, rfl⟩, c⟩ t4
  | @lst a xs ds hs qs =>
    cases ru
    obtain ⟨us, rv, ⟨o, n, ho, hc, _, hd⟩, _⟩ := I.list hs
    have zl : (listText (PyData.shownAll ds)).length ≤ sizeLine := by
      have z := t4
      simp only [PyData.shown] at z
      exact z
    obtain ⟨as, bs, ra, rm, rk⟩ := showsAll I ds xs us t2 qs rv (by simp only [PyData.showable] at t1; exact t1) (fun t ht => Nat.le_trans (listText_mem_le ht) zl)
    have rd : Reads s.heap (.ref a) (.list ds) (a :: as) := .list ho hc hd ra
    have ds1 : PyData.depthAll ds < (PyData.list ds).depth := by simp only [PyData.depth]; exact Nat.lt_succ_self _
    have na : a ∉ bs := not_mem_of_deeper rd ds1 rm
    have un : X.A.in1.units + (PyData.depthAll ds + 1) < cLine := by
      have dp := t3
      simp only [PyData.depth] at dp
      show X.A.units + 1 + (PyData.depthAll ds + 1) < cLine
      omega
    refine call_repr_slot (by omega) ⟨o, ho, hc⟩ F.slot_list_repr.toG ?_
    cases us with
    | nil =>
      cases ra
      refine call_list_repr_empty ⟨o, ho, hc⟩ ho hd ⟨_, _, rfl, ?_⟩
      have z := fin s.heap s.toks (s.toks + 1) (fun _ _ e => e)
      simp only [PyData.shown, PyData.shownAll, listText_nil] at z
      exact z
    | cons y l =>
      refine call_list_reprK ho hc hd na (by rw [rk.length_eq] <;> simp) (fun j y' e' => ReprAllK.item rk j y' (by simpa using e')) hgu (fun b _ => Clear.nil b) un (fun _ _ e => e) (fun g t tk kk => ⟨_, _, rfl, ?_⟩) zl
      have z := fin g t tk kk
      simp only [PyData.shown] at z
      exact z
  | @tup a xs ds hs qs =>
    cases ru
    obtain ⟨us, rv, ⟨o, ho, hc, n, hd⟩, _⟩ := I.tuple hs
    have zl : (tupleText (PyData.shownAll ds)).length ≤ sizeLine := by
      have z := t4
      simp only [PyData.shown] at z
      exact z
    obtain ⟨as, bs, ra, rm, rk⟩ := showsAll I ds xs us t2 qs rv (by simp only [PyData.showable] at t1; exact t1) (fun t ht => Nat.le_trans (tupleText_mem_le ht) zl)
    have rd : Reads s.heap (.ref a) (.tuple ds) as := .tuple ho hc hd ra
    have ds1 : PyData.depthAll ds < (PyData.tuple ds).depth := by simp only [PyData.depth]; exact Nat.lt_succ_self _
    have na : a ∉ bs := not_mem_of_deeper rd ds1 rm
    have un : X.A.in1.units + (PyData.depthAll ds + 1) < cLine := by
      have dp := t3
      simp only [PyData.depth] at dp
      show X.A.units + 1 + (PyData.depthAll ds + 1) < cLine
      omega
    refine call_repr_slot (by omega) ⟨o, ho, hc⟩ F.slot_tuple_repr ?_
    refine call_tuple_reprK ho hc hd na rk hgu (fun b _ => Clear.nil b) un (fun _ _ e => e) (fun g t tk kk => ⟨_, _, rfl, ?_⟩) zl
    have z := fin g t tk kk
    simp only [PyData.shown] at z
    exact z
  | @dic a ps kvs e qk =>
    cases kvs with
    | cons _ _ => cases t2
    | nil =>
      cases qk
      cases ru
      obtain ⟨rd, ns⟩ := dq_dnil I e
      exact repr_of_reads' rd t1 (fun _ => ns) hgu (by show X.A.units + (0 + 1 + 1) < cLine; omega) (fun _ _ e => e) (fun g t tk kk => fin g t tk kk) t4
def gReprE (d : D) (k : Slot → Prop) : Prop := tellsE d ∧ k (.imm (.str d.shown))
theorem dc_reprE {fam : Fam} {X : Cx} (hgu : X.A.guards = some []) {k : Nat} (hr : Room k X.A) : DC1 fam X (.builtin "repr") gReprE :=
  ⟨_, call_reprE hgu hr, fun B A σ H F Γ x h d Kd Q I r e g fin => ⟨x, d, rfl, r.dq I e, g.1, end_sc I fin (.str _) g.2⟩⟩
end L2.Dl

set_option Elab.async false
set_option linter.all false
set_option maxRecDepth 100000
set_option maxHeartbeats 4000000
/-! sets of texts -/
namespace L2.Sl
open PySem PySem.Spec PyProof.Rows
def txtOf (e : Int × Value) : Str := match e.2 with
  | .str x _ => x
  | _ => Str.empty
def TxtE (P : Program) (w : World) (e : Int × Value) : Prop := ∃ x tk, e.2 = .str x tk ∧ (strKind P w).hash x = e.1
/-- at a a set of the texts xs, each once -/
def SetS (P : Program) (w : World) (h : Heap) (a : Addr) (xs : List Str) : Prop :=
  ∃ (o : Obj) (es : Array (Int × Value)) (ep : Nat) (t : SetTable), h.get? a = some o ∧ (o.ExactSet ∧ o.data = .set es ep t) ∧ (∀ e ∈ es.toList, TxtE P w e) ∧ (es.toList.map txtOf).Perm xs ∧ xs.Nodup ∧ xs.length < 4000 ∧ t.fits es.size = true ∧ Ris t.place.toList ∧ (w.params.followText "set-order" = true ∨ t.led = true)
section
variable {P : Program} {w : World} {A : Around} {E : Value → Shared → Prop} {s : Shared} {a : Addr} {xs : List Str} {es es1 : Array (Int × Value)}
theorem txt_elems (g : ∀ e ∈ es.toList, TxtE P w e) : ElemsOf (strKind P w) es.toList := fun e he => by
  obtain ⟨x, tk, e1, e2⟩ := g e he
  refine ⟨⟨x, ?_, e2.symm⟩, ?_⟩
  · rw [e1]
    exact strKind_is _ _ _ _
  · rw [e1]
    rfl
theorem txt_is {e : Int × Value} (g : TxtE P w e) (x : Str) : (strKind P w).is x e.2 = true ↔ txtOf e = x := by
  obtain ⟨y, tk, e1, _⟩ := g
  have z : (strKind P w).is x e.2 = decide (x = y) := KeyKind.is_eq_decide (by rw [e1]; exact strKind_is _ _ _ _) x
  rw [z, decide_eq_true_eq]
  unfold txtOf
  rw [e1]
  exact eq_comm
theorem SetS.size (R : (es.toList.map txtOf).Perm xs) : es.size = xs.length := by
  have z := R.length_eq
  rw [List.length_map] at z
  simpa using z
theorem SetS.keep {h h' : Heap} (R : SetS P w h a xs) (k : ∀ o, h.get? a = some o → h'.get? a = some o) : SetS P w h' a xs := by
  obtain ⟨o, es, ep, t, e, r⟩ := R
  exact ⟨o, es, ep, t, k o e, r⟩
theorem setS_tail {gv : Bool → Sem Unit} (hg : ∀ (b : Bool) (s1 : Shared) (C : Unit → Shared → Prop), C () s1 → wpAny (model P w) A (gv b) C E s1) {o : Obj} {ep : Nat} {t t2 : SetTable} {ys : List Str} {R : Option Bool → Shared → Prop} {dum : Bool}
    (ho : s.heap.get? a = some o) (hx : o.ExactSet) (hd : o.data = .set es ep t) (g : ∀ e ∈ es1.toList, TxtE P w e) (pm : (es1.toList.map txtOf).Perm ys) (nd : ys.Nodup) (l6 : ys.length < 4000) (hf : t2.fits es1.size = true) (hr : Ris t2.place.toList) (hl : w.params.followText "set-order" = true ∨ t2.led = true)
    (fin : ∀ h', Heap.SameBut a s.heap h' → SetS P w h' a ys → R (some true) { s with heap := h' }) :
    wpAny (model P w) A (do
      storeSet a es1 t2
      if (!dum && t2.tooFull) = true then (do
        gv (relayAll t2 es1 (SetTable.grown es1.size)).2.2
        storeSet a (relayAll t2 es1 (SetTable.grown es1.size)).1 (relayAll t2 es1 (SetTable.grown es1.size)).2.1
        pure (some true)) else pure (some true)) R E s := by
  have zb : es1.size < scanBound := by
    rw [SetS.size pm]
    unfold scanBound
    omega
  refine wpAny_bind (wpAny_storeSet_of ho hd ?_ (fits_of_scanBound zb))
  have e1 := L2.store_at (es' := es1) (t' := t2) ho hd
  have q1 := Heap.SameBut.update s.heap a (Obj.putSet es1 t2)
  split
  · have p3 := relayAll_perm t2 es1 (SetTable.grown es1.size)
    have f3 := relayAll_fits t2 es1 (SetTable.grown es1.size)
    have r3 := L2.relayAll_ris t2 es1 (SetTable.grown es1.size)
    have l3 := L2.relayAll_led t2 es1 (SetTable.grown es1.size)
    generalize relayAll t2 es1 (SetTable.grown es1.size) = zz at p3 f3 r3 l3 ⊢
    obtain ⟨es2, t3, gave⟩ := zz
    dsimp only at p3 f3 r3 l3 ⊢
    have sz : es2.size = es1.size := by
      have := p3.length_eq
      simpa using this
    refine wpAny_bind (hg _ _ _ ?_)
    refine wpAny_bind (wpAny_storeSet_of e1 rfl ?_ (fits_of_scanBound (by rw [sz]; exact zb)))
    have e2 := L2.store_at (es' := es2) (t' := t3) e1 rfl
    refine wpAny_pure (fin _ (q1.trans (Heap.SameBut.update _ a _)) ?_)
    exact ⟨_, es2, _, t3, e2, ⟨hx, rfl⟩, fun e he => g e (p3.mem_iff.mp he), (p3.map txtOf).trans pm, nd, l6, f3, r3, hl.imp id fun z => l3.trans z⟩
  · exact wpAny_pure (fin _ q1 ⟨_, es1, _, t2, e1, ⟨hx, rfl⟩, g, pm, nd, l6, hf, hr, hl⟩)
theorem setS_add {x : Str} {tk : Tok} {Q : Bool → Shared → Prop} (R : SetS P w s.heap a xs) (room : xs.length + 1 < 4000)
    (hQ : ∀ b h', Heap.SameBut a s.heap h' → SetS P w h' a (if x ∈ xs then xs else x :: xs) → Q b { s with heap := h' }) :
    wpAny (model P w) A (setAddHashed a (.str x tk) ((strKind P w).hash x)) Q E s := by
  obtain ⟨o, es, ep, t, ho, ⟨hx, hd⟩, g, pm, nd, l6, hf, hr, hl⟩ := R
  have kx : (strKind P w).is x (.str x tk) = true := strKind_is _ _ _ _
  have sc : (Value.str x tk).scannable = true := rfl
  have el := txt_elems g
  have zb : es.size < scanBound := by
    rw [SetS.size pm]
    unfold scanBound
    omega
  have inx : x ∈ xs ↔ ∃ e ∈ es.toList, (strKind P w).is x e.2 = true := by
    rw [← pm.mem_iff, List.mem_map]
    exact ⟨fun ⟨e, he, q⟩ => ⟨e, he, (txt_is (g e he) x).mpr q⟩, fun ⟨e, he, q⟩ => ⟨e, he, (txt_is (g e he) x).mp q⟩⟩
  unfold setAddHashed setAddHashedIn
  refine wpAny_holding (wpAny_bind (wpAny_setState_of ho hd hf ?_))
  dsimp only
  rw [byScan_of sc zb el]
  simp only [↓reduceIte]
  unfold setAddByScan
  refine wpAny_bind (wpAny_bind (wpAny_rule (wpAny_bind (wpAny_setScan_of kx ho hd hf el ?_))))
  cases hfi : List.findIdx? (fun e => (strKind P w).is x e.2) es.toList with
  | some j =>
    dsimp only
    obtain ⟨lj, pj, _⟩ := List.findIdx?_eq_some_iff_getElem.mp hfi
    have mx : x ∈ xs := inx.mpr ⟨es.toList[j], List.getElem_mem lj, pj⟩
    refine wpAny_pure (wpAny_pure ?_)
    have z := hQ false s.heap (Heap.SameBut.refl a s.heap)
    rw [if_pos mx] at z
    exact z ⟨o, es, ep, t, ho, ⟨hx, hd⟩, g, pm, nd, l6, hf, hr, hl⟩
  | none =>
    dsimp only
    have nx : x ∉ xs := fun m => by
      obtain ⟨e, he, q⟩ := inx.mp m
      have c := List.findIdx?_eq_none_iff.mp hfi e he
      rw [q] at c
      cases c
    have gw : ∀ (b : Bool) {s1 : Shared} {C : Unit → Shared → Prop}, C () s1 → wpAny (model P w) A (match b with
      | true => rule "set.scan.the-table-gave-way"
      | false => pure ()) C E s1 := fun b s1 C q => by
      cases b
      · exact wpAny_pure q
      · exact wpAny_rule q
    have p1 := layNew_perm t es ((strKind P w).hash x) (.str x tk)
    have f1 := layNew_fits t es ((strKind P w).hash x) (.str x tk)
    have r1 := L2.layNew_ris t es ((strKind P w).hash x) (.str x tk) hr
    have l1 := L2.layNew_led t es ((strKind P w).hash x) (.str x tk)
    generalize layNew t es ((strKind P w).hash x) (.str x tk) = zz at p1 f1 r1 l1 ⊢
    obtain ⟨es1, t1, dum, gave⟩ := zz
    dsimp only at p1 f1 r1 l1 ⊢
    rw [Array.toList_push] at p1
    have pc : es1.toList.Perm (((strKind P w).hash x, Value.str x tk) :: es.toList) := p1.trans (List.perm_append_singleton _ _)
    have g1 : ∀ e ∈ es1.toList, TxtE P w e := fun e he => by
      rcases List.mem_cons.mp (pc.mem_iff.mp he) with z | z
      · rw [z]
        exact ⟨x, tk, rfl, rfl⟩
      · exact g e z
    have py : (es1.toList.map txtOf).Perm (x :: xs) := (pc.map txtOf).trans (.cons _ pm)
    have nd1 : (x :: xs).Nodup := List.nodup_cons.mpr ⟨nx, nd⟩
    have le1 : w.params.followText "set-order" = true ∨ t1.led = true := hl.imp id fun z => l1.trans z
    have fin : ∀ h', Heap.SameBut a s.heap h' → SetS P w h' a (x :: xs) → Q true { s with heap := h' } := fun h' sb r => by
      have z := hQ true h' sb
      rw [if_neg nx] at z
      exact z r
    refine wpAny_bind (gw _ ?_)
    split
    · refine wpAny_bind ?_
      rw [hashByValue_scannable 8 sc]
      refine wpAny_pure (setS_tail (ys := x :: xs) ?_ ho hx hd g1 py nd1 room ?_ ?_ ?_ fun h' sb r => ?_)
      · intro b s1 C q
        cases b <;> first | exact wpAny_pure q | exact wpAny_rule q
      · first | (split <;> first | exact f1 | exact SetTable.fits_plain_off f1) | exact f1
      · first | (split <;> exact r1) | exact r1
      · first | (split <;> exact le1) | exact le1
      · dsimp only
        exact wpAny_pure (fin h' sb r)
    · refine wpAny_bind (wpAny_pure ?_)
      simp only [↓reduceIte]
      refine setS_tail (ys := x :: xs) ?_ ho hx hd g1 py nd1 room f1 r1 le1 fun h' sb r => ?_
      · intro b s1 C q
        cases b <;> first | exact wpAny_pure q | exact wpAny_rule q
      · dsimp only
        exact wpAny_pure (fin h' sb r)
end
end L2.Sl

set_option Elab.async false
set_option linter.all false
set_option maxRecDepth 100000
set_option maxHeartbeats 8000000
/-! set(xs), sorted(set), texts -/
namespace L2.Sl
open PySem PySem.Spec PyProof.Rows
section
variable {P : Program} {w : World} {A : Around} {E : Value → Shared → Prop} {s : Shared} {a : Addr}
theorem setS_new {h : Heap} {o : Obj} (e : o = { cls := .type "set", dict := none, data := .set #[] 0 (.fresh 0 0 (!w.params.followText "set-order")) }) : SetS P w (h.push o) h.objs.size [] := by
  subst e
  refine ⟨_, #[], 0, _, Heap.get?_push_size _ rfl, ⟨⟨rfl, rfl, rfl⟩, rfl⟩, (fun e he => by simp at he), .nil, .nil, by decide, by rfl, List.Pairwise.nil, ?_⟩
  show _ ∨ (!w.params.followText "set-order") = true
  cases w.params.followText "set-order"
  · exact .inr rfl
  · exact .inl rfl
theorem setS_loop {I : Addr} {fp wr : List Addr} {G : Array GenState → Array GenState → Prop} {n : Nat} {Pv : Nat → Value → Prop} {St : Nat → Shared → Prop} {R : Result → Shared → Prop}
    (W : WalksS P w A.in1 I fp wr G n Pv St) (S : Addr) (nS : S ∉ fp) (xs : List Str) (lx : xs.length = n) (hn : xs.length < 4000) (hv : ∀ i v, Pv i v → ∃ t, v = .str (xs.getD i Str.empty) t) :
    ∀ (k i : Nat) (s : Shared) (ys : List Str), n - i = k → i ≤ n → St i s → SetS P w s.heap S ys → (∀ x, x ∈ ys ↔ x ∈ xs.take i) → ys.length ≤ i →
      (∀ s3 ys, Moved (S :: wr) G s s3 → SetS P w s3.heap S ys → (∀ x, x ∈ ys ↔ x ∈ xs.take n) → R (.ok (.ret .none)) s3) →
      codeAny (model P w) A (.builtin "set.update.loop" ⟨[.ref S, .ref I], []⟩) R s := by
  have nw : S ∉ wr := fun z => nS (W.sub _ z)
  have sub : ∀ b ∈ wr, b ∈ S :: wr := fun b z => List.mem_cons_of_mem _ z
  intro k
  induction k with
  | zero =>
    intro i s ys hk hi st RS hy ly fin
    obtain rfl : i = n := by omega
    refine codeAny_builtin PyProof.Rows.F.entry_set_update_loop ?_
    rw [Around.under_plainId PyProof.Rows.F.plain_set_update_loop _]
    refine wpAny_bind (W.done s _ _ st fun s2 mv => ?_)
    exact wpAny_pure (fin s2 ys (mv.mono sub) (RS.keep fun o e => mv.heap S o nw e) hy)
  | succ k ih =>
    intro i s ys hk hi st RS hy ly fin
    have lt : i < n := by omega
    refine codeAny_builtin PyProof.Rows.F.entry_set_update_loop ?_
    rw [Around.under_plainId PyProof.Rows.F.plain_set_update_loop _]
    refine wpAny_bind (W.item i s _ _ lt st fun v s2 pv st2 mv => ?_)
    obtain ⟨t, rfl⟩ := hv i v pv
    have R2 : SetS P w s2.heap S ys := RS.keep fun o e => mv.heap S o nw e
    have ex : xs[i]? = some (xs.getD i Str.empty) := by
      rw [List.getD_eq_getElem?_getD, List.getElem?_eq_getElem (by omega)] <;> rfl
    generalize xs.getD i Str.empty = x at ex ⊢
    show wpAny _ A.in1 (holding [Value.str x t] (setAdd S (.str x t)) >>= _) _ _ s2
    refine wpAny_bind (wpAny_holding ?_)
    unfold setAdd
    refine wpAny_holding (wpAny_bind ((PySem.strKind P w).pyHash (k := x) (strKind_is _ _ _ _) ?_))
    refine setS_add (s := { s2 with toks := s2.toks + 1 }) R2 (by omega) fun b g sb R3 => ?_
    refine wpAny_pure ⟨plainId_quiet PyProof.Rows.F.plain_set_update_loop _, ih (i + 1) _ (if x ∈ ys then ys else x :: ys) (by omega) lt (W.frame _ s2 _ _ st2 (Nat.le_succ _) fun b hb o e => ?_) R3 (fun y => ?_) ?_ fun s3 zs mv3 R4 hz => ?_⟩
    · rw [sb.2 b fun z => nS (by rw [← z]; exact hb)]
      exact e
    · rw [List.take_succ, ex, Option.toList_some, List.mem_append, List.mem_singleton]
      by_cases c : x ∈ ys
      · rw [if_pos c, hy y]
        exact ⟨.inl, fun z => z.elim id fun z => by rw [z, ← hy x]; exact c⟩
      · rw [if_neg c, List.mem_cons, hy y]
        exact Or.comm
    · by_cases c : x ∈ ys
      · rw [if_pos c]
        omega
      · rw [if_neg c, List.length_cons]
        omega
    · refine fin s3 zs (Moved.trans W.gtrans ((mv.mono sub).then_heap (Nat.le_succ _) fun b o hb e => ?_) mv3) R4 hz
      rw [sb.2 b fun z => hb (by rw [z]; exact List.mem_cons_self)]
      exact e
theorem call_set_listS {l : Addr} {items : Array Value} {xs : List Str} {Q : Value → Shared → Prop} (hh : A.handled = none) (hl : s.heap.IsList l items) (hi : StrsAre items.toList xs) (hn : xs.length < 4000)
    (h : ∀ (g : Heap) (tk : Nat) (ys : List Str), SetS P w g s.heap.objs.size ys → (∀ x, x ∈ ys ↔ x ∈ xs) → (∀ b o, s.heap.get? b = some o → g.get? b = some o) → Q (.ref s.heap.objs.size) { s with heap := g, toks := tk }) :
    wpAny (model P w) A (call (.type "set") [.ref l]) Q E s := by
  obtain ⟨E0, eE⟩ : ∃ o : Obj, o = { cls := .type "set", dict := none, data := .set #[] 0 (.fresh 0 0 (!w.params.followText "set-order")) } := ⟨_, rfl⟩
  obtain ⟨c, tl, hmro⟩ := F.called_set.mro
  have hmade := F.called_set.made
  have hsub := F.called_set.sub
  have k1 := F.called_set.notType
  have k2 := F.called_set.canCreate
  have k3 := F.typeCall_set_1 (.ref l)
  refine wpAny_call (codeAny_of_tree ?_)
  show wpAny _ _ (callAny (.type "set") _) _ _ _
  refine wpAny_pure ⟨Code.quiet_builtin _ (by decide +kernel), codeAny_builtin F.entry_type_call ?_⟩
  rw [Around.under_plain (weight_type_call_type "set" [.ref l] []) rfl]
  repeat (any_goals (first | assumption | wp_step))
  refine codeAny_mono (L2.code_set_led1 (.ref l) (E := E) (Q₁ := fun v s1 => v = .ref s.heap.objs.size ∧ s1 = { s with heap := s.heap.push E0 }) ⟨rfl, by rw [eE]⟩) fun r s1 hr => ?_
  cases r with
  | error e => exact hr
  | ok fl => cases fl with
    | ret v =>
      obtain ⟨rfl, rfl⟩ := hr
      have gS : (s.heap.push E0).get? s.heap.objs.size = some E0 := Heap.get?_push_size _ (by rw [eE]; rfl)
      have tS : Shared.TypeIs { s with heap := s.heap.push E0 } (.ref s.heap.objs.size) "set" := ⟨_, gS, by rw [eE]⟩
      have k4 := F.called_set.init.lookup
      have k5 := F.called_set.init.bind (.ref s.heap.objs.size)
      repeat (any_goals (first | assumption | wp_step))
      refine codeAny_mono (codeAny_call_builtin (R := wants (fun r s2 => r = .none ∧ ∃ g tk ys, s2 = { s with heap := g, toks := tk } ∧ SetS P w g s.heap.objs.size ys ∧ (∀ x, x ∈ ys ↔ x ∈ xs) ∧ ∀ b o, s.heap.get? b = some o → g.get? b = some o) E) F.called_set.init.plain F.entry_set_init (check_set_init_1 tS ?_)) fun r2 s2 hr2 => ?_
      · subst eE
        have lS : l < s.heap.objs.size := by
          obtain ⟨o, e, _⟩ := hl
          exact Heap.lt_size e
        obtain ⟨⟨oc, od, oda, osl⟩, ho, hc, nl, hd⟩ := hl
        simp only at hc hd
        subst hc hd
        have ho1 : (s.heap.push { cls := .type "set", dict := none, data := .set #[] 0 (.fresh 0 0 (!w.params.followText "set-order")) }).get? l = some { cls := .type "list", dict := od, data := .seq items nl, slots := osl } := Heap.get?_push_of_some _ ho
        have ho2 : (s.heap.push { cls := .type "set", dict := none, data := .set #[] 0 (.fresh 0 0 (!w.params.followText "set-order")) }).IsList l items := ⟨_, ho1, rfl, nl, rfl⟩
        have j1 := F.sub_list_set
        have j2 := F.sub_list_frozenset
        have j3 : (Value.type "list" == Value.type "dict") = false := by decide
        unfold Builtin.«set.__init__» noKeywords Builtin.Frozenset.updateFrom
        generalize hPI : pyIter = PI
        wp_walk
        subst hPI
        refine wpAny_pyIter_list ho2 ?_
        refine wpAny_bind (wpAny_runValue ?_)
        have h3 : A.in1.in1.in1.handled = none := by simp [hh]
        have sz : (s.heap.push { cls := .type "set", dict := none, data := .set #[] 0 (.fresh 0 0 (!w.params.followText "set-order")) }).objs.size = s.heap.objs.size + 1 := Heap.size_push ..
        have nI : l ≠ (s.heap.push { cls := .type "set", dict := none, data := .set #[] 0 (.fresh 0 0 (!w.params.followText "set-order")) }).objs.size := by
          rw [sz]
          exact Nat.ne_of_lt (Nat.lt_succ_of_lt lS)
        have nS : s.heap.objs.size ∉ [(s.heap.push { cls := .type "set", dict := none, data := .set #[] 0 (.fresh 0 0 (!w.params.followText "set-order")) }).objs.size, l] := by
          rw [sz]
          simp only [List.mem_cons, List.not_mem_nil, or_false, not_or]
          exact ⟨Nat.ne_of_lt (Nat.lt_succ_self _), Nat.ne_of_gt lS⟩
        have lx : items.size = xs.length := by
          rw [← StrsAre.len_eq hi, Array.length_toList]
        refine setS_loop ((Walks.list h3 _ l nI items).toS) s.heap.objs.size nS xs lx.symm hn (fun i v hv => SS.strs_at hi i v (by rw [Array.getElem?_toList]; exact hv)) (items.size - 0) 0 _ [] (by omega) (Nat.zero_le _) ⟨⟨_, Heap.get?_push_size _ rfl, rfl, rfl⟩, ho2.push _⟩ ?_ (fun x => by simp) (Nat.le_refl _) (fun s3 ys mv RS hy => ?_)
        · exact (setS_new (P := P) rfl).keep fun o e => Heap.get?_push_of_some _ e
        · obtain ⟨g3, gens3, drawn3, tk3, os3⟩ := s3
          have e1 : gens3 = s.gens := mv.gens
          have e2 : drawn3 = s.drawn := mv.drawn
          have e3 : os3 = s.os := mv.os
          subst e1 e2 e3
          refine wpAny_pure (wpAny_pure ⟨rfl, g3, tk3, ys, rfl, RS, fun x => ?_, fun b o e => ?_⟩)
          · rw [hy x, lx, List.take_length]
          · have lb := Heap.lt_size e
            refine mv.heap b o ?_ (Heap.get?_push_of_some _ (Heap.get?_push_of_some _ e))
            simp only [List.mem_cons, List.not_mem_nil, or_false, not_or]
            rw [sz]
            exact ⟨Nat.ne_of_lt lb, Nat.ne_of_lt (Nat.lt_succ_of_lt lb)⟩
      · cases r2 with
        | error e => exact hr2
        | ok fl => cases fl with
          | ret v =>
            obtain ⟨rfl, g, tk, ys, rfl, q1, q2, q3⟩ := hr2
            repeat (any_goals (first | assumption | wp_step))
            exact h g tk ys q1 q2 q3
          | _ => exact hr2.elim
    | _ => exact hr.elim

theorem call_set_tupS {l : Addr} {items : Array Value} {xs : List Str} {Q : Value → Shared → Prop} (hh : A.handled = none) (hl : s.heap.IsTuple l items) (hi : StrsAre items.toList xs) (hn : xs.length < 4000)
    (h : ∀ (g : Heap) (tk : Nat) (ys : List Str), SetS P w g s.heap.objs.size ys → (∀ x, x ∈ ys ↔ x ∈ xs) → (∀ b o, s.heap.get? b = some o → g.get? b = some o) → Q (.ref s.heap.objs.size) { s with heap := g, toks := tk }) :
    wpAny (model P w) A (call (.type "set") [.ref l]) Q E s := by
  obtain ⟨E0, eE⟩ : ∃ o : Obj, o = { cls := .type "set", dict := none, data := .set #[] 0 (.fresh 0 0 (!w.params.followText "set-order")) } := ⟨_, rfl⟩
  obtain ⟨c, tl, hmro⟩ := F.called_set.mro
  have hmade := F.called_set.made
  have hsub := F.called_set.sub
  have k1 := F.called_set.notType
  have k2 := F.called_set.canCreate
  have k3 := F.typeCall_set_1 (.ref l)
  refine wpAny_call (codeAny_of_tree ?_)
  show wpAny _ _ (callAny (.type "set") _) _ _ _
  refine wpAny_pure ⟨Code.quiet_builtin _ (by decide +kernel), codeAny_builtin F.entry_type_call ?_⟩
  rw [Around.under_plain (weight_type_call_type "set" [.ref l] []) rfl]
  repeat (any_goals (first | assumption | wp_step))
  refine codeAny_mono (L2.code_set_led1 (.ref l) (E := E) (Q₁ := fun v s1 => v = .ref s.heap.objs.size ∧ s1 = { s with heap := s.heap.push E0 }) ⟨rfl, by rw [eE]⟩) fun r s1 hr => ?_
  cases r with
  | error e => exact hr
  | ok fl => cases fl with
    | ret v =>
      obtain ⟨rfl, rfl⟩ := hr
      have gS : (s.heap.push E0).get? s.heap.objs.size = some E0 := Heap.get?_push_size _ (by rw [eE]; rfl)
      have tS : Shared.TypeIs { s with heap := s.heap.push E0 } (.ref s.heap.objs.size) "set" := ⟨_, gS, by rw [eE]⟩
      have k4 := F.called_set.init.lookup
      have k5 := F.called_set.init.bind (.ref s.heap.objs.size)
      repeat (any_goals (first | assumption | wp_step))
      refine codeAny_mono (codeAny_call_builtin (R := wants (fun r s2 => r = .none ∧ ∃ g tk ys, s2 = { s with heap := g, toks := tk } ∧ SetS P w g s.heap.objs.size ys ∧ (∀ x, x ∈ ys ↔ x ∈ xs) ∧ ∀ b o, s.heap.get? b = some o → g.get? b = some o) E) F.called_set.init.plain F.entry_set_init (check_set_init_1 tS ?_)) fun r2 s2 hr2 => ?_
      · subst eE
        have lS : l < s.heap.objs.size := by
          obtain ⟨o, e, _⟩ := hl
          exact Heap.lt_size e
        obtain ⟨⟨oc, od, oda, osl⟩, ho, hc, nl, hd⟩ := hl
        simp only at hc hd
        subst hc hd
        have ho1 : (s.heap.push { cls := .type "set", dict := none, data := .set #[] 0 (.fresh 0 0 (!w.params.followText "set-order")) }).get? l = some { cls := .type "tuple", dict := od, data := .seq items nl, slots := osl } := Heap.get?_push_of_some _ ho
        have ho2 : (s.heap.push { cls := .type "set", dict := none, data := .set #[] 0 (.fresh 0 0 (!w.params.followText "set-order")) }).IsTuple l items := ⟨_, ho1, rfl, nl, rfl⟩
        have j1 := F.sub_tuple_set
        have j2 := F.sub_tuple_frozenset
        have j3 : (Value.type "tuple" == Value.type "dict") = false := by decide
        unfold Builtin.«set.__init__» noKeywords Builtin.Frozenset.updateFrom
        generalize hPI : pyIter = PI
        wp_walk
        subst hPI
        refine wpAny_pyIter_tuple ho2 ?_
        refine wpAny_bind (wpAny_runValue ?_)
        have h3 : A.in1.in1.in1.handled = none := by simp [hh]
        have sz : (s.heap.push { cls := .type "set", dict := none, data := .set #[] 0 (.fresh 0 0 (!w.params.followText "set-order")) }).objs.size = s.heap.objs.size + 1 := Heap.size_push ..
        have nI : l ≠ (s.heap.push { cls := .type "set", dict := none, data := .set #[] 0 (.fresh 0 0 (!w.params.followText "set-order")) }).objs.size := by
          rw [sz]
          exact Nat.ne_of_lt (Nat.lt_succ_of_lt lS)
        have nS : s.heap.objs.size ∉ [(s.heap.push { cls := .type "set", dict := none, data := .set #[] 0 (.fresh 0 0 (!w.params.followText "set-order")) }).objs.size, l] := by
          rw [sz]
          simp only [List.mem_cons, List.not_mem_nil, or_false, not_or]
          exact ⟨Nat.ne_of_lt (Nat.lt_succ_self _), Nat.ne_of_gt lS⟩
        have lx : items.size = xs.length := by
          rw [← StrsAre.len_eq hi, Array.length_toList]
        refine setS_loop ((Walks.tuple h3 _ l nI items).toS) s.heap.objs.size nS xs lx.symm hn (fun i v hv => SS.strs_at hi i v (by rw [Array.getElem?_toList]; exact hv)) (items.size - 0) 0 _ [] (by omega) (Nat.zero_le _) ⟨⟨_, Heap.get?_push_size _ rfl, rfl, rfl⟩, ho2.push _⟩ ?_ (fun x => by simp) (Nat.le_refl _) (fun s3 ys mv RS hy => ?_)
        · exact (setS_new (P := P) rfl).keep fun o e => Heap.get?_push_of_some _ e
        · obtain ⟨g3, gens3, drawn3, tk3, os3⟩ := s3
          have e1 : gens3 = s.gens := mv.gens
          have e2 : drawn3 = s.drawn := mv.drawn
          have e3 : os3 = s.os := mv.os
          subst e1 e2 e3
          refine wpAny_pure (wpAny_pure ⟨rfl, g3, tk3, ys, rfl, RS, fun x => ?_, fun b o e => ?_⟩)
          · rw [hy x, lx, List.take_length]
          · have lb := Heap.lt_size e
            refine mv.heap b o ?_ (Heap.get?_push_of_some _ (Heap.get?_push_of_some _ e))
            simp only [List.mem_cons, List.not_mem_nil, or_false, not_or]
            rw [sz]
            exact ⟨Nat.ne_of_lt lb, Nat.ne_of_lt (Nat.lt_succ_of_lt lb)⟩
      · cases r2 with
        | error e => exact hr2
        | ok fl => cases fl with
          | ret v =>
            obtain ⟨rfl, g, tk, ys, rfl, q1, q2, q3⟩ := hr2
            repeat (any_goals (first | assumption | wp_step))
            exact h g tk ys q1 q2 q3
          | _ => exact hr2.elim
    | _ => exact hr.elim

end
end L2.Sl

set_option Elab.async false
set_option linter.all false
set_option maxRecDepth 100000
set_option maxHeartbeats 8000000
/-! sets of texts as things; sorted of them -/
namespace L2.Sl
open PySem PySem.Spec PyProof.Rows
section
variable {P : Program} {w : World} {A : Around} {E : Value → Shared → Prop} {s : Shared} {a : Addr} {xs : List Str}
theorem strs_of_txt : ∀ {vs : List Value}, (∀ v ∈ vs, ∃ x tk, v = Value.str x tk) → StrsAre vs (vs.map fun v => match v with
    | .str x _ => x
    | _ => Str.empty)
  | [], _ => .nil
  | v :: vs, h => by
    obtain ⟨x, tk, rfl⟩ := h v List.mem_cons_self
    exact .cons x tk (strs_of_txt fun u hu => h u (List.mem_cons_of_mem _ hu))
theorem sorted_setS {Q : Value → Shared → Prop} (R : SetS P w s.heap a xs) (hh : A.handled = none)
    (hQ : ∀ s2 p (out : Array Value) (c : Nat) (ys : List Str), (∀ b o, s.heap.get? b = some o → s2.heap.get? b = some o) → s2.gens = s.gens → s2.os = s.os → s.heap.objs.size ≤ p → s2.heap.get? p = some (seqObj "list" out c) → StrsAre out.toList ys → ys.Perm xs → sortedS ys = true → Q (.ref p) s2) :
    wpAny (model P w) A (call (.builtin "sorted") [.ref a]) Q E s := by
  obtain ⟨o, es, ep, t, ho, ⟨hx, hd⟩, g, pm, nd, l6, hf, hr, hl⟩ := R
  have zb : es.size < scanBound := by
    rw [SetS.size pm]
    unfold scanBound
    omega
  refine Calls.call_function_entry kind_sorted plain_sorted entry_sorted (args_sorted1 _) ?_
  unfold Builtin.«sorted»
  refine wpAny_bind (m := checkCount "sorted" 1 1 _) (wpAny_pure ?_)
  refine wpAny_bind (L2.collect_set (A := A.in1) hh ⟨o, ho, hx.1, hd⟩ hf zb hr hl fun s1 vs k1 hz g1 o1 pv => ?_)
  have hv : ∀ v ∈ vs, ∃ x tk, v = Value.str x tk := fun v hv => by
    obtain ⟨e, he, q⟩ := List.mem_map.mp (pv.mem_iff.mp hv)
    obtain ⟨x, tk, e1, _⟩ := g e he
    exact ⟨x, tk, by rw [← q]; exact e1⟩
  have hS := strs_of_txt hv
  have px : (vs.map fun v => match v with
    | .str x _ => x
    | _ => Str.empty).Perm xs := by
    have z := pv.map fun v : Value => match v with
      | .str x _ => x
      | _ => Str.empty
    rw [List.map_map] at z
    exact z.trans pm
  have lv : vs.length < 4000 := by
    have z := px.length_eq
    rw [List.length_map] at z
    omega
  have lz : vs.length ≤ sizeLine := Nat.le_trans (Nat.le_of_lt lv) (by decide)
  refine wpAny_bind (wpAny_newList ?_ lz)
  have hoL : (s1.heap.push (seqObj "list" vs.toArray 0)).get? s1.heap.objs.size = some (seqObj "list" vs.toArray 0) := Heap.get?_push_size _ rfl
  refine wpAny_bind (wpAny_holding (wpAny_call_entry slot_list_sort ⟨_, hoL, rfl⟩ entry_list_sort (list_sort_treeKAny strKind_oneLt hoL hS.keysOf (fun v1 v2 r e => keyKind_strs (by rw [← e]; exact hS)) lz fun st' a1 a2 => ⟨_, rfl, ?_⟩) (args_list_sort _)))
  obtain ⟨ys, b1, b2, b3⟩ := sorted_out_str hS a1 a2
  generalize (arrOf st').map (·.2) = out at b1 ⊢
  obtain ⟨c, hc⟩ := sortedHeap_at (vs := vs) (out := out) hoL
  refine wpAny_pure ⟨_, rfl, hQ _ s1.heap.objs.size out c ys (fun b u e => ?_) g1 o1 hz hc b1 (b2.trans px) b3⟩
  have q := k1 b u e
  have lt := Heap.lt_size q
  show (sortedHeap (s1.heap.push (seqObj "list" vs.toArray 0)) s1.heap.objs.size vs out).get? b = some u
  rw [sortedHeap_old (Nat.ne_of_lt lt) (by rw [size_push']; exact Nat.lt_succ_of_lt lt)]
  exact Heap.get?_push_of_some _ q
end
/-- the set of texts at a -/
def SetSO (P : Program) (w : World) (a : Addr) (xs : List Str) : HO := .ext fun h => SetS P w h a xs
section
variable {X : Cx}
theorem setSO_new {w : World} {P : Program} {H : Hp} {h : Heap} {a : Addr} {xs : List Str} (R : SetS P w h a xs) : ObjOk P w H h a (SetSO P w a xs) := by
  have ⟨o, _, _, _, ho, _⟩ := R
  exact ⟨R, ⟨o, ho⟩, fun h1 h2 p k => SetS.keep p k⟩
/-- set(xs), texts in a list or a tuple -/
def rSetS (K : PySem.W.Frag) (P : Program) (w : World) : List V → Hp → VK → Prop := fun us H Q => ∃ (l : Addr) (xs : List Str), us = [V.ref l] ∧ (SqL K H l (xs.map V.str) ∨ SqT K H l (xs.map V.str)) ∧ xs.length < 4000 ∧
  ∀ a ys, H a = none → (∀ x, x ∈ ys ↔ x ∈ xs) → ys.Nodup → Q (.ref a) (upd H a (SetSO P w a ys))
theorem cr_setS (hc : X.calm = true) : CallR X (.type "set") (rSetS X.K X.prog X.w) := by
  intro pins s σ H xs us Q I r h
  obtain ⟨l, xs, rfl, hl, hn, q⟩ := h
  rw [Vals.ref1 r]
  have fr : H s.heap.objs.size = none := I.hok.fresh (Nat.le_refl _)
  have fin : ∀ (g : Heap) (tk : Nat) (ys : List Str), SetS X.prog X.w g s.heap.objs.size ys → (∀ x, x ∈ ys ↔ x ∈ xs) → (∀ b o, s.heap.get? b = some o → g.get? b = some o) → ∃ v H', Inv X pins σ H' { s with heap := g, toks := tk } ∧ RelV v (.ref s.heap.objs.size) ∧ Q v H' := fun g tk ys R hy k =>
    ⟨.ref s.heap.objs.size, upd H s.heap.objs.size (SetSO X.prog X.w s.heap.objs.size ys), I.laid (t' := tk) k (Nat.le_refl _) (setSO_new R), rfl, q _ ys fr hy (by obtain ⟨_, _, _, _, _, _, _, _, nd, _⟩ := R; exact nd)⟩
  rcases hl with hl | hl
  · obtain ⟨its, rv, pl, hz⟩ := I.list hl
    exact call_set_listS (I.ok.hd hc) pl.isList rv.strs hn fun g tk ys R hy k => fin g tk ys R hy k
  · obtain ⟨its, rv, pl, hz⟩ := I.tuple hl
    exact call_set_tupS (I.ok.hd hc) pl rv.strs hn fun g tk ys R hy k => fin g tk ys R hy k
/-- sorted(set) -/
def rSortedSS (P : Program) (w : World) : List V → Hp → VK → Prop := fun us H Q => ∃ (a : Addr) (xs : List Str), us = [V.ref a] ∧ H a = some (SetSO P w a xs) ∧
  ∀ (ys : List Str) (p : Addr), ys.Perm xs → sortedS ys = true → H p = none → Q (.ref p) (upd H p (.lst (ys.map V.str)))
theorem cr_sortedSS (hc : X.calm = true) : CallR X (.builtin "sorted") (rSortedSS X.prog X.w) := by
  intro pins s σ H us0 us Q I r h
  obtain ⟨a, xs, rfl, ha, q⟩ := h
  have R : SetS X.prog X.w s.heap a xs := (I.hok a _ ha).1
  rw [Vals.ref1 r]
  have lx : xs.length < 4000 := by
    obtain ⟨_, _, _, _, _, _, _, _, _, l, _⟩ := R
    exact l
  refine sorted_setS R (I.ok.hd hc) fun s2 p out c ys k g o hp hg hs pm so => ?_
  have ln : (ys.map V.str).length ≤ sizeLine := by
    rw [List.length_map, pm.length_eq]
    exact Nat.le_trans (Nat.le_of_lt lx) (by decide)
  have fr : H p = none := I.hok.fresh hp
  have J : Inv X pins σ (upd H p (.lst (ys.map V.str))) { s with heap := s2.heap, gens := s2.gens, drawn := s2.drawn, toks := s2.toks } :=
    I.call (ch := []) (Un.laid k hp fr) (I.hok.laid k hp ⟨ln, out.toList, c, vals_of_strs hs, hg⟩) (by rw [g]; exact I.bare) (fun _ z => nomatch z)
  have e : s2 = { s with heap := s2.heap, gens := s2.gens, drawn := s2.drawn, toks := s2.toks } := by
    cases s2
    cases s
    cases o
    rfl
  rw [e]
  exact ⟨.ref p, _, J, rfl, q ys p pm so fr⟩
end
end L2.Sl

set_option Elab.async false
set_option linter.all false
set_option maxRecDepth 100000
set_option maxHeartbeats 8000000
/-! lists and tuples beside empty ones -/
namespace L2.Sl
open PySem PySem.Spec PyProof.Rows
section
variable {X : Cx}
/-- beside an empty list, or an empty tuple -/
def rNil (K : PySem.W.Frag) (f : Bool → Bool) : R2 := fun x y H Q => ∃ (a b : Addr) (xs : List V), x = .ref a ∧ y = .ref b ∧ ((SqL K H a xs ∧ SqL K H b []) ∨ (SqT K H a xs ∧ SqT K H b [])) ∧ Q (.bl (f xs.isEmpty)) H
theorem op_eqNil (hu : X.A.units + 64 < cLine) : OpR X (compareOp .Eq) (rNil X.K id) := by
  intro pins s σ H x y v u Q I rx ry h
  obtain ⟨a, b, xs, rfl, rfl, h, q⟩ := h
  cases rx
  cases ry
  have u0 : X.A.units < cLine := by omega
  have fin : ∀ c : Bool, c = xs.isEmpty → ∃ v H', Inv X pins σ H' s ∧ RelV v (.bool c) ∧ Q v H' := fun c e => ⟨.bl c, H, I, rfl, by rw [e]; exact q⟩
  rcases h with ⟨h1, h2⟩ | ⟨h1, h2⟩
  · obtain ⟨us, r1, p1, _⟩ := I.list h1
    obtain ⟨ws, r2, p2, _⟩ := I.list h2
    cases r2
    cases us with
    | nil =>
      cases r1
      exact SeqAt.RcAt.lists (e := fun _ => true) p1.isList p2.isList rfl u0 (fun j z _ => absurd z (by simp)) _ _ _ _ (fin _ rfl)
    | cons w us =>
      cases r1
      exact SeqAt.RcAt.lists_lengths p1.isList p2.isList (by simp) u0 _ _ _ _ (fin _ rfl)
  · obtain ⟨us, r1, p1, _⟩ := I.tuple h1
    obtain ⟨ws, r2, p2, _⟩ := I.tuple h2
    cases r2
    cases us with
    | nil =>
      cases r1
      exact SeqAt.RcAt.tuples (e := fun _ => true) p1 p2 u0 (fun j z _ => absurd z (by simp)) _ _ _ _ (fin _ rfl)
    | cons w us =>
      cases r1
      refine SeqAt.RcAt.tuples (e := fun _ => true) p1 p2 u0 (fun j _ z => absurd z (by simp)) _ _ _ _ (fin _ ?_)
      simp
theorem op_neNil (hu : X.A.units + 64 < cLine) : OpR X (compareOp .NotEq) (rNil X.K (!·)) := by
  intro pins s σ H x y v u Q I rx ry h
  obtain ⟨a, b, xs, rfl, rfl, h, q⟩ := h
  cases rx
  cases ry
  have u0 : X.A.units < cLine := by omega
  have fin : ∀ c : Bool, c = !xs.isEmpty → ∃ v H', Inv X pins σ H' s ∧ RelV v (.bool c) ∧ Q v H' := fun c e => ⟨.bl c, H, I, rfl, by rw [e]; exact q⟩
  rcases h with ⟨h1, h2⟩ | ⟨h1, h2⟩
  · obtain ⟨us, r1, p1, _⟩ := I.list h1
    obtain ⟨ws, r2, p2, _⟩ := I.list h2
    cases r2
    cases us with
    | nil =>
      cases r1
      exact SeqAt.RcNeAt.lists (e := fun _ => true) p1.isList p2.isList rfl u0 (fun j z _ => absurd z (by simp)) _ _ _ _ (fin _ rfl)
    | cons w us =>
      cases r1
      exact SeqAt.RcNeAt.lists_lengths p1.isList p2.isList (by simp) u0 _ _ _ _ (fin _ rfl)
  · obtain ⟨us, r1, p1, _⟩ := I.tuple h1
    obtain ⟨ws, r2, p2, _⟩ := I.tuple h2
    cases r2
    cases us with
    | nil =>
      cases r1
      exact SeqAt.RcNeAt.tuples (e := fun _ => true) p1 p2 u0 (fun j z _ => absurd z (by simp)) _ _ _ _ (fin _ rfl)
    | cons w us =>
      cases r1
      refine SeqAt.RcNeAt.tuples (e := fun _ => true) p1 p2 u0 (fun j _ z => absurd z (by simp)) _ _ _ _ (fin _ ?_)
      simp
end
end L2.Sl

set_option Elab.async false
set_option linter.all false
set_option maxRecDepth 100000
set_option maxHeartbeats 8000000
/-! defs that make lambdas, run where nothing is shown; beside empties; many times over; sorted(set(..)) -/
namespace L2.Dl
open PySem PySem.Spec PyProof.Rows L2.Sl
section
variable {P : Program} {w : World} {K : PySem.W.Frag} {mg : Str → Option Value} {base : Heap} {fam : Fam} {T : List (Addr × Str)}
theorem okLG {x qual : Str} {st : Stmt} {f c : Addr} {fd : FuncData} {N ps : List Str} {k : Nat} {C : CL} {t : TDS} (F : FunC K x qual st f fd c) (S : FnScope N ps (defScope st)) (hle : ps.length ≤ N.length) (L : LamFam fam T) (hi : ∀ H, LamX.Tabs T H → fam.IN H (T.map fun r : Addr × Str => r.1))
    (hb : ∀ (A : Around) (outer : List Env) (s : Shared) (H : Hp) (E : XK), A.guards = some [] → Room k (A.deeper (envOfC qual (defScope st) s.heap.objs.size f (.ref c))) →
      PDss fam (cxOf CX0 P w K mg base N qual (defScope st) f (.ref c) A outer s H E).nox E0 (defBody st) t)
    (hc : ∀ ds Kd, ds.length = ps.length → C ds Kd → t (endL Kd) (envD N.length ds)) : FnG P w K mg base CX0 (k + 1) f fd ps (spL T K ps.length C) := by
  refine F.okG S (fun vs H Q E h => ?_) (fun A outer s H vs Q E hgu hr h => ?_)
  · obtain ⟨F, ds, Kd, l, _⟩ := h
    exact l
  · obtain ⟨F0, ds, Kd, l, SF, ft, tb, q, c0, post⟩ := h
    obtain ⟨ts, p, run⟩ := hb A outer s H E hgu hr
    refine ⟨ts, p, ?_⟩
    have isT : ∀ a ∈ (T.map fun r : Addr × Str => r.1), ∃ ps, H a = some (.tbl ps) := fun a m => by
      obtain ⟨r, hr, rfl⟩ := List.mem_map.mp m
      obtain ⟨ps, e, _⟩ := tb r hr
      exact ⟨ps, e⟩
    have fA : ∀ a ∈ (T.map fun r : Addr × Str => r.1), F0 a = none := fun a m => by
      cases e : F0 a with
      | none => rfl
      | some o =>
        obtain ⟨ps, e2⟩ := isT a m
        have z := SF a o e
        rw [e2] at z
        cases z
        exact absurd e (ft a ps)
    have I0 : IV fam K ⟨noTab H, F0, (T.map fun r : Addr × Str => r.1)⟩ (T.map fun r : Addr × Str => r.1) (start N vs) H F0 (envD N.length ds) := by
      refine ⟨SF, fun a o e _ => (noTab_at e).1, fun a o e => .inl e, Same.refl _, ?_, fun i s e => ?_, fun i j _ oi _ => ?_, fun _ z => z, fun a m => ?_, fun i j n m e _ => ?_, hi H tb, ft, fun _ => noTab_FD⟩
      · rw [start_len (by rw [l]; exact hle)]
        unfold envD
        rw [List.length_append, List.length_map, List.length_replicate, ← q.len, l]
        omega
      · obtain ⟨d, ed, rfl⟩ := env_at e
        obtain ⟨v, ev, qv⟩ := q.at_ ed
        exact ⟨v, start_at ev, qv⟩
      · obtain ⟨d, e, o⟩ := oi
        obtain ⟨_, _, rfl⟩ := env_at e
        cases o
      · obtain ⟨ps, e⟩ := isT a m
        exact ⟨by rw [e]; simp, fA a m, .inr m⟩
      · obtain ⟨_, _, z⟩ := env_at e
        cases z
    have fin : ∀ {s : Slot} {Γ : Env'} {v : V} {σ : St} {H' F' : Hp}, Kd s → Same F0 F' → IV fam K ⟨noTab H, F0, (T.map fun r : Addr × Str => r.1)⟩ (T.map fun r : Addr × Str => r.1) σ H' F' Γ → RR fam K ⟨noTab H, F0, (T.map fun r : Addr × Str => r.1)⟩ (T.map fun r : Addr × Str => r.1) σ Γ H' F' v s → (∀ ks, s ≠ .nds ks) → Q v H' := fun {s Γ v σ H' F'} k S I r ns => by
      refine post s v H' F' k (fun a o e n => I.keep a o (noTab_of e n) fun m => ?_) (L.tb I.inv) S I.sub I.ft (fun a o e => I.new a o e) (fun a m => (I.tA a m).2.1) ?_
      · obtain ⟨ps, e2⟩ := isT a m
        rw [e2] at e
        cases e
        exact n ps rfl
      · cases s with
        | imm d => exact r
        | own d =>
          obtain ⟨⟨p, rfl, b1, b2, b3, oc⟩, _⟩ := r
          exact ⟨p, rfl, b1, b2, b3, oc⟩
        | lent d => exact r.elim
        | drw n => exact r.elim
        | nds ks => exact absurd rfl (ns ks)
    refine run ⟨noTab H, F0, (T.map fun r : Addr × Str => r.1)⟩ (T.map fun r : Addr × Str => r.1) _ H F0 _ (endL Kd) _ I0 (hc ds Kd (q.len.symm.trans l) c0) xw_nE ⟨fun Γ σ H' F' k S I => ?_, fun s Γ v σ H' F' k S I r => ?_, fun _ _ _ _ z => z.elim, fun _ _ _ _ z => z.elim⟩
    · exact fin k S I (show Dq K F' .non .none from .non) (fun _ z => nomatch z)
    · exact fin (toldS_of k).1 S I r (toldS_of k).2
end
section
variable {fam : Fam} {X : Cx} {E : XK} {e : Expr} {es : List Expr} {pos : Pos} {tr : TAr} {k i : Nat} {f : Addr} {fd : FuncData} {ps : List Str} {x y : Str} {p py : Pos} {CX : CXT} {T : List (Addr × Str)}
theorem pd_callLG {C : CL} (L : LamFam fam T) (G : FnG X.prog X.w X.K X.mg X.base CX k f fd ps (spL T X.K (es.length + 1) C)) (hgu : X.A.guards = some []) (hr : Room k X.A) (hg : Gl X x) (hm : X.mg x = some (.ref f)) (hk : PySem.W.keepIn X.K (.ref f) = true) (hb : Binds X.K fd ps []) (hx : Passes CX X E)
    (ha : PAr fam X E (e :: es) tr) (hdb : (x == ("__debug__" : Str)) = false := by decide) (he : starEach (e :: es) X.env = (false, eval e X.env) :: starEach es X.env := by rfl) (hpl : (backTo pos (starEach es X.env)).any (·.1) = false := by rfl) :
    PD fam X E (.Call (.Name x p) (e :: es) [] pos) (dCallL (es.length + 1) C tr) := by
  obtain ⟨ts, pa, ha⟩ := ha
  refine ⟨_, pe_callG G hgu hr hg hm hk hb .nil hx pa hdb he hpl, fun B A σ H F Γ Kd Ke Q I t w fin => ?_⟩
  refine ha B A σ H F Γ _ _ _ I t w fun ds Γ1 vs H1 F1 k S I1 q => ?_
  rw [List.append_nil]
  refine ⟨F1, ds, _, q.len.trans k.1, I1.sub, I1.ft, L.tb I1.inv, q, k.2, fun s v H' F' ks eN tb S2 S3 ft nw nT r => ?_⟩
  have tabOf : ∀ a ∈ A, noTab H1 a = none → a ∈ (T.map fun r : Addr × Str => r.1) := fun a m z => by
    obtain ⟨z1, _, _⟩ := I1.tA a m
    cases e : H1 a with
    | none => exact absurd e z1
    | some o =>
      by_cases h : ∀ ps, o ≠ .tbl ps
      · rw [noTab_of e h] at z
        cases z
      · obtain ⟨ps, h⟩ := Classical.not_forall.mp h
        exact L.only I1.inv a m ⟨ps, by rw [e, Classical.not_not.mp h]⟩
  have fA : ∀ a ∈ A, F' a = none := fun a m => by
    obtain ⟨z1, z2, _⟩ := I1.tA a m
    cases e : F' a with
    | none => rfl
    | some o =>
      rcases nw a o e with z | z
      · rw [z2] at z
        cases z
      · have y := nT a (tabOf a m z)
        rw [e] at y
        cases y
  refine fin _ _ _ _ _ ks (S.trans S2) (I1.callL L eN tb S2 S3 ft nw fA) ?_
  cases s with
  | imm d => exact r
  | own d =>
    obtain ⟨p, rfl, b1, b2, b3, oc⟩ := r
    have na : p ∉ A := fun m => b3 (tabOf p m b1)
    exact ⟨⟨p, rfl, I1.none0L L b1 na, b2, na, oc⟩, I1.freshOwnL b1⟩
  | lent d => exact r.elim
  | drw n => exact r.elim
  | nds ks => exact r.elim
end
section
variable {fam : Fam} {X : Cx} {E : XK} {a e : Expr} {es : List Expr} {pos p p2 pos2 : Pos} {tr : TAr} {xa : TB}
/-! beside an empty one -/
def gNil (f : Bool → Bool) : D → D → (Slot → Prop) → Prop
  | .list ds, .list [], k => k (bD (f ds.isEmpty))
  | .tuple ds, .tuple [], k => k (bD (f ds.isEmpty))
  | _, _, _ => False
theorem nil_run {f : Bool → Bool} {B : Bs} {A : List Addr} {σ : St} {H F : Hp} {Γ : Env'} {x y : V} {h1 h2 : Hd} {d1 d2 : D} {Kd : Slot → Prop} {Q : VK} (I : IV fam X.K B A σ H F Γ) (r1 : HdR X.K F σ x h1) (e1 : getB Γ h1 = some d1) (r2 : HdR X.K F σ y h2) (e2 : getB Γ h2 = some d2) (g : gNil f d1 d2 Kd)
    (fin : ∀ s v H' F', Kd s → Same F F' → IV fam X.K B A σ H' F' Γ → RR fam X.K B A σ Γ H' F' v s → Q v H') : rNil X.K f x y H Q := by
  match d1, d2, g with
  | .list ds, .list [], g =>
    obtain ⟨p, vs, rfl, q1, a1⟩ := r1.list I e1
    obtain ⟨p2, us, rfl, q2, a2⟩ := r2.list I e2
    cases a2
    refine ⟨p, p2, vs, rfl, rfl, .inl ⟨q1, q2⟩, ?_⟩
    have e : vs.isEmpty = ds.isEmpty := by cases a1 <;> rfl
    rw [e]
    exact end_sc I fin (.bl _) g
  | .tuple ds, .tuple [], g =>
    obtain ⟨p, vs, rfl, q1, a1⟩ := r1.tup I e1
    obtain ⟨p2, us, rfl, q2, a2⟩ := r2.tup I e2
    cases a2
    refine ⟨p, p2, vs, rfl, rfl, .inr ⟨q1, q2⟩, ?_⟩
    have e : vs.isEmpty = ds.isEmpty := by cases a1 <;> rfl
    rw [e]
    exact end_sc I fin (.bl _) g
theorem do_eqNil (hu : X.A.units + 64 < cLine) : DOp fam X (compareOp .Eq) (gNil id) := ⟨_, op_eqNil hu, fun B A σ H F Γ x y h1 h2 d1 d2 Kd Q I r1 e1 r2 e2 g fin => nil_run I r1 e1 r2 e2 g fin⟩
theorem do_neNil (hu : X.A.units + 64 < cLine) : DOp fam X (compareOp .NotEq) (gNil (!·)) := ⟨_, op_neNil hu, fun B A σ H F Γ x y h1 h2 d1 d2 Kd Q I r1 e1 r2 e2 g fin => nil_run I r1 e1 r2 e2 g fin⟩
/-! many times over -/
theorem dqs_rep {K : PySem.W.Frag} {F : Hp} {vs : List V} {ds : List D} (q : Dqs K F vs ds) : ∀ n : Nat, Dqs K F (List.replicate n vs).flatten (List.replicate n ds).flatten
  | 0 => .nil
  | n + 1 => q.app (dqs_rep q n)
def gRepT : D → D → (Slot → Prop) → Prop
  | .tuple ds, .int n, k => ds ≠ [] ∧ 2 ≤ n ∧ n ≤ 1000 ∧ ds.length ≤ 1000 ∧ k (.imm (.tuple (List.replicate n.toNat ds).flatten))
  | _, _, _ => False
theorem do_repT : DOp fam X (binaryOp .Mult) gRepT := by
  refine ⟨_, op_repT, fun B A σ H F Γ x y h1 h2 d1 d2 Kd Q I r1 e1 r2 e2 g fin => ?_⟩
  match d1, d2, g with
  | .tuple ds, .int n, g =>
    obtain ⟨p, vs, rfl, q1, a1⟩ := r1.tup I e1
    refine ⟨p, n, vs, rfl, r2.int I e2, q1, fun z => g.1 (List.eq_nil_of_length_eq_zero (by rw [← a1.len, z] <;> rfl)), g.2.1, g.2.2.1, by rw [a1.len]; exact g.2.2.2.1, fun z nz => end_tup I fin (dqs_rep a1 _) g.2.2.2.2 nz⟩
theorem pd_repL {n : Int} {j} {p3 : Pos} (h : PAr fam X E es tr) : PD fam X E (.BinOp (.List es p2) .Mult (.Constant (.int n) j p3) pos) (fun Γ Kd Ke => tr Γ (fun ds Γ1 => ds.length ≤ 1000 ∧ 0 ≤ n ∧ n ≤ 1000 ∧ Kd (.own (.list (List.replicate n.toNat ds).flatten)) Γ1) Ke) := by
  obtain ⟨te, pa, h⟩ := h
  refine ⟨_, pe_op op_rep (pe_lst pa) pe_int, fun B A σ H F Γ Kd Ke Q I t w fin => ?_⟩
  refine h B A σ H F Γ _ Ke _ I t w fun ds Γ1 vs H1 F1 k S1 I1 q => ?_
  obtain ⟨l1, n0, n1, k⟩ := k
  have lz : ds.length ≤ sizeLine := Nat.le_trans l1 (by decide)
  refine ⟨by rw [q.len]; exact lz, fun z nz => ?_⟩
  have SA : Same H1 (upd H1 z (.lst vs)) := fun b o e => by
    rw [upd_ne (ne_of_none e nz)]
    exact e
  have I2 := I1.call SA (Same.refl F1) (I1.sub.trans SA) I1.ft (fun a o e => .inl e)
  refine ⟨z, n, vs, rfl, rfl, upd_same, by omega, by omega, ?_, fun z2 nz2 => end_lst (Kd := fun s => Kd s Γ1) I2 (fun s v H' F' k S' I' rr => fin _ _ _ _ _ k (S1.trans S') I' rr) (dqs_rep q _) k nz2⟩
  rw [q.len]
  exact Nat.le_trans (Nat.mul_le_mul l1 (show n.toNat ≤ 1000 by omega)) (by decide)
/-! sorted(set(..)), texts -/
def gSortSet (d : D) (k : Slot → Prop) : Prop := ∃ zs : List Str, (d = .list (zs.map PyData.str) ∨ d = .tuple (zs.map PyData.str)) ∧ zs.length < 4000 ∧ ∀ ys : List Str, (∀ x, x ∈ ys ↔ x ∈ zs) → ys.Nodup → sortedS ys = true → k (.own (.list (ys.map PyData.str)))
theorem dqs_strs {K : PySem.W.Frag} {F : Hp} : ∀ {vs : List V} {zs : List Str}, Dqs K F vs (zs.map PyData.str) → vs = zs.map V.str
  | _, [], q => by cases q; rfl
  | _, z :: zs, q => by
    cases q with
    | cons q1 q2 =>
      cases q1
      rw [dqs_strs q2]
      rfl
theorem pd_sortSet (hc : X.calm = true) (hg : Gl X "sorted") (hm : X.mg "sorted" = none) (hg2 : Gl X "set") (hm2 : X.mg "set" = none) (ha : PB fam X E a xa) (hs : starEach [a] X.env = (false, eval a X.env) :: starEach [] X.env := by rfl)
    (hs2 : starEach [.Call (.Name "set" p2) [a] [] pos2] X.env = (false, eval (.Call (.Name "set" p2) [a] [] pos2) X.env) :: starEach [] X.env := by rfl) (hpl : (backTo pos2 (starEach ([] : List Expr) X.env)).any (·.1) = false := by rfl) (hpl2 : (backTo pos (starEach ([] : List Expr) X.env)).any (·.1) = false := by rfl) :
    PD fam X E (.Call (.Name "sorted" p) [.Call (.Name "set" p2) [a] [] pos2] [] pos) (dCall1 gSortSet xa) := by
  obtain ⟨te, pa, run⟩ := ha
  refine ⟨_, L2.pe_callB (cr_sortedSS hc) hg hm (by decide +kernel) (pa_cons (L2.pe_callTy (cr_setS hc) hg2 hm2 (by decide +kernel) (pa_cons pa pa_nil hs) (by decide) (by decide) hs hpl) pa_nil hs2) (by decide) (by decide) hs2 hpl2, fun B A σ H F Γ Kd Ke Q I g w fin => ?_⟩
  refine run B A σ H F Γ _ Ke _ I g w fun h Γ1 v H1 F1 k S1 I1 r => ?_
  match eb : getB Γ1 h, k with
  | some d, k =>
    obtain ⟨zs, hd, l4, k⟩ := k
    obtain ⟨l, rfl, hq⟩ : ∃ l, v = .ref l ∧ (SqL X.K H1 l (zs.map V.str) ∨ SqT X.K H1 l (zs.map V.str)) := by
      rcases hd with rfl | rfl
      · obtain ⟨p, vs, rfl, q1, a1⟩ := r.list I1 eb
        rw [dqs_strs a1] at q1
        exact ⟨p, rfl, .inl q1⟩
      · obtain ⟨p, vs, rfl, q1, a1⟩ := r.tup I1 eb
        rw [dqs_strs a1] at q1
        exact ⟨p, rfl, .inr q1⟩
    refine ⟨l, zs, rfl, hq, l4, fun a ys na hy nd => ⟨a, ys, rfl, upd_same, fun us z pm so nz => ?_⟩⟩
    have SA : Same H1 (upd H1 a (SetSO X.prog X.w a ys)) := fun b o e => by
      rw [upd_ne (ne_of_none e na)]
      exact e
    have I2 := I1.call SA (Same.refl F1) (I1.sub.trans SA) I1.ft (fun a o e => .inl e)
    exact end_lst (Kd := fun s => Kd s Γ1) I2 (fun s v H' F' k S' I' rr => fin _ _ _ _ _ k (S1.trans S') I' rr) (Dqs.strs us) (k us (fun x => pm.mem_iff.trans (hy x)) (pm.nodup_iff.mpr nd) so) nz
end
end L2.Dl

set_option Elab.async false
set_option linter.all false
set_option maxRecDepth 100000
set_option maxHeartbeats 8000000
namespace L2.Pr
open PySem PySem.Spec PyProof.Rows L2.Sl L2.Dl
def topS (i : Nat) : Stmt := PySem.Challenge.pw_slotsure_k03_gears_looked_at.main.body.getD i (.Pass ⟨0, 0, 0, 0⟩)
abbrev s_is_whole : Stmt := topS 20
abbrev N_is_whole : List Str := ["thing", "least", "most"]
theorem sc_is_whole : FnScope N_is_whole ["thing", "least", "most"] (defScope s_is_whole) := ⟨rfl, rfl, rfl, by decide +kernel, rfl, by decide +kernel, by decide +kernel⟩
abbrev s_is_name : Stmt := topS 21
abbrev N_is_name : List Str := ["thing", "sign"]
theorem sc_is_name : FnScope N_is_name ["thing"] (defScope s_is_name) := ⟨rfl, rfl, rfl, by decide +kernel, rfl, by decide +kernel, by decide +kernel⟩
abbrev s_is_row : Stmt := topS 22
abbrev N_is_row : List Str := ["thing", "least", "most"]
theorem sc_is_row : FnScope N_is_row ["thing", "least", "most"] (defScope s_is_row) := ⟨rfl, rfl, rfl, by decide +kernel, rfl, by decide +kernel, by decide +kernel⟩
abbrev s_rises : Stmt := topS 23
abbrev N_rises : List Str := ["row", "one", "other"]
theorem sc_rises : FnScope N_rises ["row"] (defScope s_rises) := ⟨rfl, rfl, rfl, by decide +kernel, rfl, by decide +kernel, by decide +kernel⟩
abbrev s_need_gear : Stmt := topS 30
abbrev N_need_gear : List Str := ["gear", "spaces", "boxes", "space", "box"]
theorem sc_need_gear : FnScope N_need_gear ["gear"] (defScope s_need_gear) := ⟨rfl, rfl, rfl, by decide +kernel, rfl, by decide +kernel, by decide +kernel⟩
abbrev s_slots : Stmt := topS 31
abbrev N_slots : List Str := ["gear", "box"]
theorem sc_slots : FnScope N_slots ["gear", "box"] (defScope s_slots) := ⟨rfl, rfl, rfl, by decide +kernel, rfl, by decide +kernel, by decide +kernel⟩
abbrev s_moved : Stmt := topS 32
abbrev N_moved : List Str := ["row", "order", "at"]
theorem sc_moved : FnScope N_moved ["row", "order"] (defScope s_moved) := ⟨rfl, rfl, rfl, by decide +kernel, rfl, by decide +kernel, by decide +kernel⟩
abbrev s_found_box : Stmt := topS 33
abbrev N_found_box : List Str := ["gear", "box", "found"]
theorem sc_found_box : FnScope N_found_box ["gear", "box"] (defScope s_found_box) := ⟨rfl, rfl, rfl, by decide +kernel, rfl, by decide +kernel, by decide +kernel⟩
abbrev s_is_slot : Stmt := topS 34
abbrev N_is_slot : List Str := ["spaces", "thing", "space", "side"]
theorem sc_is_slot : FnScope N_is_slot ["spaces", "thing"] (defScope s_is_slot) := ⟨rfl, rfl, rfl, by decide +kernel, rfl, by decide +kernel, by decide +kernel⟩
abbrev s_is_move : Stmt := topS 35
abbrev N_is_move : List Str := ["many", "thing", "order", "sign", "at"]
theorem sc_is_move : FnScope N_is_move ["many", "thing"] (defScope s_is_move) := ⟨rfl, rfl, rfl, by decide +kernel, rfl, by decide +kernel, by decide +kernel⟩
abbrev s_need_box : Stmt := topS 36
abbrev N_need_box : List Str := ["spaces", "box", "name", "kinds", "moves", "kind", "move", "order", "_"]
theorem sc_need_box : FnScope N_need_box ["spaces", "box"] (defScope s_need_box) := ⟨rfl, rfl, rfl, by decide +kernel, rfl, by decide +kernel, by decide +kernel⟩
abbrev s_law_start : Stmt := topS 38
abbrev N_law_start : List Str := ["script"]
theorem sc_law_start : FnScope N_law_start ["script"] (defScope s_law_start) := ⟨rfl, rfl, rfl, by decide +kernel, rfl, by decide +kernel, by decide +kernel⟩
abbrev s_law_draw : Stmt := topS 39
abbrev N_law_draw : List Str := ["d", "many", "found", "cells", "cell", "k", "one"]
theorem sc_law_draw : FnScope N_law_draw ["d", "many"] (defScope s_law_draw) := ⟨rfl, rfl, rfl, by decide +kernel, rfl, by decide +kernel, by decide +kernel⟩
abbrev s_law_pick : Stmt := topS 40
abbrev N_law_pick : List Str := ["d", "some"]
theorem sc_law_pick : FnScope N_law_pick ["d", "some"] (defScope s_law_pick) := ⟨rfl, rfl, rfl, by decide +kernel, rfl, by decide +kernel, by decide +kernel⟩
abbrev s_law_names : Stmt := topS 41
abbrev N_law_names : List Str := ["d", "many", "signs", "found", "size", "wide", "name", "k", "sign"]
theorem sc_law_names : FnScope N_law_names ["d", "many"] (defScope s_law_names) := ⟨rfl, rfl, rfl, by decide +kernel, rfl, by decide +kernel, by decide +kernel⟩
abbrev s_law_order : Stmt := topS 42
abbrev N_law_order : List Str := ["d", "held", "left", "found", "slot", "k"]
theorem sc_law_order : FnScope N_law_order ["d", "held"] (defScope s_law_order) := ⟨rfl, rfl, rfl, by decide +kernel, rfl, by decide +kernel, by decide +kernel⟩
abbrev s_law_gear : Stmt := topS 43
abbrev N_law_gear : List Str := ["d", "spaces", "boxes", "name", "held", "way", "k", "slot", "moves"]
theorem sc_law_gear : FnScope N_law_gear ["d"] (defScope s_law_gear) := ⟨rfl, rfl, rfl, by decide +kernel, rfl, by decide +kernel, by decide +kernel⟩
abbrev s_law_odd : Stmt := topS 44
abbrev N_law_odd : List Str := ["d", "some"]
theorem sc_law_odd : FnScope N_law_odd ["d"] (defScope s_law_odd) := ⟨rfl, rfl, rfl, by decide +kernel, rfl, by decide +kernel, by decide +kernel⟩
abbrev s_law_bent : Stmt := topS 45
abbrev N_law_bent : List Str := ["d", "thing", "way", "at", "some"]
theorem sc_law_bent : FnScope N_law_bent ["d", "thing"] (defScope s_law_bent) := ⟨rfl, rfl, rfl, by decide +kernel, rfl, by decide +kernel, by decide +kernel⟩
abbrev s_law_is_row : Stmt := topS 46
abbrev N_law_is_row : List Str := ["thing", "least", "most"]
theorem sc_law_is_row : FnScope N_law_is_row ["thing", "least", "most"] (defScope s_law_is_row) := ⟨rfl, rfl, rfl, by decide +kernel, rfl, by decide +kernel, by decide +kernel⟩
abbrev s_law_is_name : Stmt := topS 47
abbrev N_law_is_name : List Str := ["thing", "sign"]
theorem sc_law_is_name : FnScope N_law_is_name ["thing"] (defScope s_law_is_name) := ⟨rfl, rfl, rfl, by decide +kernel, rfl, by decide +kernel, by decide +kernel⟩
abbrev s_law_rises : Stmt := topS 48
abbrev N_law_rises : List Str := ["names", "name"]
theorem sc_law_rises : FnScope N_law_rises ["names"] (defScope s_law_rises) := ⟨rfl, rfl, rfl, by decide +kernel, rfl, by decide +kernel, by decide +kernel⟩
abbrev s_law_is_whole : Stmt := topS 49
abbrev N_law_is_whole : List Str := ["thing"]
theorem sc_law_is_whole : FnScope N_law_is_whole ["thing"] (defScope s_law_is_whole) := ⟨rfl, rfl, rfl, by decide +kernel, rfl, by decide +kernel, by decide +kernel⟩
abbrev s_law_is_move : Stmt := topS 50
abbrev N_law_is_move : List Str := ["held", "thing", "k"]
theorem sc_law_is_move : FnScope N_law_is_move ["held", "thing"] (defScope s_law_is_move) := ⟨rfl, rfl, rfl, by decide +kernel, rfl, by decide +kernel, by decide +kernel⟩
abbrev s_law_is_box : Stmt := topS 51
abbrev N_law_is_box : List Str := ["spaces", "thing", "slot", "move"]
theorem sc_law_is_box : FnScope N_law_is_box ["spaces", "thing"] (defScope s_law_is_box) := ⟨rfl, rfl, rfl, by decide +kernel, rfl, by decide +kernel, by decide +kernel⟩
abbrev s_law_is_gear : Stmt := topS 52
abbrev N_law_is_gear : List Str := ["thing", "part"]
theorem sc_law_is_gear : FnScope N_law_is_gear ["thing"] (defScope s_law_is_gear) := ⟨rfl, rfl, rfl, by decide +kernel, rfl, by decide +kernel, by decide +kernel⟩
abbrev s_law_said : Stmt := topS 53
abbrev N_law_said : List Str := ["deed", "caught", "found", "e", "others"]
theorem sc_law_said : FnScope N_law_said ["deed"] (defScope s_law_said) := ⟨rfl, rfl, rfl, by decide +kernel, rfl, by decide +kernel, by decide +kernel⟩
abbrev s_law_right : Stmt := topS 54
abbrev N_law_right : List Str := ["thing", "shown", "due"]
theorem sc_law_right : FnScope N_law_right ["thing"] (defScope s_law_right) := ⟨rfl, rfl, rfl, by decide +kernel, rfl, by decide +kernel, by decide +kernel⟩
abbrev s_law_bounds_right : Stmt := topS 55
abbrev N_law_bounds_right : List Str := ["spaces", "slot", "moves", "boxes", "name", "wide", "some", "good", "one"]
theorem sc_law_bounds_right : FnScope N_law_bounds_right [] (defScope s_law_bounds_right) := ⟨rfl, rfl, rfl, by decide +kernel, rfl, by decide +kernel, by decide +kernel⟩
abbrev s_law : Stmt := topS 56
abbrev N_law : List Str := ["script", "d", "turn", "own", "bent", "k", "thing", "one", "name", "held", "moves"]
theorem sc_law : FnScope N_law ["script"] (defScope s_law) := ⟨rfl, rfl, rfl, by decide +kernel, rfl, by decide +kernel, by decide +kernel⟩
abbrev in_BadGear : Stmt := inClass (topS 4) 0
theorem it_BadGear : SlX.InitTxt in_BadGear ["why"] := ⟨(.cons _ _ _ _ (.nil) : SlX.Inits (defBody in_BadGear) ["why"]), by decide +kernel, by decide +kernel, rfl, rfl, rfl⟩
theorem bi_BadGear : ∀ us : List Value, us.length = (["why"] : List Str).length → SlX.BindI in_BadGear "BadGear.__init__" ["why"] (fun u => ⟨u :: us, []⟩) us := fun us h => match us, h with | [_], _ => fun _ _ _ _ _ _ _ _ => .of_eq rfl
abbrev in_BadTerm : Stmt := inClass (topS 5) 0
theorem it_BadTerm : SlX.InitTxt in_BadTerm ["why"] := ⟨(.cons _ _ _ _ (.nil) : SlX.Inits (defBody in_BadTerm) ["why"]), by decide +kernel, by decide +kernel, rfl, rfl, rfl⟩
theorem bi_BadTerm : ∀ us : List Value, us.length = (["why"] : List Str).length → SlX.BindI in_BadTerm "BadTerm.__init__" ["why"] (fun u => ⟨u :: us, []⟩) us := fun us h => match us, h with | [_], _ => fun _ _ _ _ _ _ _ _ => .of_eq rfl
abbrev in_BadSum : Stmt := inClass (topS 6) 0
theorem it_BadSum : SlX.InitTxt in_BadSum ["why"] := ⟨(.cons _ _ _ _ (.nil) : SlX.Inits (defBody in_BadSum) ["why"]), by decide +kernel, by decide +kernel, rfl, rfl, rfl⟩
theorem bi_BadSum : ∀ us : List Value, us.length = (["why"] : List Str).length → SlX.BindI in_BadSum "BadSum.__init__" ["why"] (fun u => ⟨u :: us, []⟩) us := fun us h => match us, h with | [_], _ => fun _ _ _ _ _ _ _ _ => .of_eq rfl
abbrev in_BadSizes : Stmt := inClass (topS 7) 0
theorem it_BadSizes : SlX.InitTxt in_BadSizes ["why"] := ⟨(.cons _ _ _ _ (.nil) : SlX.Inits (defBody in_BadSizes) ["why"]), by decide +kernel, by decide +kernel, rfl, rfl, rfl⟩
theorem bi_BadSizes : ∀ us : List Value, us.length = (["why"] : List Str).length → SlX.BindI in_BadSizes "BadSizes.__init__" ["why"] (fun u => ⟨u :: us, []⟩) us := fun us h => match us, h with | [_], _ => fun _ _ _ _ _ _ _ _ => .of_eq rfl
abbrev in_BadArrays : Stmt := inClass (topS 8) 0
theorem it_BadArrays : SlX.InitTxt in_BadArrays ["why"] := ⟨(.cons _ _ _ _ (.nil) : SlX.Inits (defBody in_BadArrays) ["why"]), by decide +kernel, by decide +kernel, rfl, rfl, rfl⟩
theorem bi_BadArrays : ∀ us : List Value, us.length = (["why"] : List Str).length → SlX.BindI in_BadArrays "BadArrays.__init__" ["why"] (fun u => ⟨u :: us, []⟩) us := fun us h => match us, h with | [_], _ => fun _ _ _ _ _ _ _ _ => .of_eq rfl
abbrev in_BadNumber : Stmt := inClass (topS 9) 0
theorem it_BadNumber : SlX.InitTxt in_BadNumber ["why"] := ⟨(.cons _ _ _ _ (.nil) : SlX.Inits (defBody in_BadNumber) ["why"]), by decide +kernel, by decide +kernel, rfl, rfl, rfl⟩
theorem bi_BadNumber : ∀ us : List Value, us.length = (["why"] : List Str).length → SlX.BindI in_BadNumber "BadNumber.__init__" ["why"] (fun u => ⟨u :: us, []⟩) us := fun us h => match us, h with | [_], _ => fun _ _ _ _ _ _ _ _ => .of_eq rfl
abbrev in_BadName : Stmt := inClass (topS 10) 0
theorem it_BadName : SlX.InitTxt in_BadName ["why"] := ⟨(.cons _ _ _ _ (.nil) : SlX.Inits (defBody in_BadName) ["why"]), by decide +kernel, by decide +kernel, rfl, rfl, rfl⟩
theorem bi_BadName : ∀ us : List Value, us.length = (["why"] : List Str).length → SlX.BindI in_BadName "BadName.__init__" ["why"] (fun u => ⟨u :: us, []⟩) us := fun us h => match us, h with | [_], _ => fun _ _ _ _ _ _ _ _ => .of_eq rfl
abbrev in_BadPlan : Stmt := inClass (topS 11) 0
theorem it_BadPlan : SlX.InitTxt in_BadPlan ["why"] := ⟨(.cons _ _ _ _ (.nil) : SlX.Inits (defBody in_BadPlan) ["why"]), by decide +kernel, by decide +kernel, rfl, rfl, rfl⟩
theorem bi_BadPlan : ∀ us : List Value, us.length = (["why"] : List Str).length → SlX.BindI in_BadPlan "BadPlan.__init__" ["why"] (fun u => ⟨u :: us, []⟩) us := fun us h => match us, h with | [_], _ => fun _ _ _ _ _ _ _ _ => .of_eq rfl
abbrev in_BadDefinition : Stmt := inClass (topS 12) 0
theorem it_BadDefinition : SlX.InitTxt in_BadDefinition ["why"] := ⟨(.cons _ _ _ _ (.nil) : SlX.Inits (defBody in_BadDefinition) ["why"]), by decide +kernel, by decide +kernel, rfl, rfl, rfl⟩
theorem bi_BadDefinition : ∀ us : List Value, us.length = (["why"] : List Str).length → SlX.BindI in_BadDefinition "BadDefinition.__init__" ["why"] (fun u => ⟨u :: us, []⟩) us := fun us h => match us, h with | [_], _ => fun _ _ _ _ _ _ _ _ => .of_eq rfl
abbrev in_BadDeed : Stmt := inClass (topS 13) 0
theorem it_BadDeed : SlX.InitTxt in_BadDeed ["why"] := ⟨(.cons _ _ _ _ (.nil) : SlX.Inits (defBody in_BadDeed) ["why"]), by decide +kernel, by decide +kernel, rfl, rfl, rfl⟩
theorem bi_BadDeed : ∀ us : List Value, us.length = (["why"] : List Str).length → SlX.BindI in_BadDeed "BadDeed.__init__" ["why"] (fun u => ⟨u :: us, []⟩) us := fun us h => match us, h with | [_], _ => fun _ _ _ _ _ _ _ _ => .of_eq rfl
abbrev in_BadStep : Stmt := inClass (topS 14) 0
theorem it_BadStep : SlX.InitTxt in_BadStep ["number"] := ⟨(.cons _ _ _ _ (.nil) : SlX.Inits (defBody in_BadStep) ["number"]), by decide +kernel, by decide +kernel, rfl, rfl, rfl⟩
theorem bi_BadStep : ∀ us : List Value, us.length = (["number"] : List Str).length → SlX.BindI in_BadStep "BadStep.__init__" ["number"] (fun u => ⟨u :: us, []⟩) us := fun us h => match us, h with | [_], _ => fun _ _ _ _ _ _ _ _ => .of_eq rfl
abbrev in_BadLine : Stmt := inClass (topS 15) 0
theorem it_BadLine : SlX.InitTxt in_BadLine ["line"] := ⟨(.cons _ _ _ _ (.nil) : SlX.Inits (defBody in_BadLine) ["line"]), by decide +kernel, by decide +kernel, rfl, rfl, rfl⟩
theorem bi_BadLine : ∀ us : List Value, us.length = (["line"] : List Str).length → SlX.BindI in_BadLine "BadLine.__init__" ["line"] (fun u => ⟨u :: us, []⟩) us := fun us h => match us, h with | [_], _ => fun _ _ _ _ _ _ _ _ => .of_eq rfl
abbrev in_NoBox : Stmt := inClass (topS 16) 0
theorem it_NoBox : SlX.InitTxt in_NoBox ["name"] := ⟨(.cons _ _ _ _ (.nil) : SlX.Inits (defBody in_NoBox) ["name"]), by decide +kernel, by decide +kernel, rfl, rfl, rfl⟩
theorem bi_NoBox : ∀ us : List Value, us.length = (["name"] : List Str).length → SlX.BindI in_NoBox "NoBox.__init__" ["name"] (fun u => ⟨u :: us, []⟩) us := fun us h => match us, h with | [_], _ => fun _ _ _ _ _ _ _ _ => .of_eq rfl
structure Txt (K : PySem.W.Frag) (mg : Str → Option Value) where
  f_is_whole : Addr
  d_is_whole : FuncData
  F_is_whole : Fun K "is_whole" "is_whole" s_is_whole f_is_whole d_is_whole
  b_is_whole : Binds K d_is_whole ["thing", "least", "most"] []
  g_is_whole : mg "is_whole" = some (.ref f_is_whole)
  f_is_name : Addr
  d_is_name : FuncData
  F_is_name : Fun K "is_name" "is_name" s_is_name f_is_name d_is_name
  b_is_name : Binds K d_is_name ["thing"] []
  g_is_name : mg "is_name" = some (.ref f_is_name)
  f_is_row : Addr
  d_is_row : FuncData
  F_is_row : Fun K "is_row" "is_row" s_is_row f_is_row d_is_row
  b_is_row : Binds K d_is_row ["thing", "least", "most"] []
  g_is_row : mg "is_row" = some (.ref f_is_row)
  f_rises : Addr
  d_rises : FuncData
  F_rises : Fun K "rises" "rises" s_rises f_rises d_rises
  b_rises : Binds K d_rises ["row"] []
  g_rises : mg "rises" = some (.ref f_rises)
  f_need_gear : Addr
  d_need_gear : FuncData
  F_need_gear : Fun K "need_gear" "need_gear" s_need_gear f_need_gear d_need_gear
  b_need_gear : Binds K d_need_gear ["gear"] []
  g_need_gear : mg "need_gear" = some (.ref f_need_gear)
  f_slots : Addr
  d_slots : FuncData
  F_slots : Fun K "slots" "slots" s_slots f_slots d_slots
  b_slots : Binds K d_slots ["gear", "box"] []
  g_slots : mg "slots" = some (.ref f_slots)
  f_moved : Addr
  d_moved : FuncData
  F_moved : Fun K "moved" "moved" s_moved f_moved d_moved
  b_moved : Binds K d_moved ["row", "order"] []
  g_moved : mg "moved" = some (.ref f_moved)
  f_found_box : Addr
  d_found_box : FuncData
  F_found_box : Fun K "found_box" "found_box" s_found_box f_found_box d_found_box
  b_found_box : Binds K d_found_box ["gear", "box"] []
  g_found_box : mg "found_box" = some (.ref f_found_box)
  f_is_slot : Addr
  d_is_slot : FuncData
  F_is_slot : Fun K "is_slot" "is_slot" s_is_slot f_is_slot d_is_slot
  b_is_slot : Binds K d_is_slot ["spaces", "thing"] []
  g_is_slot : mg "is_slot" = some (.ref f_is_slot)
  f_is_move : Addr
  d_is_move : FuncData
  F_is_move : Fun K "is_move" "is_move" s_is_move f_is_move d_is_move
  b_is_move : Binds K d_is_move ["many", "thing"] []
  g_is_move : mg "is_move" = some (.ref f_is_move)
  f_need_box : Addr
  d_need_box : FuncData
  F_need_box : Fun K "_need_box" "_need_box" s_need_box f_need_box d_need_box
  b_need_box : Binds K d_need_box ["spaces", "box"] []
  g_need_box : mg "_need_box" = some (.ref f_need_box)
  f_law_start : Addr
  d_law_start : FuncData
  F_law_start : Fun K "_law_start" "_law_start" s_law_start f_law_start d_law_start
  b_law_start : Binds K d_law_start ["script"] []
  g_law_start : mg "_law_start" = some (.ref f_law_start)
  f_law_draw : Addr
  d_law_draw : FuncData
  F_law_draw : Fun K "_law_draw" "_law_draw" s_law_draw f_law_draw d_law_draw
  b_law_draw : Binds K d_law_draw ["d", "many"] []
  g_law_draw : mg "_law_draw" = some (.ref f_law_draw)
  f_law_pick : Addr
  d_law_pick : FuncData
  F_law_pick : Fun K "_law_pick" "_law_pick" s_law_pick f_law_pick d_law_pick
  b_law_pick : Binds K d_law_pick ["d", "some"] []
  g_law_pick : mg "_law_pick" = some (.ref f_law_pick)
  f_law_names : Addr
  d_law_names : FuncData
  F_law_names : Fun K "_law_names" "_law_names" s_law_names f_law_names d_law_names
  b_law_names : Binds K d_law_names ["d", "many"] []
  g_law_names : mg "_law_names" = some (.ref f_law_names)
  f_law_order : Addr
  d_law_order : FuncData
  F_law_order : Fun K "_law_order" "_law_order" s_law_order f_law_order d_law_order
  b_law_order : Binds K d_law_order ["d", "held"] []
  g_law_order : mg "_law_order" = some (.ref f_law_order)
  f_law_gear : Addr
  d_law_gear : FuncData
  F_law_gear : Fun K "_law_gear" "_law_gear" s_law_gear f_law_gear d_law_gear
  b_law_gear : Binds K d_law_gear ["d"] []
  g_law_gear : mg "_law_gear" = some (.ref f_law_gear)
  f_law_odd : Addr
  d_law_odd : FuncData
  F_law_odd : Fun K "_law_odd" "_law_odd" s_law_odd f_law_odd d_law_odd
  b_law_odd : Binds K d_law_odd ["d"] []
  g_law_odd : mg "_law_odd" = some (.ref f_law_odd)
  f_law_bent : Addr
  d_law_bent : FuncData
  F_law_bent : Fun K "_law_bent" "_law_bent" s_law_bent f_law_bent d_law_bent
  b_law_bent : Binds K d_law_bent ["d", "thing"] []
  g_law_bent : mg "_law_bent" = some (.ref f_law_bent)
  f_law_is_row : Addr
  d_law_is_row : FuncData
  F_law_is_row : Fun K "_law_is_row" "_law_is_row" s_law_is_row f_law_is_row d_law_is_row
  b_law_is_row : Binds K d_law_is_row ["thing", "least", "most"] []
  g_law_is_row : mg "_law_is_row" = some (.ref f_law_is_row)
  f_law_is_name : Addr
  d_law_is_name : FuncData
  F_law_is_name : Fun K "_law_is_name" "_law_is_name" s_law_is_name f_law_is_name d_law_is_name
  b_law_is_name : Binds K d_law_is_name ["thing"] []
  g_law_is_name : mg "_law_is_name" = some (.ref f_law_is_name)
  f_law_rises : Addr
  d_law_rises : FuncData
  F_law_rises : Fun K "_law_rises" "_law_rises" s_law_rises f_law_rises d_law_rises
  b_law_rises : Binds K d_law_rises ["names"] []
  g_law_rises : mg "_law_rises" = some (.ref f_law_rises)
  f_law_is_whole : Addr
  d_law_is_whole : FuncData
  F_law_is_whole : Fun K "_law_is_whole" "_law_is_whole" s_law_is_whole f_law_is_whole d_law_is_whole
  b_law_is_whole : Binds K d_law_is_whole ["thing"] []
  g_law_is_whole : mg "_law_is_whole" = some (.ref f_law_is_whole)
  f_law_is_move : Addr
  d_law_is_move : FuncData
  F_law_is_move : Fun K "_law_is_move" "_law_is_move" s_law_is_move f_law_is_move d_law_is_move
  b_law_is_move : Binds K d_law_is_move ["held", "thing"] []
  g_law_is_move : mg "_law_is_move" = some (.ref f_law_is_move)
  f_law_is_box : Addr
  d_law_is_box : FuncData
  F_law_is_box : Fun K "_law_is_box" "_law_is_box" s_law_is_box f_law_is_box d_law_is_box
  b_law_is_box : Binds K d_law_is_box ["spaces", "thing"] []
  g_law_is_box : mg "_law_is_box" = some (.ref f_law_is_box)
  f_law_is_gear : Addr
  d_law_is_gear : FuncData
  F_law_is_gear : Fun K "_law_is_gear" "_law_is_gear" s_law_is_gear f_law_is_gear d_law_is_gear
  b_law_is_gear : Binds K d_law_is_gear ["thing"] []
  g_law_is_gear : mg "_law_is_gear" = some (.ref f_law_is_gear)
  f_law_said : Addr
  d_law_said : FuncData
  F_law_said : Fun K "_law_said" "_law_said" s_law_said f_law_said d_law_said
  b_law_said : Binds K d_law_said ["deed"] []
  g_law_said : mg "_law_said" = some (.ref f_law_said)
  f_law_right : Addr
  d_law_right : FuncData
  F_law_right : Fun K "_law_right" "_law_right" s_law_right f_law_right d_law_right
  b_law_right : Binds K d_law_right ["thing"] []
  g_law_right : mg "_law_right" = some (.ref f_law_right)
  f_law_bounds_right : Addr
  d_law_bounds_right : FuncData
  F_law_bounds_right : Fun K "_law_bounds_right" "_law_bounds_right" s_law_bounds_right f_law_bounds_right d_law_bounds_right
  b_law_bounds_right : Binds K d_law_bounds_right [] []
  g_law_bounds_right : mg "_law_bounds_right" = some (.ref f_law_bounds_right)
  f_law : Addr
  d_law : FuncData
  F_law : Fun K "law" "law" s_law f_law d_law
  b_law : Binds K d_law ["script"] []
  g_law : mg "law" = some (.ref f_law)
  c_BadGear : Addr
  i_BadGear : Addr
  e_BadGear : SlX.EC K c_BadGear i_BadGear "BadGear.__init__" in_BadGear ["why"]
  g_BadGear : mg "BadGear" = some (.ref c_BadGear)
  c_BadTerm : Addr
  i_BadTerm : Addr
  e_BadTerm : SlX.EC K c_BadTerm i_BadTerm "BadTerm.__init__" in_BadTerm ["why"]
  g_BadTerm : mg "BadTerm" = some (.ref c_BadTerm)
  c_BadSum : Addr
  i_BadSum : Addr
  e_BadSum : SlX.EC K c_BadSum i_BadSum "BadSum.__init__" in_BadSum ["why"]
  g_BadSum : mg "BadSum" = some (.ref c_BadSum)
  c_BadSizes : Addr
  i_BadSizes : Addr
  e_BadSizes : SlX.EC K c_BadSizes i_BadSizes "BadSizes.__init__" in_BadSizes ["why"]
  g_BadSizes : mg "BadSizes" = some (.ref c_BadSizes)
  c_BadArrays : Addr
  i_BadArrays : Addr
  e_BadArrays : SlX.EC K c_BadArrays i_BadArrays "BadArrays.__init__" in_BadArrays ["why"]
  g_BadArrays : mg "BadArrays" = some (.ref c_BadArrays)
  c_BadNumber : Addr
  i_BadNumber : Addr
  e_BadNumber : SlX.EC K c_BadNumber i_BadNumber "BadNumber.__init__" in_BadNumber ["why"]
  g_BadNumber : mg "BadNumber" = some (.ref c_BadNumber)
  c_BadName : Addr
  i_BadName : Addr
  e_BadName : SlX.EC K c_BadName i_BadName "BadName.__init__" in_BadName ["why"]
  g_BadName : mg "BadName" = some (.ref c_BadName)
  c_BadPlan : Addr
  i_BadPlan : Addr
  e_BadPlan : SlX.EC K c_BadPlan i_BadPlan "BadPlan.__init__" in_BadPlan ["why"]
  g_BadPlan : mg "BadPlan" = some (.ref c_BadPlan)
  c_BadDefinition : Addr
  i_BadDefinition : Addr
  e_BadDefinition : SlX.EC K c_BadDefinition i_BadDefinition "BadDefinition.__init__" in_BadDefinition ["why"]
  g_BadDefinition : mg "BadDefinition" = some (.ref c_BadDefinition)
  c_BadDeed : Addr
  i_BadDeed : Addr
  e_BadDeed : SlX.EC K c_BadDeed i_BadDeed "BadDeed.__init__" in_BadDeed ["why"]
  g_BadDeed : mg "BadDeed" = some (.ref c_BadDeed)
  c_BadStep : Addr
  i_BadStep : Addr
  e_BadStep : SlX.EC K c_BadStep i_BadStep "BadStep.__init__" in_BadStep ["number"]
  g_BadStep : mg "BadStep" = some (.ref c_BadStep)
  c_BadLine : Addr
  i_BadLine : Addr
  e_BadLine : SlX.EC K c_BadLine i_BadLine "BadLine.__init__" in_BadLine ["line"]
  g_BadLine : mg "BadLine" = some (.ref c_BadLine)
  c_NoBox : Addr
  i_NoBox : Addr
  e_NoBox : SlX.EC K c_NoBox i_NoBox "NoBox.__init__" in_NoBox ["name"]
  g_NoBox : mg "NoBox" = some (.ref c_NoBox)
  t_LONGEST : Tok
  g_LONGEST : mg "_LONGEST" = some (.int 8 t_LONGEST)
  t_LETTERS : Tok
  g_LETTERS : mg "_LETTERS" = some (.str "abcdefghijklmnopqrstuvwxyz" t_LETTERS)
  t_MOST_SPACES : Tok
  g_MOST_SPACES : mg "_MOST_SPACES" = some (.int 3 t_MOST_SPACES)
  t_MOST_BOXES : Tok
  g_MOST_BOXES : mg "_MOST_BOXES" = some (.int 8 t_MOST_BOXES)
  t_MOST_SLOTS : Tok
  g_MOST_SLOTS : mg "_MOST_SLOTS" = some (.int 4 t_MOST_SLOTS)
  t_MOST_MOVES : Tok
  g_MOST_MOVES : mg "_MOST_MOVES" = some (.int 3 t_MOST_MOVES)
  a_SIDES : Addr
  g_SIDES : mg "_SIDES" = some (.ref a_SIDES)
  h_SIDES : TupK K a_SIDES [.str "up", .str "down"]
  n_ArithmeticError : mg "ArithmeticError" = none
  n_LookupError : mg "LookupError" = none
  n_ValueError : mg "ValueError" = none
  n_all : mg "all" = none
  n_bool : mg "bool" = none
  n_int : mg "int" = none
  n_isinstance : mg "isinstance" = none
  n_len : mg "len" = none
  n_list : mg "list" = none
  n_min : mg "min" = none
  n_range : mg "range" = none
  n_repr : mg "repr" = none
  n_set : mg "set" = none
  n_sorted : mg "sorted" = none
  n_str : mg "str" = none
  n_tuple : mg "tuple" = none
  n_type : mg "type" = none
  n_zip : mg "zip" = none
end L2.Pr

set_option Elab.async false
set_option linter.all false
set_option maxRecDepth 100000
set_option maxHeartbeats 8000000
/-! words, by data -/
namespace L2.Dl
open PySem PySem.Spec PyProof.Rows L2.Sl
theorem bw_and {b c : Bool} {k : Slot → Prop} (h : k (bD (b && c))) : bw b (k (bD c)) (k (bD false)) := by
  cases b with
  | true => exact h
  | false => exact h
theorem bw_and2 {b : Bool} {k : Slot → Prop} {p : Prop} (h1 : b = true → p) (h2 : b = false → k (bD false)) : bw b p (k (bD false)) := bw_of h1 h2
theorem boolsD_map {α : Type} (f : α → Bool) : ∀ ds : List α, boolsD (ds.map fun d => PyData.bool (f d)) = some (ds.map f)
  | [] => rfl
  | d :: ds => by
    rw [List.map_cons, boolsD, boolsD_map f ds] <;> rfl
theorem gAll_map {α : Type} {f : α → Bool} {ds : List α} {k : Slot → Prop} (h : k (bD (ds.all f))) : gAll (.list (ds.map fun d => PyData.bool (f d))) k := by
  refine ⟨_, boolsD_map f ds, ?_⟩
  rw [List.all_map]
  exact h
theorem gAny_map {α : Type} {f : α → Bool} {ds : List α} {k : Slot → Prop} (h : k (bD (ds.any f))) : gAny (.list (ds.map fun d => PyData.bool (f d))) k := by
  refine ⟨_, boolsD_map f ds, ?_⟩
  rw [List.any_map]
  exact h
/-- a comprehension that changes nothing: each item's value -/
theorem compMap {α : Type} {lv : Option (Nat × List D)} {vs : List Nat} {g : TGd} {te : TD} {Γ : Env'} {e : α → D} {f : α → D} (hl : lentC lv Γ) (pl : plainE Γ vs = true) : ∀ (xs : List α) (acc : List D) (k : List D → Env' → Prop), acc.length + xs.length ≤ sizeLine →
    (∀ x ∈ xs, ∀ Ky : D → Env' → Prop, Ky (f x) Γ → g (e x) (wipeE Γ vs) fun Γ1 => te Γ1 (fun s Γ3 => match s.d? with
      | some y => Ky y (backE Γ Γ3 vs)
      | none => False) nE) → k (acc ++ xs.map f) (unlend lv Γ) → compD lv vs g dYes te (xs.map e) acc Γ k
  | [], acc, k, _, _, h => by
    rw [List.map_nil, List.append_nil] at h
    exact ⟨hl, h⟩
  | x :: xs, acc, k, l, st, h => by
    refine ⟨hl, pl, st x List.mem_cons_self (fun y Γ3 => acc.length < sizeLine ∧ compD lv vs g dYes te (xs.map e) (acc ++ [y]) Γ3 k) ⟨?_, ?_⟩⟩
    · rw [List.length_cons] at l
      omega
    · refine compMap hl pl xs (acc ++ [f x]) k ?_ (fun z hz => st z (List.mem_cons_of_mem _ hz)) ?_
      · rw [List.length_append, List.length_cons, List.length_nil]
        rw [List.length_cons] at l
        omega
      · rw [List.append_assoc]
        exact h
/-- .. with a condition -/
theorem comp_filter {α : Type} {lv : Option (Nat × List D)} {vs : List Nat} {g : TGd} {tt : TTt} {te : TD} {Γ : Env'} {e : α → D} {f : α → D} {p : α → Bool} (hl : lentC lv Γ) (pl : plainE Γ vs = true) : ∀ (xs : List α) (acc : List D) (k : List D → Env' → Prop), acc.length + xs.length ≤ sizeLine →
    (∀ x ∈ xs, ∀ (Ky : D → Env' → Prop) (Kn : Env' → Prop), (p x = true → Ky (f x) Γ) → (p x = false → Kn Γ) → g (e x) (wipeE Γ vs) fun Γ1 => tt Γ1 (fun b Γ2 => bw b (te Γ2 (fun s Γ3 => match s.d? with
      | some y => Ky y (backE Γ Γ3 vs)
      | none => False) nE) (Kn (backE Γ Γ2 vs))) nE) → k (acc ++ (xs.filter p).map f) (unlend lv Γ) → compD lv vs g tt te (xs.map e) acc Γ k
  | [], acc, k, _, _, h => by
    rw [List.filter_nil, List.map_nil, List.append_nil] at h
    exact ⟨hl, h⟩
  | x :: xs, acc, k, l, st, h => by
    rw [List.length_cons] at l
    refine ⟨hl, pl, st x List.mem_cons_self (fun y Γ3 => acc.length < sizeLine ∧ compD lv vs g tt te (xs.map e) (acc ++ [y]) Γ3 k) (fun Γ2 => compD lv vs g tt te (xs.map e) acc Γ2 k) (fun c => ⟨by omega, ?_⟩) fun c => ?_⟩
    · refine comp_filter hl pl xs (acc ++ [f x]) k ?_ (fun z hz => st z (List.mem_cons_of_mem _ hz)) ?_
      · rw [List.length_append, List.length_cons, List.length_nil]
        omega
      · rw [List.append_assoc]
        rw [List.filter_cons, if_pos c] at h
        exact h
    · refine comp_filter hl pl xs acc k (by omega) (fun z hz => st z (List.mem_cons_of_mem _ hz)) ?_
      rw [List.filter_cons, if_neg (by rw [c]; decide)] at h
      exact h
theorem compMapD {lv : Option (Nat × List D)} {vs : List Nat} {g : TGd} {te : TD} {Γ : Env'} {f : D → D} (hl : lentC lv Γ) (pl : plainE Γ vs = true) (xs : List D) (acc : List D) (k : List D → Env' → Prop) (l : acc.length + xs.length ≤ sizeLine)
    (st : ∀ x ∈ xs, ∀ Ky : D → Env' → Prop, Ky (f x) Γ → g x (wipeE Γ vs) fun Γ1 => te Γ1 (fun s Γ3 => match s.d? with
      | some y => Ky y (backE Γ Γ3 vs)
      | none => False) nE) (h : k (acc ++ xs.map f) (unlend lv Γ)) : compD lv vs g dYes te xs acc Γ k := by
  have z := compMap (e := fun d : D => d) (f := f) hl pl xs acc k l st h
  rwa [List.map_id'] at z
theorem cut1 {α : Type} (xs : List α) : cutD xs (some 1) none = xs.drop 1 := by
  unfold cutD
  rw [HT.sIx_none, show HT.sIx xs.length 0 (some 1) = min 1 xs.length from HT.sIx_nat _ _ 1]
  by_cases h : xs.length = 0
  · rw [List.eq_nil_of_length_eq_zero h]
    rfl
  · rw [show min 1 xs.length = 1 by omega]
    exact List.take_of_length_le (by rw [List.length_drop]; omega)
end L2.Dl
namespace L2.Pr
open PySem PySem.Spec PyProof.Rows L2.Sl L2.Dl
def isWhole (lo hi : Int) : D → Bool
  | .int i => decide (lo ≤ i) && decide (i ≤ hi)
  | _ => false
def isRow (lo hi : Int) : D → Bool
  | .tuple ds => decide (lo ≤ (ds.length : Int)) && decide ((ds.length : Int) ≤ hi)
  | _ => false
def isName : D → Bool
  | .str z => (decide (1 ≤ z.length) && decide (z.length ≤ 8)) && z.cps.toList.all hit
  | _ => false
/-- a text is not too long -/
def short : D → Prop
  | .str z => z.length ≤ sizeLine
  | _ => True
def cWhole : CD := fun ds k _ => ∃ d lo hi, ds = [d, .int lo, .int hi] ∧ k (bD (isWhole lo hi d))
def cRow : CD := fun ds k _ => ∃ d lo hi, ds = [d, .int lo, .int hi] ∧ k (bD (isRow lo hi d))
def cName : CD := fun ds k _ => ∃ d, ds = [d] ∧ short d ∧ k (bD (isName d))
def strD : D → Prop
  | .str _ => True
  | _ => False
def ltD : D → D → Bool
  | .str a, .str b => decide (a.cps.toList < b.cps.toList)
  | _, _ => false
def risesD (ds : List D) : Bool := (ds.zip (ds.drop 1)).all fun x => ltD x.1 x.2
def cRises : CD := fun ds k _ => ∃ xs, (ds = [.list xs] ∨ ds = [.tuple xs]) ∧ (∀ d ∈ xs, strD d) ∧ xs.length ≤ 1000 ∧ k (bD (risesD xs))
section
variable {fam : Fam} {P : Program} {w : World} {K : PySem.W.Frag} {mg : Str → Option Value} {base : Heap} {k : Nat}
theorem ok_is_whole (T : Txt K mg) : FnOk P w K mg base (L2.CX P w) (k + 1) T.f_is_whole T.d_is_whole ["thing", "least", "most"] (spD K mg 3 cWhole) := by
  refine okD (fam := noFam w) T.F_is_whole sc_is_whole (by decide) (fun cdv A outer s H E hr tk =>
    (pds_one (pd_ret (pd_and (pd_tyEq (by decide) (by rfl) T.n_type (pe_bltn (v := .ty "int") (by rfl) T.n_int (by decide +kernel) rfl) (pb_var (pv 0))) (pd_one (pd_chain do_le do_le (pb_var (pv 1)) (pb_var (pv 0)) (pb_var (pv 2)))))))) (fun ds Kd Ke l h => ?_)
  obtain ⟨d, lo, hi, rfl, q⟩ := h
  cases d with
  | int i => exact bw_and (k := Kd) q
  | _ => exact q
theorem ok_is_row (T : Txt K mg) : FnOk P w K mg base (L2.CX P w) (k + 1) T.f_is_row T.d_is_row ["thing", "least", "most"] (spD K mg 3 cRow) := by
  refine okD (fam := noFam w) T.F_is_row sc_is_row (by decide) (fun cdv A outer s H E hr tk =>
    (pds_one (pd_ret (pd_and (pd_tyEq (by decide) (by rfl) T.n_type (pe_bltn (v := .ty "tuple") (by rfl) T.n_tuple (by decide +kernel) rfl) (pb_var (pv 0))) (pd_one (pd_chain do_le do_le (pb_var (pv 1)) (pb_of (pd_callB dc_len (by rfl) T.n_len (by decide +kernel) (pb_var (pv 0)))) (pb_var (pv 2)))))))) (fun ds Kd Ke l h => ?_)
  obtain ⟨d, lo, hi, rfl, q⟩ := h
  cases d with
  | tuple i => exact bw_and (k := Kd) q
  | _ => exact q
theorem ok_is_name (T : Txt K mg) : FnOk P w K mg base (L2.CX P w) (k + 1) T.f_is_name T.d_is_name ["thing"] (spD K mg 1 cName) := by
  refine okD (fam := noFam w) T.F_is_name sc_is_name (by decide) (fun cdv A outer s H E hr tk =>
    (pds_cons (pd_if (PWt.pt (pwt_or (pt_tyNe (by decide) (by rfl) T.n_type (pe_bltn (v := .ty "str") (by rfl) T.n_str (by decide +kernel) rfl) (pb_var (pv 0))) (pwt_or1 (pt_notD (pt_chainD do_le do_le (pb_of pd_int) (pb_of (pd_callB dc_len (by rfl) T.n_len (by decide +kernel) (pb_var (pv 0)))) (pb_of (pd_globI T.g_LONGEST)))))))
        (pds_one (pd_ret pd_bl))
        pds_nil)
      (pds_one (pd_ret (pd_callB (dc_all rfl) (by rfl) T.n_all (by decide +kernel) (pb_of (pd_lc (by rfl) sc_is_name.nd (pit_seq (pb_var (pv 0))) (blkOk_by (own := [("sign", 1)]) (N := N_is_name) (sc := defScope s_is_name) (by decide +kernel)) (fun _ _ _ _ _ => (pgt_name (pg_name (i := 1) sc_is_name.nd rfl (.inl rfl)))) (fun _ _ _ _ _ => ptd_nil) (fun _ _ _ _ _ => (pd_cmp do_inS (pb_var (pv 1)) (pb_of (pd_globS T.g_LETTERS)) (by with_unfolding_all rfl)))))))))) (fun ds Kd Ke l h => ?_)
  obtain ⟨d, rfl, sh, q⟩ := h
  cases d with
  | str z =>
    refine ⟨sh, ?_⟩
    refine bw_dec (fun h1 => ?_) (fun h1 => ?_)
    · refine bw_of (b := !decide ((z.length : Int) ≤ 8)) (fun h2 => ?_) (fun h2 => ?_)
      · have e : isName (.str z) = false := by
          have n : ¬ z.length ≤ 8 := by
            have := of_decide_eq_false (Bool.not_eq_true' _ ▸ h2)
            omega
          show ((decide (1 ≤ z.length) && decide (z.length ≤ 8)) && _) = false
          rw [decide_eq_false n, Bool.and_false, Bool.false_and]
        rw [e] at q
        exact q
      · have n : z.length ≤ 8 := by
          have := of_decide_eq_true (Bool.not_eq_false' _ ▸ h2)
          omega
        have o : 1 ≤ z.length := by omega
        have e : isName (.str z) = z.cps.toList.all hit := by
          show ((decide (1 ≤ z.length) && decide (z.length ≤ 8)) && _) = _
          rw [decide_eq_true n, decide_eq_true o]
          rfl
        rw [e] at q
        refine compMap (e := fun c : Nat => PyData.str ⟨#[c]⟩) (f := fun c : Nat => PyData.bool (hit c)) (lv := none) True.intro (by rfl) z.cps.toList [] _ ?_ (fun c hc Ky h => ?_) (gAll_map q)
        · exact Nat.le_trans (show 0 + z.cps.toList.length ≤ 8 by rw [Nat.zero_add, Array.length_toList]; exact n) (by decide)
        · exact h
    · have e : isName (.str z) = false := by
        have n : ¬ 1 ≤ z.length := by omega
        show ((decide (1 ≤ z.length) && decide (z.length ≤ 8)) && _) = false
        rw [decide_eq_false n, Bool.false_and, Bool.false_and]
      rw [e] at q
      exact q
  | _ => exact q
theorem ok_rises (T : Txt K mg) : FnOk P w K mg base (L2.CX P w) (k + 1) T.f_rises T.d_rises ["row"] (spD K mg 1 cRises) := by
  refine okD (fam := noFam w) T.F_rises sc_rises (by decide) (fun cdv A outer s H E hr tk =>
    (pds_one (pd_ret (pd_callB (dc_all rfl) (by rfl) T.n_all (by decide +kernel) (pb_of (pd_lc (by rfl) sc_rises.nd (pit_zip (by rfl) T.n_zip (par_cons (pd_var (pv 0)) (par_cons (pd_slice (pb_var (pv 0)) (pot_some pd_int) pot_none) par_nil))) (blkOk_by (own := [("one", 1), ("other", 2)]) (N := N_rises) (sc := defScope s_rises) (by decide +kernel)) (fun _ _ _ _ _ => (pgt_tup (n := 2) rfl (pgts_cons (pgt_name (pg_name (i := 1) sc_rises.nd rfl (.inl rfl))) (pgts_cons (pgt_name (pg_name (i := 2) sc_rises.nd rfl (.inl rfl))) pgts_nil)))) (fun _ _ _ _ _ => ptd_nil) (fun _ _ _ _ _ => (pd_cmp do_lt (pb_var (pv 1)) (pb_var (pv 2)) (nomark _))))))))) (fun ds Kd Ke l h => ?_)
  obtain ⟨xs, hd, hs, hl, q⟩ := h
  have zl : (xs.zip (xs.drop 1)).length ≤ sizeLine := by
    rw [List.length_zip]
    exact Nat.le_trans (Nat.min_le_left _ _) (Nat.le_trans hl (by decide))
  rcases hd with rfl | rfl
  · show compD none [1, 2] _ dYes _ (zipD xs (cutD xs (some 1) none)) [] _ _
    rw [cut1]
    refine compMap (lv := none) (e := fun x : D × D => PyData.tuple [x.1, x.2]) (f := fun x : D × D => PyData.bool (ltD x.1 x.2)) True.intro (by rfl) (xs.zip (xs.drop 1)) [] _ (by rw [List.length_nil, Nat.zero_add]; exact zl) (fun x hx Ky h => ?_) (gAll_map q)
    obtain ⟨a, b⟩ := x
    have ha := hs a (List.of_mem_zip hx).1
    have hb := hs b (List.mem_of_mem_drop (List.of_mem_zip hx).2)
    cases a <;> first | exact ha.elim | skip
    cases b <;> first | exact hb.elim | skip
    exact ⟨rfl, h⟩
  · show compD none [1, 2] _ dYes _ (zipD xs (cutD xs (some 1) none)) [] _ _
    rw [cut1]
    refine compMap (lv := none) (e := fun x : D × D => PyData.tuple [x.1, x.2]) (f := fun x : D × D => PyData.bool (ltD x.1 x.2)) True.intro (by rfl) (xs.zip (xs.drop 1)) [] _ (by rw [List.length_nil, Nat.zero_add]; exact zl) (fun x hx Ky h => ?_) (gAll_map q)
    obtain ⟨a, b⟩ := x
    have ha := hs a (List.of_mem_zip hx).1
    have hb := hs b (List.mem_of_mem_drop (List.of_mem_zip hx).2)
    cases a <;> first | exact ha.elim | skip
    cases b <;> first | exact hb.elim | skip
    exact ⟨rfl, h⟩
end
end L2.Pr

set_option Elab.async false
set_option linter.all false
set_option maxRecDepth 100000
set_option maxHeartbeats 8000000
/-! gears, by data: what is looked at -/
namespace L2.Pr
open PySem PySem.Spec PyProof.Rows L2.Sl L2.Dl
mutual
/-- no text in it is too long -/
def smal : D → Bool
  | .str z => decide (z.length ≤ sizeLine)
  | .list ds => smals ds
  | .tuple ds => smals ds
  | _ => true
def smals : List D → Bool
  | [] => true
  | d :: ds => smal d && smals ds
end
theorem smals_mem : ∀ {ds : List D}, smals ds = true → ∀ d ∈ ds, smal d = true
  | [], _, _, h => nomatch h
  | x :: xs, h, d, hd => by
    have h : (smal x && smals xs) = true := h
    rw [Bool.and_eq_true] at h
    rcases List.mem_cons.mp hd with rfl | hd
    · exact h.1
    · exact smals_mem h.2 d hd
theorem smal_short {d : D} (h : smal d = true) : short d := by
  cases d with
  | str z =>
    have h : decide (z.length ≤ sizeLine) = true := h
    have h := of_decide_eq_true h
    exact h
  | _ => exact True.intro
theorem row_or (lo hi : Nat) (d : D) : (∃ ds, d = .tuple ds ∧ lo ≤ ds.length ∧ ds.length ≤ hi ∧ isRow lo hi d = true) ∨ (isRow lo hi d = false ∧ ∀ ds, d = .tuple ds → ¬ (lo ≤ ds.length ∧ ds.length ≤ hi)) := by
  cases d with
  | tuple ds =>
    have e : isRow lo hi (.tuple ds) = (decide ((lo : Int) ≤ (ds.length : Int)) && decide ((ds.length : Int) ≤ hi)) := rfl
    by_cases h : lo ≤ ds.length ∧ ds.length ≤ hi
    · refine .inl ⟨ds, rfl, h.1, h.2, ?_⟩
      rw [e, decide_eq_true (by omega), decide_eq_true (by omega)] <;> rfl
    · refine .inr ⟨?_, fun ds e => by cases e; exact h⟩
      rw [e]
      by_cases h1 : lo ≤ ds.length
      · rw [decide_eq_false (p := ((ds.length : Nat) : Int) ≤ hi) (by omega), Bool.and_false]
      · rw [decide_eq_false (p := ((lo : Nat) : Int) ≤ (ds.length : Int)) (by omega), Bool.false_and]
  | _ => exact .inr ⟨rfl, fun _ z => by cases z⟩
theorem two_or (d : D) : (∃ a b, d = .tuple [a, b]) ∨ (isRow 2 2 d = false ∧ ∀ a b, d ≠ .tuple [a, b]) := by
  rcases row_or 2 2 d with ⟨ds, rfl, h1, h2, _⟩ | ⟨e, no⟩
  · match ds, h1, h2 with
    | [a, b], _, _ => exact .inl ⟨a, b, rfl⟩
    | [_], h1, _ => exact absurd h1 (by simp)
    | [], h1, _ => exact absurd h1 (by simp)
    | _ :: _ :: _ :: r, _, h2 => exact absurd h2 (by simp)
  · exact .inr ⟨e, fun a b z => no _ z ⟨by simp, by simp⟩⟩
theorem three_or (d : D) : (∃ a b c, d = .tuple [a, b, c]) ∨ (isRow 3 3 d = false ∧ ∀ a b c, d ≠ .tuple [a, b, c]) := by
  rcases row_or 3 3 d with ⟨ds, rfl, h1, h2, _⟩ | ⟨e, no⟩
  · match ds, h1, h2 with
    | [a, b, c], _, _ => exact .inl ⟨a, b, c, rfl⟩
    | [_, _], h1, _ => exact absurd h1 (by simp)
    | [_], h1, _ => exact absurd h1 (by simp)
    | [], h1, _ => exact absurd h1 (by simp)
    | _ :: _ :: _ :: _ :: r, _, h2 => exact absurd h2 (by simp)
  · exact .inr ⟨e, fun a b c z => no _ z ⟨by simp, by simp⟩⟩
theorem isName_str {d : D} (h : isName d = true) : ∃ z, d = .str z ∧ 1 ≤ z.length ∧ z.length ≤ 8 ∧ z.cps.toList.all hit = true := by
  cases d with
  | str z =>
    have h : ((decide (1 ≤ z.length) && decide (z.length ≤ 8)) && z.cps.toList.all hit) = true := h
    rw [Bool.and_eq_true, Bool.and_eq_true] at h
    exact ⟨z, rfl, of_decide_eq_true h.1.1, of_decide_eq_true h.1.2, h.2⟩
  | _ => cases h
def sidesD : List D := [.str "up", .str "down"]
def isSlot (sp : List D) : D → Bool
  | .tuple [a, b] => isName a && (sp.any (fun z => eqS z a) && (decide (tyD b = "str") && sidesD.any fun z => eqS z b))
  | _ => false
theorem isSlot_no {sp : List D} {d : D} (h : ∀ a b, d ≠ .tuple [a, b]) : isSlot sp d = false := by
  unfold isSlot
  split
  · exact absurd rfl (h _ _)
  · rfl
def cSlot : CD := fun ds k _ => ∃ sp d, ds = [.tuple sp, d] ∧ sp.all scD = true ∧ smal d = true ∧ k (bD (isSlot sp d))
/-! moves -/
def srtI (ns : List Int) : List Int := ns.mergeSort (fun a b => decide (a ≤ b))
theorem srtI_of {ms ns : List Int} (p : ms.Perm ns) (s : ms.Pairwise (· ≤ ·)) : ms = srtI ns := by
  have s2 : (srtI ns).Pairwise (· ≤ ·) := (List.pairwise_mergeSort (fun a b c h1 h2 => by simp at *; omega) (fun a b => by simp; omega) ns).imp fun h => of_decide_eq_true h
  exact List.Perm.eq_of_pairwise (fun a b _ _ h1 h2 => Int.le_antisymm h1 h2) s s2 (p.trans (List.mergeSort_perm ns _).symm)
theorem eqvAll_ints : ∀ as bs : List Int, PyData.eqvAll (as.map PyData.int) (bs.map PyData.int) = decide (as = bs)
  | [], [] => rfl
  | [], _ :: _ => rfl
  | _ :: _, [] => rfl
  | a :: as, b :: bs => by
    show ((a == b) && PyData.eqvAll (as.map PyData.int) (bs.map PyData.int)) = _
    rw [eqvAll_ints as bs, Bool.eq_iff_iff]
    simp
theorem flats_ints : ∀ as : List Int, flats (as.map PyData.int) = true
  | [] => rfl
  | a :: as => flats_ints as
theorem lay_ints : ∀ as : List Int, PyData.canLayAll0 (as.map PyData.int) = true
  | [] => by simp [PyData.canLayAll0]
  | a :: as => by simp [PyData.canLayAll0, PyData.canLay0, lay_ints as]
theorem dep_ints : ∀ as : List Int, PyData.depthAll (as.map PyData.int) = 0
  | [] => by simp [PyData.depthAll]
  | a :: as => by simp [PyData.depthAll, PyData.depth, dep_ints as]
theorem fits_ints (as : List Int) : fits (.list (as.map PyData.int)) = true := by
  unfold fits SeqAt.shaped
  rw [show flat (.list (as.map PyData.int)) = true from flats_ints as]
  simp [PyData.canLay0, PyData.depth, lay_ints, dep_ints]
theorem rangeD_ints (lo : Int) (n : Nat) : rangeD lo n = ((List.range n).map fun k : Nat => lo + (k : Int)).map PyData.int := by
  unfold rangeD
  rw [List.map_map] <;> rfl
/-- an order of n things -/
def ordB (n : Nat) (os : List D) : Bool := match intsD os with
  | some ns => decide (srtI ns = (List.range n).map fun k : Nat => (0 : Int) + (k : Int))
  | none => false
def zeroB : D → Bool
  | .int i => decide (i = 0)
  | _ => false
def isMove (n : Nat) : D → Bool
  | .tuple [.tuple os, s] => decide (os.length = n) && (os.all (isWhole 0 ((n : Int) - 1)) && (ordB n os && (isWhole (-1) 1 s && !zeroB s)))
  | _ => false
def cMove : CD := fun ds k _ => ∃ (n : Nat) (d : D), ds = [.int n, d] ∧ n ≤ 1000 ∧ k (bD (isMove n d))
theorem isMove_no {n : Nat} {d : D} (h : ∀ a b, d ≠ .tuple [a, b]) : isMove n d = false := by
  unfold isMove
  split
  · exact absurd rfl (h _ _)
  · rfl
theorem isMove_no2 {n : Nat} {o s : D} (h : ∀ ds, o = .tuple ds → ¬ (n ≤ ds.length ∧ ds.length ≤ n)) : isMove n (.tuple [o, s]) = false := by
  cases o with
  | tuple os =>
    have z := h os rfl
    show (decide (os.length = n) && _) = false
    rw [decide_eq_false (by omega), Bool.false_and]
  | _ => rfl
theorem wholes_ints {lo hi : Int} : ∀ {os : List D}, os.all (isWhole lo hi) = true → ∃ ns, intsD os = some ns ∧ os = ns.map PyData.int ∧ ∀ i ∈ ns, lo ≤ i ∧ i ≤ hi
  | [], _ => ⟨[], rfl, rfl, fun _ h => nomatch h⟩
  | o :: os, h => by
    rw [List.all_cons, Bool.and_eq_true] at h
    obtain ⟨ns, e1, e2, e3⟩ := wholes_ints h.2
    cases o with
    | int i =>
      have hi : (decide (lo ≤ i) && decide (i ≤ hi)) = true := h.1
      rw [Bool.and_eq_true] at hi
      refine ⟨i :: ns, by rw [intsD, e1] <;> rfl, by rw [e2] <;> rfl, fun j hj => ?_⟩
      rcases List.mem_cons.mp hj with rfl | hj
      · exact ⟨of_decide_eq_true hi.1, of_decide_eq_true hi.2⟩
      · exact e3 j hj
    | _ => cases h.1
/-- of a row the places of an order -/
def movedD (xs : List D) (ns : List Int) : List D := ns.map fun i => xs[i.toNat]?.getD .none
def cMoved : CD := fun ds k _ => ∃ (xs os : List D) (ns : List Int), ds = [.tuple xs, .tuple os] ∧ intsD os = some ns ∧ (∀ i ∈ ns, 0 ≤ i ∧ i < xs.length) ∧ ns.length ≤ 1000 ∧ k (.imm (.tuple (movedD xs ns)))
section
variable {fam : Fam} {P : Program} {w : World} {K : PySem.W.Frag} {mg : Str → Option Value} {base : Heap} {k : Nat}
theorem ok_is_slot (T : Txt K mg) : FnOk P w K mg base (L2.CX P w) (k + 2) T.f_is_slot T.d_is_slot ["spaces", "thing"] (spD K mg 2 cSlot) := by
  refine okD (fam := noFam w) T.F_is_slot sc_is_slot (by decide) (fun cdv A outer s H E hr tk =>
    (pds_cons (pd_if (pt_notD (pt_valD (pd_call (ok_is_row T) hr (by rfl) T.g_is_row T.F_is_row.kp T.b_is_row (passD tk) (par_cons (pd_var (pv 1)) (par_cons pd_int (par_cons pd_int par_nil))))))
        (pds_one (pd_ret pd_bl))
        pds_nil)
      (pds_cons (pd_asg (pd_var (pv 1)) (pgt_tup (n := 2) rfl (pgts_cons (pgt_name (pg_name (i := 2) sc_is_slot.nd rfl (.inl rfl))) (pgts_cons (pgt_name (pg_name (i := 3) sc_is_slot.nd rfl (.inl rfl))) pgts_nil))))
      (pds_one (pd_ret (pd_and (pd_call (ok_is_name T) hr (by rfl) T.g_is_name T.F_is_name.kp T.b_is_name (passD tk) (par_cons (pd_var (pv 2)) par_nil)) (pd_and (pd_cmp do_inF (pb_var (pv 2)) (pb_var (pv 0)) (by with_unfolding_all rfl)) (pd_and (pd_tyEq (by decide) (by rfl) T.n_type (pe_bltn (v := .ty "str") (by rfl) T.n_str (by decide +kernel) rfl) (pb_var (pv 3))) (pd_one (pd_cmp do_inF (pb_var (pv 3)) (pb_of (pd_globT T.g_SIDES T.h_SIDES)) (by with_unfolding_all rfl))))))))))) (fun ds Kd Ke l h => ?_)
  obtain ⟨sp, d, rfl, hs, sm, q⟩ := h
  rcases two_or d with ⟨a, b, rfl⟩ | ⟨e, no⟩
  · have sm2 := smals_mem (show smals [a, b] = true from sm)
    refine ⟨rfl, _, 2, 2, rfl, rfl, rfl, a, rfl, smal_short (sm2 a (by simp)), bw_and2 (k := Kd) (fun h1 => ?_) (fun h1 => ?_)⟩
    · obtain ⟨z, rfl, _⟩ := isName_str h1
      have e : isSlot sp (.tuple [.str z, b]) = (sp.any (fun y => eqS y (.str z)) && (decide (tyD b = "str") && sidesD.any fun y => eqS y b)) := by
        show (isName (.str z) && _) = _
        rw [h1, Bool.true_and]
      rw [e] at q
      refine ⟨rfl, hs, bw_and2 (k := Kd) (fun h2 => ?_) (fun h2 => ?_)⟩
      · rw [h2, Bool.true_and] at q
        refine bw_and2 (k := Kd) (b := decide (tyD b = "str")) (fun h3 => ?_) (fun h3 => ?_)
        · rw [h3, Bool.true_and] at q
          cases b with
          | str y => exact ⟨rfl, rfl, q⟩
          | _ => cases h3
        · rw [h3, Bool.false_and] at q
          exact q
      · rw [h2, Bool.false_and] at q
        exact q
    · have e : isSlot sp (.tuple [a, b]) = false := by
        show (isName a && _) = false
        rw [h1, Bool.false_and]
      rw [e] at q
      exact q
  · rw [isSlot_no no] at q
    exact ⟨rfl, _, 2, 2, rfl, bw_T (b := !isRow 2 2 d) (by rw [e] <;> rfl) q⟩
theorem ok_moved (T : Txt K mg) : FnOk P w K mg base (L2.CX P w) (k + 1) T.f_moved T.d_moved ["row", "order"] (spD K mg 2 cMoved) := by
  refine okD (fam := noFam w) T.F_moved sc_moved (by decide) (fun cdv A outer s H E hr tk =>
    (pds_one (pd_ret (pd_callTy dc_tuple (by rfl) T.n_tuple (by decide +kernel) (pb_of (pd_lc (by rfl) sc_moved.nd (pit_seq (pb_var (pv 1))) (blkOk_by (own := [("at", 2)]) (N := N_moved) (sc := defScope s_moved) (by decide +kernel)) (fun _ _ _ _ _ => (pgt_name (pg_name (i := 2) sc_moved.nd rfl (.inl rfl)))) (fun _ _ _ _ _ => ptd_nil) (fun _ _ _ _ _ => (pd_ix (pb_var (pv 0)) (pb_var (pv 2)) (fun _ _ => rfl))))))))) (fun ds Kd Ke l h => ?_)
  obtain ⟨xs, os, ns, rfl, en, hb, hl, q⟩ := h
  have eo : os = ns.map PyData.int := by
    clear q hb hl l
    induction os generalizing ns with
    | nil =>
      cases en
      rfl
    | cons o os ih =>
      cases o with
      | int i =>
        cases e : intsD os with
        | none =>
          rw [intsD, e] at en
          cases en
        | some l =>
          rw [intsD, e] at en
          cases en
          rw [ih l e] <;> rfl
      | _ => cases en
  subst eo
  refine compMap (lv := none) (e := fun i : Int => PyData.int i) (f := fun i : Int => xs[i.toNat]?.getD .none) True.intro (by rfl) ns [] _ (Nat.le_trans (show 0 + ns.length ≤ 1000 by omega) (by decide)) (fun i hi Ky h => ?_) q
  obtain ⟨b0, b1⟩ := hb i hi
  have lt : i.toNat < xs.length := by omega
  refine ⟨xs[i.toNat]?.getD .none, ?_, h⟩
  have e : xs[i.toNat]? = some (xs[i.toNat]?.getD .none) := by
    rw [List.getElem?_eq_getElem lt] <;> rfl
  have z := atI_nat e
  rwa [Int.toNat_of_nonneg b0] at z
theorem ok_is_move (T : Txt K mg) : FnOk P w K mg base (L2.CX P w) (k + 2) T.f_is_move T.d_is_move ["many", "thing"] (spD K mg 2 cMove) := by
  refine okD (fam := noFam w) T.F_is_move sc_is_move (by decide) (fun cdv A outer s H E hr tk =>
    (pds_cons (pd_if (pt_notD (pt_valD (pd_call (ok_is_row T) hr (by rfl) T.g_is_row T.F_is_row.kp T.b_is_row (passD tk) (par_cons (pd_var (pv 1)) (par_cons pd_int (par_cons pd_int par_nil))))))
        (pds_one (pd_ret pd_bl))
        pds_nil)
      (pds_cons (pd_asg (pd_var (pv 1)) (pgt_tup (n := 2) rfl (pgts_cons (pgt_name (pg_name (i := 2) sc_is_move.nd rfl (.inl rfl))) (pgts_cons (pgt_name (pg_name (i := 3) sc_is_move.nd rfl (.inl rfl))) pgts_nil))))
      (pds_cons (pd_if (PWt.pt (pwt_or (pt_notD (pt_valD (pd_call (ok_is_row T) hr (by rfl) T.g_is_row T.F_is_row.kp T.b_is_row (passD tk) (par_cons (pd_var (pv 2)) (par_cons (pd_var (pv 0)) (par_cons (pd_var (pv 0)) par_nil)))))) (pwt_or1 (pt_notD (pt_valD (pd_callB (dc_all rfl) (by rfl) T.n_all (by decide +kernel) (pb_of (pd_lc (by rfl) sc_is_move.nd (pit_seq (pb_var (pv 2))) (blkOk_by (own := [("at", 4)]) (N := N_is_move) (sc := defScope s_is_move) (by decide +kernel)) (fun _ _ _ _ _ => (pgt_name (pg_name (i := 4) sc_is_move.nd rfl (.inl rfl)))) (fun _ _ _ _ _ => ptd_nil) (fun _ _ _ _ _ => (pd_call (ok_is_whole T) hr (by rfl) T.g_is_whole T.F_is_whole.kp T.b_is_whole passL (par_cons (pd_var (pv 4)) (par_cons pd_int (par_cons (pd_op do_sub (pb_var (pv 0)) (pb_of pd_int)) par_nil)))))))))))))
        (pds_one (pd_ret pd_bl))
        pds_nil)
      (pds_one (pd_ret (pd_and (pd_cmp (do_eq hr.units) (pb_of (pd_callB dc_sortedT (by rfl) T.n_sorted (by decide +kernel) (pb_var (pv 2)))) (pb_of (pd_listRange rfl (by rfl) T.n_list (by rfl) T.n_range (pd_var (pv 0)))) (nomark _)) (pd_and (pd_call (ok_is_whole T) hr (by rfl) T.g_is_whole T.F_is_whole.kp T.b_is_whole (passD tk) (par_cons (pd_var (pv 3)) (par_cons (pd_neg pd_int) (par_cons pd_int par_nil)))) (pd_one (pd_cmp (do_ne hr.units) (pb_var (pv 3)) (pb_of pd_int) (nomark _))))))))))) (fun ds Kd Ke l h => ?_)
  obtain ⟨n, d, rfl, hn, q⟩ := h
  rcases two_or d with ⟨o, s, rfl⟩ | ⟨e, no⟩
  · refine ⟨rfl, _, 2, 2, rfl, rfl, ⟨rfl, _, _, _, rfl, ?_⟩⟩
    rcases row_or n n o with ⟨os, rfl, l1, l2, e⟩ | ⟨e, no⟩
    · have el : os.length = n := Nat.le_antisymm l2 l1
      have e1 : isMove n (.tuple [.tuple os, s]) = (os.all (isWhole 0 ((n : Int) - 1)) && (ordB n os && (isWhole (-1) 1 s && !zeroB s))) := by
        show (decide (os.length = n) && _) = _
        rw [decide_eq_true el, Bool.true_and]
      rw [e1] at q
      refine bw_F (b := !isRow n n (.tuple os)) (by rw [e] <;> rfl) ?_
      refine compMapD (lv := none) (f := fun d => PyData.bool (isWhole 0 ((n : Int) - 1) d)) True.intro (by rfl) os [] _ (Nat.le_trans (show 0 + os.length ≤ 1000 by omega) (by decide)) (fun d hd Ky h => ⟨rfl, _, _, _, rfl, h⟩) (gAll_map ?_)
      refine bw_of (b := !os.all (isWhole 0 ((n : Int) - 1))) (fun h1 => ?_) (fun h1 => ?_)
      · rw [Bool.not_eq_true'] at h1
        rw [h1, Bool.false_and] at q
        exact q
      · rw [Bool.not_eq_false'] at h1
        rw [h1, Bool.true_and] at q
        obtain ⟨ns, en, rfl, bd⟩ := wholes_ints h1
        refine ⟨ns, en, fun ms pm pw => ⟨RgOk.of_le (by omega) (by omega) (by omega) (by omega), ?_⟩⟩
        have eo : ordB n (ns.map PyData.int) = decide (srtI ns = (List.range n).map fun k : Nat => (0 : Int) + (k : Int)) := by
          unfold ordB
          rw [en]
        rw [eo] at q
        have ev : PyData.eqv (.list (ms.map PyData.int)) (.list (rangeD 0 ((n : Int) - 0).toNat)) = decide (srtI ns = (List.range n).map fun k : Nat => (0 : Int) + (k : Int)) := by
          rw [rangeD_ints, show ((n : Int) - 0).toNat = n by omega, srtI_of pm pw]
          exact eqvAll_ints _ _
        refine ⟨fits_ints ms, by rw [rangeD_ints]; exact fits_ints _, ?_⟩
        rw [ev]
        refine bw_and2 (k := Kd) (fun h2 => ?_) (fun h2 => ?_)
        · rw [h2, Bool.true_and] at q
          refine ⟨rfl, _, _, _, rfl, bw_and2 (k := Kd) (fun h3 => ?_) (fun h3 => ?_)⟩
          · rw [h3, Bool.true_and] at q
            cases s with
            | int i => exact q
            | _ => cases h3
          · rw [h3, Bool.false_and] at q
            exact q
        · rw [h2, Bool.false_and] at q
          exact q
    · rw [isMove_no2 no] at q
      exact bw_T (b := !isRow n n o) (by rw [e] <;> rfl) q
  · rw [isMove_no no] at q
    exact ⟨rfl, _, 2, 2, rfl, bw_T (b := !isRow 2 2 d) (by rw [e] <;> rfl) q⟩
end
end L2.Pr

set_option Elab.async false
set_option linter.all false
set_option maxRecDepth 100000
set_option maxHeartbeats 8000000
/-! gears, by data: need_gear, found_box, slots -/
namespace L2.Pr
open PySem PySem.Spec PyProof.Rows L2.Sl L2.Dl
/-- a move keeps the slots -/
def keeps (ks : List D) : D → Bool
  | .tuple [.tuple os, _] => (match intsD os with
    | some ns => PyData.eqv (.tuple (movedD ks ns)) (.tuple ks)
    | none => false)
  | _ => false
def isBox (sp : List D) : D → Bool
  | .tuple [name, .tuple ks, .tuple ms] => isName name && (decide (ks.length ≤ 4) && (ks.all (isSlot sp) && (decide (ms.length ≤ 3) && (ms.all (isMove ks.length) && ms.all (keeps ks)))))
  | _ => false
def boxName : D → D
  | .tuple (n :: _) => n
  | _ => .none
def isGear : D → Bool
  | .tuple [.tuple sp, .tuple bx] => (decide (1 ≤ sp.length) && decide (sp.length ≤ 3)) && (sp.all isName && (risesD sp && (decide (bx.length ≤ 8) && (bx.all (isBox sp) && risesD (bx.map boxName)))))
  | _ => false
theorem isBox_no {sp : List D} {d : D} (h : ∀ a b c, d ≠ .tuple [a, b, c]) : isBox sp d = false := by
  unfold isBox
  split
  · exact absurd rfl (h _ _ _)
  · rfl
theorem isGear_no {d : D} (h : ∀ a b, d ≠ .tuple [a, b]) : isGear d = false := by
  unfold isGear
  split
  · exact absurd rfl (h _ _)
  · rfl
theorem isBox_ks {sp : List D} {n k m : D} (h : ∀ ds, k = .tuple ds → ¬ (0 ≤ ds.length ∧ ds.length ≤ 4)) : isBox sp (.tuple [n, k, m]) = false := by
  cases k with
  | tuple ks =>
    have z := h ks rfl
    cases m with
    | tuple ms =>
      show (isName n && (decide (ks.length ≤ 4) && _)) = false
      rw [decide_eq_false (by omega), Bool.false_and, Bool.and_false]
    | _ => rfl
  | _ => rfl
theorem isBox_ms {sp ks : List D} {n m : D} (h : ∀ ds, m = .tuple ds → ¬ (0 ≤ ds.length ∧ ds.length ≤ 3)) : isBox sp (.tuple [n, .tuple ks, m]) = false := by
  cases m with
  | tuple ms =>
    have z := h ms rfl
    show (isName n && (decide (ks.length ≤ 4) && (ks.all (isSlot sp) && (decide (ms.length ≤ 3) && _)))) = false
    rw [decide_eq_false (p := ms.length ≤ 3) (by omega), Bool.false_and, Bool.and_false, Bool.and_false, Bool.and_false]
  | _ => rfl
theorem isGear_sp {s b : D} (h : ∀ ds, s = .tuple ds → ¬ (1 ≤ ds.length ∧ ds.length ≤ 3)) : isGear (.tuple [s, b]) = false := by
  cases s with
  | tuple ks =>
    have z := h ks rfl
    cases b with
    | tuple ms =>
      show ((decide (1 ≤ ks.length) && decide (ks.length ≤ 3)) && _) = false
      by_cases c : 1 ≤ ks.length
      · rw [decide_eq_false (p := ks.length ≤ 3) (by omega), Bool.and_false, Bool.false_and]
      · rw [decide_eq_false c, Bool.false_and, Bool.false_and]
    | _ => rfl
  | _ => rfl
theorem isGear_bx {sp : List D} {b : D} (h : ∀ ds, b = .tuple ds → ¬ (0 ≤ ds.length ∧ ds.length ≤ 8)) : isGear (.tuple [.tuple sp, b]) = false := by
  cases b with
  | tuple bx =>
    have z := h bx rfl
    show (_ && (sp.all isName && (risesD sp && (decide (bx.length ≤ 8) && _)))) = false
    rw [decide_eq_false (p := bx.length ≤ 8) (by omega), Bool.false_and, Bool.and_false, Bool.and_false, Bool.and_false]
  | _ => rfl
theorem hit_letter {c : Nat} (h : hit c = true) : 97 ≤ c ∧ c ≤ 122 := by
  have e : hit c = decide (c ∈ alphS.cps.toList) := StrLaws.found_one alphS c
  rw [e] at h
  have z : ∀ c ∈ alphS.cps.toList, 97 ≤ c ∧ c ≤ 122 := by decide +kernel
  exact z c (of_decide_eq_true h)
theorem hit_ok {z : Str} (h : z.cps.toList.all hit = true) : z.cps.toList.all (· < 0x110000) = true := by
  refine List.all_eq_true.mpr fun c hc => ?_
  have := List.all_eq_true.mp h c hc
  have := hit_letter this
  exact decide_eq_true (by omega)
theorem slot_of {sp : List D} {d : D} (h : isSlot sp d = true) : ∃ a b, d = .tuple [.str a, .str b] ∧ isName (.str a) = true ∧ (b = "up" ∨ b = "down") := by
  unfold isSlot at h
  split at h
  · rename_i a b
    rw [Bool.and_eq_true, Bool.and_eq_true, Bool.and_eq_true] at h
    obtain ⟨h1, _, h3, h4⟩ := h
    obtain ⟨z, rfl, _⟩ := isName_str h1
    cases b with
    | str y =>
      refine ⟨z, y, rfl, h1, ?_⟩
      have h4 : (decide (("up" : Str) = y) || (decide (("down" : Str) = y) || false)) = true := h4
      rw [Bool.or_false, Bool.or_eq_true] at h4
      rcases h4 with h4 | h4
      · exact .inl (of_decide_eq_true h4).symm
      · exact .inr (of_decide_eq_true h4).symm
    | _ => cases h3
  · cases h
/-- a row of slots is what == can be asked of -/
theorem slots_fit {sp : List D} : ∀ {ks : List D}, (∀ d ∈ ks, isSlot sp d = true) → flats ks = true ∧ PyData.canLayAll0 ks = true ∧ PyData.depthAll ks ≤ 1
  | [], _ => ⟨rfl, by simp [PyData.canLayAll0], by simp [PyData.depthAll]⟩
  | d :: ks, h => by
    obtain ⟨a, b, rfl, hn, hb⟩ := slot_of (h d List.mem_cons_self)
    obtain ⟨f, l, dp⟩ := slots_fit fun x hx => h x (List.mem_cons_of_mem _ hx)
    obtain ⟨z, e, _, _, ht⟩ := isName_str hn
    cases e
    have s1 : PyData.strOk a = true := by
      unfold PyData.strOk
      rw [← Array.all_toList]
      exact hit_ok ht
    have s2 : PyData.strOk b = true := by
      rcases hb with rfl | rfl <;> decide +kernel
    refine ⟨f, ?_, ?_⟩
    · simp [PyData.canLayAll0, PyData.canLay0, s1, s2, l]
    · simp [PyData.depthAll, PyData.depth]
      omega
theorem slots_fits {sp ks : List D} (h : ∀ d ∈ ks, isSlot sp d = true) : fits (.tuple ks) = true := by
  obtain ⟨f, l, dp⟩ := slots_fit h
  unfold fits SeqAt.shaped
  rw [show flat (.tuple ks) = true from f]
  simp [PyData.canLay0, PyData.depth, l]
  omega
theorem move_of {n : Nat} {d : D} (h : isMove n d = true) : ∃ os s ns, d = .tuple [.tuple os, s] ∧ os.length = n ∧ intsD os = some ns ∧ os = ns.map PyData.int ∧ ∀ i ∈ ns, 0 ≤ i ∧ i < n := by
  unfold isMove at h
  split at h
  · rename_i os s
    rw [Bool.and_eq_true, Bool.and_eq_true] at h
    obtain ⟨ns, e1, e2, e3⟩ := wholes_ints h.2.1
    exact ⟨os, s, ns, rfl, of_decide_eq_true h.1, e1, e2, fun i hi => ⟨(e3 i hi).1, by have := (e3 i hi).2; omega⟩⟩
  · cases h
theorem moved_mem {ks : List D} {ns : List Int} (h : ∀ i ∈ ns, 0 ≤ i ∧ i < ks.length) : ∀ d ∈ movedD ks ns, d ∈ ks := fun d hd => by
  obtain ⟨i, hi, rfl⟩ := List.mem_map.mp hd
  obtain ⟨b0, b1⟩ := h i hi
  have lt : i.toNat < ks.length := by omega
  rw [List.getElem?_eq_getElem lt]
  exact List.getElem_mem lt
abbrev bad (Ke : KE) : Prop := ∀ why : Str, Ke "BadGear" [("why", .str why)]
def cBox : CD := fun ds k Ke => ∃ sp d, ds = [.tuple sp, d] ∧ sp.all scD = true ∧ smal d = true ∧ (isBox sp d = true → k (.imm .none)) ∧ (isBox sp d = false → bad Ke)
def cGear : CD := fun ds k Ke => ∃ g, ds = [g] ∧ smal g = true ∧ (isGear g = true → k (.imm .none)) ∧ (isGear g = false → bad Ke)
section
variable {fam : Fam} {P : Program} {w : World} {K : PySem.W.Frag} {mg : Str → Option Value} {base : Heap} {k : Nat}
theorem ok_need_box (T : Txt K mg) : FnOk P w K mg base (L2.CX P w) (k + 3) T.f_need_box T.d_need_box ["spaces", "box"] (spD K mg 2 cBox) := by
  refine okD (fam := noFam w) T.F_need_box sc_need_box (by decide) (fun cdv A outer s H E hr tk =>
    (pds_cons (pd_if (pt_notD (pt_valD (pd_call (ok_is_row T) hr (by rfl) T.g_is_row T.F_is_row.kp T.b_is_row (passD tk) (par_cons (pd_var (pv 1)) (par_cons pd_int (par_cons pd_int par_nil))))))
        (pds_one (pd_raise rfl tk T.e_BadGear it_BadGear bi_BadGear ⟨by decide, by decide⟩ hr T.g_BadGear (par_cons pd_str par_nil)))
        pds_nil)
      (pds_cons (pd_asg (pd_var (pv 1)) (pgt_tup (n := 3) rfl (pgts_cons (pgt_name (pg_name (i := 2) sc_need_box.nd rfl (.inl rfl))) (pgts_cons (pgt_name (pg_name (i := 3) sc_need_box.nd rfl (.inr rfl))) (pgts_cons (pgt_name (pg_name (i := 4) sc_need_box.nd rfl (.inl rfl))) pgts_nil)))))
      (pds_cons (pd_if (pt_notD (pt_valD (pd_call (ok_is_name T) hr (by rfl) T.g_is_name T.F_is_name.kp T.b_is_name (passD tk) (par_cons (pd_var (pv 2)) par_nil))))
        (pds_one (pd_raise rfl tk T.e_BadGear it_BadGear bi_BadGear ⟨by decide, by decide⟩ hr T.g_BadGear (par_cons pd_str par_nil)))
        pds_nil)
      (pds_cons (pd_if (PWt.pt (pwt_or (pt_notD (pt_valD (pd_call (ok_is_row T) hr (by rfl) T.g_is_row T.F_is_row.kp T.b_is_row (passD tk) (par_cons (pd_var (pv 3)) (par_cons pd_int (par_cons (pd_globI T.g_MOST_SLOTS) par_nil)))))) (pwt_or1 (pt_notD (pt_valD (pd_callB (dc_all rfl) (by rfl) T.n_all (by decide +kernel) (pb_of (pd_lc (by rfl) sc_need_box.nd (pit_seq (pb_var (pv 3))) (blkOk_by (own := [("kind", 5)]) (N := N_need_box) (sc := defScope s_need_box) (by decide +kernel)) (fun _ _ _ _ _ => (pgt_name (pg_name (i := 5) sc_need_box.nd rfl (.inl rfl)))) (fun _ _ _ _ _ => ptd_nil) (fun _ _ _ _ _ => (pd_call (ok_is_slot T) hr (by rfl) T.g_is_slot T.F_is_slot.kp T.b_is_slot passL (par_cons (pd_var (pv 0)) (par_cons (pd_var (pv 5)) par_nil))))))))))))
        (pds_one (pd_raise rfl tk T.e_BadGear it_BadGear bi_BadGear ⟨by decide, by decide⟩ hr T.g_BadGear (par_cons pd_str par_nil)))
        pds_nil)
      (pds_cons (pd_if (PWt.pt (pwt_or (pt_notD (pt_valD (pd_call (ok_is_row T) hr (by rfl) T.g_is_row T.F_is_row.kp T.b_is_row (passD tk) (par_cons (pd_var (pv 4)) (par_cons pd_int (par_cons (pd_globI T.g_MOST_MOVES) par_nil)))))) (pwt_or1 (pt_notD (pt_valD (pd_callB (dc_all rfl) (by rfl) T.n_all (by decide +kernel) (pb_of (pd_lc (by rfl) sc_need_box.nd (pit_seq (pb_var (pv 4))) (blkOk_by (own := [("move", 6)]) (N := N_need_box) (sc := defScope s_need_box) (by decide +kernel)) (fun _ _ _ _ _ => (pgt_name (pg_name (i := 6) sc_need_box.nd rfl (.inl rfl)))) (fun _ _ _ _ _ => ptd_nil) (fun _ _ _ _ _ => (pd_call (ok_is_move T) hr (by rfl) T.g_is_move T.F_is_move.kp T.b_is_move passL (par_cons (pd_callB dc_len (by rfl) T.n_len (by decide +kernel) (pb_var (pv 3))) (par_cons (pd_var (pv 6)) par_nil))))))))))))
        (pds_one (pd_raise rfl tk T.e_BadGear it_BadGear bi_BadGear ⟨by decide, by decide⟩ hr T.g_BadGear (par_cons pd_str par_nil)))
        pds_nil)
      (pds_one (pd_if (pt_notD (pt_valD (pd_callB (dc_all rfl) (by rfl) T.n_all (by decide +kernel) (pb_of (pd_lc (by rfl) sc_need_box.nd (pit_seq (pb_var (pv 4))) (blkOk_by (own := [("order", 7), ("_", 8)]) (N := N_need_box) (sc := defScope s_need_box) (by decide +kernel)) (fun _ _ _ _ _ => (pgt_tup (n := 2) rfl (pgts_cons (pgt_name (pg_name (i := 7) sc_need_box.nd rfl (.inl rfl))) (pgts_cons (pgt_name (pg_name (i := 8) sc_need_box.nd rfl (.inl rfl))) pgts_nil)))) (fun _ _ _ _ _ => ptd_nil) (fun _ _ _ _ _ => (pd_cmp (do_eq hr.units) (pb_of (pd_call (ok_moved T) hr (by rfl) T.g_moved T.F_moved.kp T.b_moved passL (par_cons (pd_var (pv 3)) (par_cons (pd_var (pv 7)) par_nil)))) (pb_var (pv 3)) (nomark _))))))))
        (pds_one (pd_raise rfl tk T.e_BadGear it_BadGear bi_BadGear ⟨by decide, by decide⟩ hr T.g_BadGear (par_cons pd_str par_nil)))
        pds_nil)))))))) (fun ds Kd Ke l h => ?_)
  obtain ⟨sp, d, rfl, hs, sm, q1, q2⟩ := h
  rcases three_or d with ⟨n, kk, mm, rfl⟩ | ⟨e, no⟩
  · have sm2 := smals_mem (show smals [n, kk, mm] = true from sm)
    refine ⟨rfl, _, 3, 3, rfl, rfl, rfl, n, rfl, smal_short (sm2 n (by simp)), ?_⟩
    refine bw_of (b := !isName n) (fun h1 => ?_) (fun h1 => ?_)
    · rw [Bool.not_eq_true'] at h1
      refine ⟨rfl, q2 ?_ _⟩
      cases kk <;> try rfl
      cases mm <;> try rfl
      show (isName n && _) = false
      rw [h1, Bool.false_and]
    rw [Bool.not_eq_false'] at h1
    refine ⟨rfl, _, 0, 4, rfl, ?_⟩
    rcases row_or 0 4 kk with ⟨ks, rfl, l1, l2, e⟩ | ⟨e, no⟩
    rotate_left
    · exact bw_T (b := !isRow 0 4 kk) (by rw [show isRow 0 4 kk = false from e] <;> rfl) ⟨rfl, q2 (isBox_ks no) _⟩
    refine bw_F (b := !isRow 0 4 (.tuple ks)) (by rw [show isRow 0 4 (.tuple ks) = true from e] <;> rfl) ?_
    have smk := smals_mem (show smals ks = true from sm2 (.tuple ks) (by simp))
    refine compMapD (lv := none) (f := fun d => PyData.bool (isSlot sp d)) True.intro (by rfl) ks [] _ (Nat.le_trans (show 0 + ks.length ≤ 4 by omega) (by decide)) (fun d hd Ky h => ⟨rfl, _, _, rfl, hs, smk d hd, h⟩) (gAll_map ?_)
    refine bw_of (b := !ks.all (isSlot sp)) (fun h2 => ?_) (fun h2 => ?_)
    · rw [Bool.not_eq_true'] at h2
      refine ⟨rfl, q2 ?_ _⟩
      cases mm <;> try rfl
      show (isName n && (decide (ks.length ≤ 4) && (ks.all (isSlot sp) && _))) = false
      rw [h2, Bool.false_and, Bool.and_false, Bool.and_false]
    rw [Bool.not_eq_false'] at h2
    refine ⟨rfl, _, 0, 3, rfl, ?_⟩
    rcases row_or 0 3 mm with ⟨ms, rfl, m1, m2, e⟩ | ⟨e, no⟩
    rotate_left
    · exact bw_T (b := !isRow 0 3 mm) (by rw [show isRow 0 3 mm = false from e] <;> rfl) ⟨rfl, q2 (isBox_ms no) _⟩
    refine bw_F (b := !isRow 0 3 (.tuple ms)) (by rw [show isRow 0 3 (.tuple ms) = true from e] <;> rfl) ?_
    have eB : isBox sp (.tuple [n, .tuple ks, .tuple ms]) = (ms.all (isMove ks.length) && ms.all (keeps ks)) := by
      show (isName n && (decide (ks.length ≤ 4) && (ks.all (isSlot sp) && (decide (ms.length ≤ 3) && _)))) = _
      rw [h1, decide_eq_true l2, h2, decide_eq_true m2]
      rfl
    refine compMapD (lv := none) (f := fun d => PyData.bool (isMove ks.length d)) True.intro (by rfl) ms [] _ (Nat.le_trans (show 0 + ms.length ≤ 3 by omega) (by decide)) (fun d hd Ky h => ⟨rfl, ks.length, d, rfl, by omega, h⟩) (gAll_map ?_)
    refine bw_of (b := !ms.all (isMove ks.length)) (fun h3 => ?_) (fun h3 => ?_)
    · rw [Bool.not_eq_true'] at h3
      refine ⟨rfl, q2 ?_ _⟩
      rw [eB, h3, Bool.false_and]
    rw [Bool.not_eq_false'] at h3
    rw [eB, h3, Bool.true_and] at q1 q2
    have ha := List.all_eq_true.mp h2
    refine compMapD (lv := none) (f := fun d => PyData.bool (keeps ks d)) True.intro (by rfl) ms [] _ (Nat.le_trans (show 0 + ms.length ≤ 3 by omega) (by decide)) (fun d hd Ky h => ?_) (gAll_map ?_)
    · obtain ⟨os, s, ns, rfl, lo, en, eo, bd⟩ := move_of (List.all_eq_true.mp h3 d hd)
      have ek : keeps ks (.tuple [.tuple os, s]) = PyData.eqv (.tuple (movedD ks ns)) (.tuple ks) := by
        show (match intsD os with
          | some ns => PyData.eqv (.tuple (movedD ks ns)) (.tuple ks)
          | none => false) = _
        rw [en]
      rw [ek] at h
      refine ⟨rfl, rfl, ks, os, ns, rfl, en, bd, ?_, slots_fits (fun d hd => ha d (moved_mem bd d hd)), slots_fits ha, h⟩
      have : ns.length = os.length := by rw [eo, List.length_map]
      omega
    · refine bw_of (b := !ms.all (keeps ks)) (fun h4 => ?_) (fun h4 => ?_)
      · rw [Bool.not_eq_true'] at h4
        exact ⟨rfl, q2 h4 _⟩
      · rw [Bool.not_eq_false'] at h4
        exact q1 h4
  · exact ⟨rfl, _, 3, 3, rfl, bw_T (b := !isRow 3 3 d) (by rw [e] <;> rfl) ⟨rfl, q2 (isBox_no no) _⟩⟩
theorem names_sc {sp : List D} (h : sp.all isName = true) : sp.all scD = true := by
  refine List.all_eq_true.mpr fun d hd => ?_
  obtain ⟨z, rfl, _⟩ := isName_str (List.all_eq_true.mp h d hd)
  rfl
theorem names_str {sp : List D} (h : sp.all isName = true) : ∀ d ∈ sp, strD d := fun d hd => by
  obtain ⟨z, rfl, _⟩ := isName_str (List.all_eq_true.mp h d hd)
  exact True.intro
theorem box_of {sp : List D} {d : D} (h : isBox sp d = true) : ∃ n ks ms, d = .tuple [n, .tuple ks, .tuple ms] ∧ isName n = true := by
  unfold isBox at h
  split at h
  · rw [Bool.and_eq_true] at h
    exact ⟨_, _, _, rfl, h.1⟩
  · cases h
/-- each box looked at -/
theorem boxes_run {g : TGd} {b : TDS} {DD : EndsD} {sp : List D} {Γ : Option D → Env'} (hs : sp.all scD = true)
    (step : ∀ d x nx, smal d = true → (isBox sp d = true → nx (Γ (some d))) → (isBox sp d = false → bad DD.er) → g d (Γ x) fun Γ1 => b { nx := nx, rt := DD.rt, ct := nx, bk := DD.nx, er := DD.er } Γ1) :
    ∀ (bx : List D) (x : Option D), smals bx = true → (bx.all (isBox sp) = true → ∀ x, DD.nx (Γ x)) → (bx.all (isBox sp) = false → bad DD.er) → forD g b DD bx (Γ x)
  | [], x, _, h, _ => h rfl x
  | d :: bx, x, sm, h1, h2 => by
    have sm : (smal d && smals bx) = true := sm
    rw [Bool.and_eq_true] at sm
    refine step d x _ sm.1 (fun e => boxes_run hs step bx _ sm.2 (fun z => h1 ?_) (fun z => h2 ?_)) (fun e => h2 ?_)
    · rw [List.all_cons, e, z] <;> rfl
    · rw [List.all_cons, z, Bool.and_false]
    · rw [List.all_cons, e, Bool.false_and]
theorem ok_need_gear (T : Txt K mg) : FnOk P w K mg base (L2.CX P w) (k + 4) T.f_need_gear T.d_need_gear ["gear"] (spD K mg 1 cGear) := by
  refine okD (fam := noFam w) T.F_need_gear sc_need_gear (by decide) (fun cdv A outer s H E hr tk =>
    (pds_cons (pd_if (pt_notD (pt_valD (pd_call (ok_is_row T) hr (by rfl) T.g_is_row T.F_is_row.kp T.b_is_row (passD tk) (par_cons (pd_var (pv 0)) (par_cons pd_int (par_cons pd_int par_nil))))))
        (pds_one (pd_raise rfl tk T.e_BadGear it_BadGear bi_BadGear ⟨by decide, by decide⟩ hr T.g_BadGear (par_cons pd_str par_nil)))
        pds_nil)
      (pds_cons (pd_asg (pd_var (pv 0)) (pgt_tup (n := 2) rfl (pgts_cons (pgt_name (pg_name (i := 1) sc_need_gear.nd rfl (.inl rfl))) (pgts_cons (pgt_name (pg_name (i := 2) sc_need_gear.nd rfl (.inl rfl))) pgts_nil))))
      (pds_cons (pd_if (PWt.pt (pwt_or (pt_notD (pt_valD (pd_call (ok_is_row T) hr (by rfl) T.g_is_row T.F_is_row.kp T.b_is_row (passD tk) (par_cons (pd_var (pv 1)) (par_cons pd_int (par_cons (pd_globI T.g_MOST_SPACES) par_nil)))))) (pwt_or1 (pt_notD (pt_valD (pd_callB (dc_all rfl) (by rfl) T.n_all (by decide +kernel) (pb_of (pd_lc (by rfl) sc_need_gear.nd (pit_seq (pb_var (pv 1))) (blkOk_by (own := [("space", 3)]) (N := N_need_gear) (sc := defScope s_need_gear) (by decide +kernel)) (fun _ _ _ _ _ => (pgt_name (pg_name (i := 3) sc_need_gear.nd rfl (.inl rfl)))) (fun _ _ _ _ _ => ptd_nil) (fun _ _ _ _ _ => (pd_call (ok_is_name T) hr (by rfl) T.g_is_name T.F_is_name.kp T.b_is_name passL (par_cons (pd_var (pv 3)) par_nil)))))))))))
        (pds_one (pd_raise rfl tk T.e_BadGear it_BadGear bi_BadGear ⟨by decide, by decide⟩ hr T.g_BadGear (par_cons pd_str par_nil)))
        pds_nil)
      (pds_cons (pd_if (pt_notD (pt_valD (pd_call (ok_rises T) hr (by rfl) T.g_rises T.F_rises.kp T.b_rises (passD tk) (par_cons (pd_var (pv 1)) par_nil))))
        (pds_one (pd_raise rfl tk T.e_BadGear it_BadGear bi_BadGear ⟨by decide, by decide⟩ hr T.g_BadGear (par_cons pd_str par_nil)))
        pds_nil)
      (pds_cons (pd_if (pt_notD (pt_valD (pd_call (ok_is_row T) hr (by rfl) T.g_is_row T.F_is_row.kp T.b_is_row (passD tk) (par_cons (pd_var (pv 2)) (par_cons pd_int (par_cons (pd_globI T.g_MOST_BOXES) par_nil))))))
        (pds_one (pd_raise rfl tk T.e_BadGear it_BadGear bi_BadGear ⟨by decide, by decide⟩ hr T.g_BadGear (par_cons pd_str par_nil)))
        pds_nil)
      (pds_cons (pd_for (passes_of rfl) rfl (pit_seq (pb_of (pd_var (pv 2)))) (pgt_name (pg_name (i := 4) sc_need_gear.nd rfl (.inl rfl)))
        (pds_one (pd_expr (pd_call (ok_need_box T) hr (by rfl) T.g_need_box T.F_need_box.kp T.b_need_box (passD tk) (par_cons (pd_var (pv 1)) (par_cons (pd_var (pv 4)) par_nil))))))
      (pds_one (pd_if (pt_notD (pt_valD (pd_call (ok_rises T) hr (by rfl) T.g_rises T.F_rises.kp T.b_rises (passD tk) (par_cons (pd_lc (by rfl) sc_need_gear.nd (pit_seq (pb_var (pv 2))) (blkOk_by (own := [("box", 4)]) (N := N_need_gear) (sc := defScope s_need_gear) (by decide +kernel)) (fun _ _ _ _ _ => (pgt_name (pg_name (i := 4) sc_need_gear.nd rfl (.inl rfl)))) (fun _ _ _ _ _ => ptd_nil) (fun _ _ _ _ _ => (pd_ix (pb_var (pv 4)) (pb_of pd_int) (fun _ _ => rfl)))) par_nil))))
        (pds_one (pd_raise rfl tk T.e_BadGear it_BadGear bi_BadGear ⟨by decide, by decide⟩ hr T.g_BadGear (par_cons pd_str par_nil)))
        pds_nil))))))))) (fun ds Kd Ke l h => ?_)
  obtain ⟨g, rfl, sm, q1, q2⟩ := h
  rcases two_or g with ⟨s, b, rfl⟩ | ⟨e, no⟩
  · have sm2 := smals_mem (show smals [s, b] = true from sm)
    refine ⟨rfl, _, 2, 2, rfl, rfl, ⟨rfl, _, 1, 3, rfl, ?_⟩⟩
    rcases row_or 1 3 s with ⟨sp, rfl, l1, l2, e⟩ | ⟨e, no⟩
    rotate_left
    · exact bw_T (b := !isRow 1 3 s) (by rw [show isRow 1 3 s = false from e] <;> rfl) ⟨rfl, q2 (isGear_sp no) _⟩
    refine bw_F (b := !isRow 1 3 (.tuple sp)) (by rw [show isRow 1 3 (.tuple sp) = true from e] <;> rfl) ?_
    have sms := smals_mem (show smals sp = true from sm2 (.tuple sp) (by simp))
    refine compMapD (lv := none) (f := fun d => PyData.bool (isName d)) True.intro (by rfl) sp [] _ (Nat.le_trans (show 0 + sp.length ≤ 3 by omega) (by decide)) (fun d hd Ky h => ⟨rfl, _, rfl, smal_short (sms d hd), h⟩) (gAll_map ?_)
    refine bw_of (b := !sp.all isName) (fun h1 => ?_) (fun h1 => ?_)
    · rw [Bool.not_eq_true'] at h1
      refine ⟨rfl, q2 ?_ _⟩
      cases b <;> try rfl
      show (_ && (sp.all isName && _)) = false
      rw [h1, Bool.false_and, Bool.and_false]
    rw [Bool.not_eq_false'] at h1
    refine ⟨rfl, sp, .inr rfl, names_str h1, by omega, ?_⟩
    refine bw_of (b := !risesD sp) (fun h2 => ?_) (fun h2 => ?_)
    · rw [Bool.not_eq_true'] at h2
      refine ⟨rfl, q2 ?_ _⟩
      cases b <;> try rfl
      show (_ && (sp.all isName && (risesD sp && _))) = false
      rw [h2, Bool.false_and, Bool.and_false, Bool.and_false]
    rw [Bool.not_eq_false'] at h2
    refine ⟨rfl, _, 0, 8, rfl, ?_⟩
    rcases row_or 0 8 b with ⟨bx, rfl, b1, b2, e⟩ | ⟨e, no⟩
    rotate_left
    · exact bw_T (b := !isRow 0 8 b) (by rw [show isRow 0 8 b = false from e] <;> rfl) ⟨rfl, q2 (isGear_bx no) _⟩
    refine bw_F (b := !isRow 0 8 (.tuple bx)) (by rw [show isRow 0 8 (.tuple bx) = true from e] <;> rfl) ?_
    have eG : isGear (.tuple [.tuple sp, .tuple bx]) = (bx.all (isBox sp) && risesD (bx.map boxName)) := by
      show ((decide (1 ≤ sp.length) && decide (sp.length ≤ 3)) && (sp.all isName && (risesD sp && (decide (bx.length ≤ 8) && _)))) = _
      rw [decide_eq_true l1, decide_eq_true l2, h1, h2, decide_eq_true b2]
      rfl
    rw [eG] at q1 q2
    refine ⟨rfl, ?_⟩
    refine boxes_run (sp := sp) (Γ := fun x => [some (.imm (.tuple [.tuple sp, .tuple bx])), some (.imm (.tuple sp)), some (.imm (.tuple bx)), none, x.map Slot.imm]) (names_sc h1) (fun d x nx smd y1 y2 => ⟨rfl, sp, d, rfl, names_sc h1, smd, y1, y2⟩) bx none (sm2 (.tuple bx) (by simp)) (fun h3 x => ?_) (fun h3 => ?_)
    · rw [h3, Bool.true_and] at q1 q2
      have hb := List.all_eq_true.mp h3
      refine compMapD (lv := none) (f := boxName) True.intro ?_ bx [] _ (Nat.le_trans (show 0 + bx.length ≤ 8 by omega) (by decide)) (fun d hd Ky h => ?_) ?_
      · cases x <;> rfl
      · obtain ⟨n, ks, ms, rfl, _⟩ := box_of (hb d hd)
        exact ⟨n, rfl, h⟩
      · refine ⟨rfl, bx.map boxName, .inl rfl, fun d hd => ?_, by rw [List.length_map]; omega, ?_⟩
        · obtain ⟨y, hy, rfl⟩ := List.mem_map.mp hd
          obtain ⟨n, ks, ms, rfl, hn⟩ := box_of (hb y hy)
          obtain ⟨z, rfl, _⟩ := isName_str hn
          exact True.intro
        · refine bw_of (b := !risesD (bx.map boxName)) (fun h4 => ?_) (fun h4 => ?_)
          · rw [Bool.not_eq_true'] at h4
            exact ⟨rfl, q2 h4 _⟩
          · rw [Bool.not_eq_false'] at h4
            exact q1 h4
    · rw [h3, Bool.false_and] at q2
      exact q2 rfl
  · exact ⟨rfl, _, 2, 2, rfl, bw_T (b := !isRow 2 2 g) (by rw [e] <;> rfl) ⟨rfl, q2 (isGear_no no) _⟩⟩
/-- the first that p is said of is told -/
theorem find_run {g : TGd} {b : TDS} {DD : EndsD} {Γ : Option D → Env'} {p : D → Bool} : ∀ (bx : List D) (x : Option D),
    (∀ d ∈ bx, ∀ x nx, (p d = true → ∀ Γ, DD.rt (.imm d) Γ) → (p d = false → nx (Γ (some d))) → g d (Γ x) fun Γ1 => b { nx := nx, rt := DD.rt, ct := nx, bk := DD.nx, er := DD.er } Γ1) →
    (∀ d, bx.find? p = some d → ∀ Γ, DD.rt (.imm d) Γ) → (bx.find? p = none → ∀ x, DD.nx (Γ x)) → forD g b DD bx (Γ x)
  | [], x, _, _, h => h rfl x
  | d :: bx, x, step, h1, h2 => by
    refine step d List.mem_cons_self x _ (fun e => h1 d ?_) (fun e => find_run bx _ (fun y hy => step y (List.mem_cons_of_mem _ hy)) (fun y z => h1 y ?_) (fun z => h2 ?_))
    · rw [List.find?_cons_of_pos e]
    · rw [List.find?_cons_of_neg (by rw [e]; decide)]
      exact z
    · rw [List.find?_cons_of_neg (by rw [e]; decide)]
      exact z
/-- the box of a name -/
def findBox (g b : D) : Option D := if isName b = true then (match g with
  | .tuple [_, .tuple bx] => bx.find? fun x => eqS (boxName x) b
  | _ => none) else none
abbrev badBox (b : D) (Ke : KE) : Prop := Ke "NoBox" [("name", b)]
def cFound : CD := fun ds k Ke => ∃ g b, ds = [g, b] ∧ smal g = true ∧ smal b = true ∧ (isGear g = false → bad Ke) ∧ (isGear g = true → (∀ x, findBox g b = some x → k (.imm x)) ∧ (findBox g b = none → badBox b Ke))
theorem gear_of {g : D} (h : isGear g = true) : ∃ sp bx, g = .tuple [.tuple sp, .tuple bx] ∧ (∀ d ∈ sp, isName d = true) ∧ (∀ d ∈ bx, isBox sp d = true) ∧ sp.length ≤ 3 ∧ 1 ≤ sp.length ∧ bx.length ≤ 8 := by
  unfold isGear at h
  split at h
  · simp only [Bool.and_eq_true, decide_eq_true_eq] at h
    exact ⟨_, _, rfl, List.all_eq_true.mp h.2.1, List.all_eq_true.mp h.2.2.2.2.1, h.1.2, h.1.1, h.2.2.2.1⟩
  · cases h
theorem ok_found_box (T : Txt K mg) : FnOk P w K mg base (L2.CX P w) (k + 5) T.f_found_box T.d_found_box ["gear", "box"] (spD K mg 2 cFound) := by
  refine okD (fam := noFam w) T.F_found_box sc_found_box (by decide) (fun cdv A outer s H E hr tk =>
    (pds_cons (pd_expr (pd_call (ok_need_gear T) hr (by rfl) T.g_need_gear T.F_need_gear.kp T.b_need_gear (passD tk) (par_cons (pd_var (pv 0)) par_nil)))
      (pds_cons (pd_if (pt_valD (pd_call (ok_is_name T) hr (by rfl) T.g_is_name T.F_is_name.kp T.b_is_name (passD tk) (par_cons (pd_var (pv 1)) par_nil)))
        (pds_one (pd_for (passes_of rfl) rfl (pit_seq (pb_of (pd_ix (pb_var (pv 0)) (pb_of pd_int) (fun _ _ => rfl)))) (pgt_name (pg_name (i := 2) sc_found_box.nd rfl (.inl rfl)))
          (pds_one (pd_if (pt_cmpD (do_eq hr.units) (pb_of (pd_ix (pb_var (pv 2)) (pb_of pd_int) (fun _ _ => rfl))) (pb_var (pv 1)) (nomark _))
            (pds_one (pd_ret (pd_move (pv 2))))
            pds_nil))))
        pds_nil)
      (pds_one (pd_raise rfl tk T.e_NoBox it_NoBox bi_NoBox ⟨by decide, by decide⟩ hr T.g_NoBox (par_cons (pd_var (pv 1)) par_nil)))))) (fun ds Kd Ke l h => ?_)
  obtain ⟨g, b, rfl, smg, smb, q1, q2⟩ := h
  refine ⟨rfl, g, rfl, smg, fun hg => ?_, q1⟩
  obtain ⟨h1, h2⟩ := q2 hg
  refine ⟨rfl, b, rfl, smal_short smb, bw_of (b := isName b) (fun hb => ?_) (fun hb => ?_)⟩
  · obtain ⟨sp, bx, rfl, _, hx, _, _, _⟩ := gear_of hg
    obtain ⟨z, rfl, _⟩ := isName_str hb
    have ef : findBox (.tuple [.tuple sp, .tuple bx]) (.str z) = bx.find? fun x => eqS (boxName x) (.str z) := by
      unfold findBox
      rw [if_pos hb]
    rw [ef] at h1 h2
    refine ⟨.tuple bx, rfl, rfl, ?_⟩
    refine find_run (p := fun x => eqS (boxName x) (.str z)) (Γ := fun x => [some (.imm (.tuple [.tuple sp, .tuple bx])), some (.imm (.str z)), x.map Slot.imm]) bx none (fun d hd x nx y1 y2 => ?_) (fun d e _ => h1 d e) (fun e x => ⟨rfl, h2 e⟩)
    obtain ⟨n, ks, ms, rfl, hn⟩ := box_of (hx d hd)
    obtain ⟨y, rfl, _⟩ := isName_str hn
    refine ⟨.str y, rfl, bw_of (b := decide (y = z)) (fun h => y1 h []) (fun h => y2 h)⟩
  · have ef : findBox g b = none := by
      unfold findBox
      rw [if_neg (by rw [hb]; decide)]
    exact ⟨rfl, h2 ef⟩
/-- a box's row -/
def boxRow : D → D
  | .tuple (_ :: k :: _) => k
  | _ => .none
def cSlots : CD := fun ds k Ke => ∃ g b, ds = [g, b] ∧ smal g = true ∧ smal b = true ∧ (isGear g = false → bad Ke) ∧ (isGear g = true → (∀ x, findBox g b = some x → k (.imm (boxRow x))) ∧ (findBox g b = none → badBox b Ke))
theorem find_of {g b x : D} (hg : isGear g = true) (h : findBox g b = some x) : ∃ sp bx n ks ms, g = .tuple [.tuple sp, .tuple bx] ∧ x ∈ bx ∧ x = .tuple [n, .tuple ks, .tuple ms] ∧ isBox sp x = true ∧ isName b = true := by
  obtain ⟨sp, bx, rfl, _, hx, _, _, _⟩ := gear_of hg
  unfold findBox at h
  split at h
  · rename_i hb
    have hm := List.mem_of_find?_eq_some h
    obtain ⟨n, ks, ms, e, _⟩ := box_of (hx x hm)
    exact ⟨sp, bx, n, ks, ms, rfl, hm, e, hx x hm, hb⟩
  · cases h
theorem ok_slots (T : Txt K mg) : FnOk P w K mg base (L2.CX P w) (k + 6) T.f_slots T.d_slots ["gear", "box"] (spD K mg 2 cSlots) := by
  refine okD (fam := noFam w) T.F_slots sc_slots (by decide) (fun cdv A outer s H E hr tk =>
    (pds_one (pd_ret (pd_ix (pb_of (pd_call (ok_found_box T) hr (by rfl) T.g_found_box T.F_found_box.kp T.b_found_box (passD tk) (par_cons (pd_var (pv 0)) (par_cons (pd_var (pv 1)) par_nil)))) (pb_of pd_int) (fun _ _ => rfl))))) (fun ds Kd Ke l h => ?_)
  obtain ⟨g, b, rfl, smg, smb, q1, q2⟩ := h
  refine ⟨rfl, g, b, rfl, smg, smb, q1, fun hg => ⟨fun x e => ?_, (q2 hg).2⟩⟩
  obtain ⟨sp, bx, n, ks, ms, rfl, hm, rfl, _⟩ := find_of hg e
  exact ⟨.tuple ks, rfl, (q2 hg).1 _ e⟩
end
end L2.Pr

set_option Elab.async false
set_option linter.all false
set_option maxRecDepth 100000
set_option maxHeartbeats 8000000
namespace L2.Pr
open PySem PySem.Spec PyProof.Rows L2.Sl L2.Dl
/-! ### what all is drawn by -/
def dr (cl : Addr) (s t k : Int) : List (Key × V) := [(Sum.inr "cells", .ref cl), (Sum.inr "spot", .int s), (Sum.inr "stock", .int t), (Sum.inr "mixed", .int k)]
/-- at m: a draw of which at most n have been asked -/
def Drw (H : Hp) (m cl : Addr) (n : Nat) : Prop := ∃ s t k, ∃ cs : List Int, H m = some (.dK (dr cl s t k)) ∧ H cl = some (.lst (cs.map V.int)) ∧ cs ≠ [] ∧ cs.length ≤ 64 ∧ 0 ≤ s ∧ s ≤ n ∧ 0 ≤ k ∧ k ≤ n
/-- all but the draw is as it was -/
def Off (m : Addr) (H H2 : Hp) : Prop := ∀ b o, b ≠ m → H b = some o → H2 b = some o
theorem Off.refl {m : Addr} {H : Hp} : Off m H H := fun _ _ _ e => e
theorem Off.trans {m : Addr} {H H1 H2 : Hp} (a : Off m H H1) (b : Off m H1 H2) : Off m H H2 := fun c o h e => b c o h (a c o h e)
theorem Off.same {m : Addr} {H H2 : Hp} (s : Same H H2) : Off m H H2 := fun b o _ e => s b o e
theorem Drw.same {H H2 : Hp} {m cl : Addr} {n : Nat} (D : Drw H m cl n) (s : Same H H2) : Drw H2 m cl n := by
  obtain ⟨s', t, k, cs, h1, h2, r⟩ := D
  exact ⟨s', t, k, cs, s _ _ h1, s _ _ h2, r⟩
theorem Drw.mono {H : Hp} {m cl : Addr} {n n2 : Nat} (D : Drw H m cl n) (h : n ≤ n2) : Drw H m cl n2 := by
  obtain ⟨s', t, k, cs, h1, h2, a, b, c, d, e, f⟩ := D
  exact ⟨s', t, k, cs, h1, h2, a, b, c, by omega, e, by omega⟩
theorem Drw.at_ {H : Hp} {m cl : Addr} {n : Nat} (D : Drw H m cl n) : ∃ l, H m = some (.dK l) := by
  obtain ⟨s', t, k, cs, h1, _⟩ := D
  exact ⟨_, h1⟩
theorem Off.keep {m cl a : Addr} {H H2 : Hp} {o : HO} {n : Nat} (D : Drw H m cl n) (b : Off m H H2) (e : H a = some o) (h : ∀ l, o ≠ .dK l) : H2 a = some o := by
  obtain ⟨l, em⟩ := D.at_
  exact b a _ (ne_of e em (h _)) e
theorem Off.tups {m cl : Addr} {H H2 : Hp} {n : Nat} (D : Drw H m cl n) (b : Off m H H2) : Tups H H2 := fun a xs e => b.keep D e fun _ z => nomatch z
def spStart (K : PySem.W.Frag) : Sp := fun vs H Q _ => ∃ (a : Addr) (ns : List Int), vs = [.ref a] ∧ SqL K H a (ns.map V.int) ∧ ns.length ≤ 63 ∧ ∀ H2 m cl, Same H H2 → H m = none → H cl = none → cl ≠ m → Drw H2 m cl 0 → Q (.ref m) H2
/-- a drawn number -/
def spDraw : Sp := fun vs H Q _ => ∃ (m cl : Addr) (many : Int) (n : Nat), vs = [.ref m, .int many] ∧ Drw H m cl n ∧ n ≤ 1000000000 ∧ 0 < many ∧ many < 18446744073709551616 ∧ ∀ H2 (r : Int), 0 ≤ r → r < many → Drw H2 m cl (n + 1) → Off m H H2 → Q (.int r) H2
section
variable {P : Program} {w : World} {K : PySem.W.Frag} {mg : Str → Option Value} {base : Heap}
theorem get_cells {H : Hp} {m cl : Addr} {s t k : Int} (e : H m = some (.dK (dr cl s t k))) : DGet H m (.str "cells") (some (.ref cl)) := DGet.k (k := Sum.inr "cells") e
theorem get_spot {H : Hp} {m cl : Addr} {s t k : Int} (e : H m = some (.dK (dr cl s t k))) : DGet H m (.str "spot") (some (.int s)) := DGet.k (k := Sum.inr "spot") e
theorem get_stock {H : Hp} {m cl : Addr} {s t k : Int} (e : H m = some (.dK (dr cl s t k))) : DGet H m (.str "stock") (some (.int t)) := DGet.k (k := Sum.inr "stock") e
theorem get_mixed {H : Hp} {m cl : Addr} {s t k : Int} (e : H m = some (.dK (dr cl s t k))) : DGet H m (.str "mixed") (some (.int k)) := DGet.k (k := Sum.inr "mixed") e
theorem put_spot {H : Hp} {m cl : Addr} {s t k y : Int} (e : H m = some (.dK (dr cl s t k))) : DPut H m (.str "spot") (.int y) (upd H m (.dK (dr cl y t k))) := DPut.k (k := Sum.inr "spot") e (show 4 < sizeLine by decide)
theorem put_stock {H : Hp} {m cl : Addr} {s t k y : Int} (e : H m = some (.dK (dr cl s t k))) : DPut H m (.str "stock") (.int y) (upd H m (.dK (dr cl s y k))) := DPut.k (k := Sum.inr "stock") e (show 4 < sizeLine by decide)
theorem put_mixed {H : Hp} {m cl : Addr} {s t k y : Int} (e : H m = some (.dK (dr cl s t k))) : DPut H m (.str "mixed") (.int y) (upd H m (.dK (dr cl s t y))) := DPut.k (k := Sum.inr "mixed") e (show 4 < sizeLine by decide)
abbrev s_st : Stmt := s_law_start
abbrev N_st : List Str := ["script"]
theorem sc_st : FnScope N_st ["script"] (defScope s_st) := ⟨rfl, rfl, rfl, by decide +kernel, rfl, by decide +kernel, by decide +kernel⟩
theorem ok_st {f : Addr} {fd : FuncData} {k : Nat} (F : Fun K "_law_start" "_law_start" s_st f fd) (n_len : mg "len" = none) : FnOk P w K mg base CX0 (k + 1) f fd ["script"] (spStart K) := by
  refine F.ok sc_st (fun vs H Q E h => ?_) (fun cdv A outer s H vs Q E hr h => ?_)
  · obtain ⟨a, ns, rfl, _⟩ := h
    rfl
  · obtain ⟨a, ns, rfl, hS, hlen, q⟩ := h
    refine ⟨_, (pss_one (ps_ret (pe_disp (pps_cons pe_str (pe_op op_catF (pv 0) (pe_lst (pa_cons (pe_callB call_len_seq (by rfl) n_len (by decide +kernel) (pa_cons (pv 0) pa_nil)) pa_nil))) (pps_cons pe_str pe_int (pps_cons pe_str pe_int (pps_cons pe_str pe_int pps_nil)))) (by rfl) (by rfl) (fun z => by cases z) (by decide)))), ?_⟩
    intro m hm
    have s1 := same_new (o := .dK []) hm
    refine ⟨_, rfl, _, rfl, a, _, rfl, .inl (s1.seq hS), (show 1 ≤ sizeLine by decide), fun t nt => ?_⟩
    have s2 := same_new (o := .lst [.int ((ns.map V.int).length : Int)]) nt
    refine ⟨a, t, ns.map V.int, [.int ((ns.map V.int).length : Int)], rfl, rfl, (s1.trans s2).seq hS, SqL.of upd_same, ?_, fun cl ncl => ?_⟩
    · rw [List.length_map]
      exact Nat.le_trans (show ns.length + 1 ≤ 64 by omega) (by decide)
    have s3 := same_new (o := .lst (ns.map V.int ++ [.int ((ns.map V.int).length : Int)])) ncl
    have em := (s2.trans s3) _ _ (upd_same (H := H) (a := m) (o := .dK []))
    refine ⟨em, dr cl 0 0 0, rfl, (show 4 ≤ 15 by decide), ?_⟩
    rw [show mergeK [] (dr cl 0 0 0) = dr cl 0 0 0 from rfl]
    have ne : cl ≠ m := fun z => by
      rw [z] at ncl
      have y := s2 _ _ (upd_same (H := H) (a := m) (o := .dK []))
      rw [ncl] at y
      cases y
    refine q _ m cl (same_put ((s1.trans s2).trans s3) hm) hm ((s1.trans s2).free ncl) ne ⟨0, 0, 0, ns ++ [(ns.length : Int)], upd_same, ?_, by simp, by simp; omega, by decide, by decide, by decide, by decide⟩
    rw [upd_ne ne, upd_same, List.map_append, List.length_map] <;> rfl
abbrev s_dw : Stmt := s_law_draw
abbrev N_dw : List Str := ["d", "many", "found", "cells", "cell", "k", "one"]
theorem sc_dw : FnScope N_dw ["d", "many"] (defScope s_dw) := ⟨rfl, rfl, rfl, by decide +kernel, rfl, by decide +kernel, by decide +kernel⟩
theorem hu64 {A : Around} {k : Nat} (hr : Room k A) : A.units + 64 < cLine := hr.units
theorem cell_at {cs : List Int} (h : cs ≠ []) (s : Int) : ∃ c : Int, atI (cs.map V.int) (s % ((cs.map V.int).length : Int)) = some (.int c) := by
  have hl : 0 < cs.length := List.length_pos_iff.mpr h
  have h0 := Int.emod_nonneg s (show ((cs.map V.int).length : Int) ≠ 0 by rw [List.length_map]; omega)
  have h1 := Int.emod_lt_of_pos s (show (0 : Int) < ((cs.map V.int).length : Int) by rw [List.length_map]; omega)
  obtain ⟨j, hj⟩ : ∃ j : Nat, s % ((cs.map V.int).length : Int) = (j : Int) := ⟨(s % ((cs.map V.int).length : Int)).toNat, by omega⟩
  rw [List.length_map] at h1
  have hlt : j < cs.length := by
    rw [List.length_map] at hj
    omega
  exact ⟨cs[j], at_of hj (by rw [List.getElem?_map, List.getElem?_eq_getElem hlt] <;> rfl)⟩
theorem ok_dw {f : Addr} {fd : FuncData} {k : Nat} (F : Fun K "_law_draw" "_law_draw" s_dw f fd) (n_len : mg "len" = none) : FnOk P w K mg base CX0 (k + 1) f fd ["d", "many"] spDraw := by
  refine F.ok sc_dw (fun vs H Q E h => ?_) (fun cdv A outer s H vs Q E hr h => ?_)
  · obtain ⟨m, cl, many, n, rfl, _⟩ := h
    rfl
  · obtain ⟨m, cl, many, n, rfl, ⟨sp, st, mx, cs, em, el, cn, cln, s0, sn, k0, kn⟩, hn, h0, h1, q⟩ := h
    have hu := hu_of hr
    refine ⟨_, (pss_cons (ps_if (pt_cmpR op_gt (pe_dget hu (pv 0) pe_str (fun _ _ => rfl)) pe_int (nomark _))
        (pss_cons (ps_set (i := 2) sc_dw.nd rfl (.inl rfl) (pe_op op_mod (pe_dget hu (pv 0) pe_str (fun _ _ => rfl)) (pv 1)))
        (pss_cons (ps_dput hu (pv 0) pe_str (pe_op op_fdivW (pe_dget hu (pv 0) pe_str (fun _ _ => rfl)) (pv 1)) rfl)
        (pss_one (ps_ret (pv 2)))))
        pss_nil)
      (pss_cons (ps_set (i := 3) sc_dw.nd rfl (.inl rfl) (pe_dget hu (pv 0) pe_str (fun _ _ => rfl)))
      (pss_cons (ps_par (i := 4) (j := 5) (by rfl) sc_dw.nd rfl rfl (by decide) rfl rfl (pa_cons (pe_ix ix_list (pv 3) (pe_op op_mod (pe_dget hu (pv 0) pe_str (fun _ _ => rfl)) (pe_callB call_len_seq (by rfl) n_len (by decide +kernel) (pa_cons (pv 3) pa_nil))) (fun _ _ => rfl)) (pa_cons (pe_op op_add (pe_dget hu (pv 0) pe_str (fun _ _ => rfl)) pe_int) pa_nil)) (by rfl))
      (pss_cons (ps_dput hu (pv 0) pe_str (pe_op op_add (pe_dget hu (pv 0) pe_str (fun _ _ => rfl)) pe_int) rfl)
      (pss_cons (ps_if (PW.pt (pw_and (pt_cmpR op_ge (pv 4) (pe_op op_pow pe_int pe_int) (nomark _)) (pw_and1 (pt_cmpR op_le (pe_dget hu (pv 0) pe_str (fun _ _ => rfl)) (pe_callB call_len_seq (by rfl) n_len (by decide +kernel) (pa_cons (pv 3) pa_nil)) (nomark _)))))
        (pss_cons (ps_dput hu (pv 0) pe_str (pe_op op_fdivW (pv 4) (pv 1)) rfl)
        (pss_one (ps_ret (pe_op op_mod (pv 4) (pv 1)))))
        pss_nil)
      (pss_cons (ps_dput hu (pv 0) pe_str (pv 5) rfl)
      (pss_cons (ps_set (i := 6) sc_dw.nd rfl (.inl rfl) (pe_op op_mod (pe_op op_add (pe_op op_add (pe_op op_mod (pv 4) pe_int) (pe_op op_mul (pe_op op_mul pe_int (pv 5)) (pv 5))) (pe_op op_mul pe_int (pe_dget hu (pv 0) pe_str (fun _ _ => rfl)))) pe_int))
      (pss_cons (ps_set (i := 6) sc_dw.nd rfl (.inl rfl) (pe_op op_mod (pe_op op_mul (pe_op op_mod (pe_op op_mul (pv 6) (pv 6)) pe_int) (pe_op op_add (pv 6) pe_int)) pe_int))
      (pss_one (ps_ret (pe_op op_mod (pe_op op_fdiv (pe_op op_mod (pe_op op_add (pe_op op_mul (pv 6) pe_int) (pv 5)) pe_int) pe_int) (pv 1)))))))))))), ?_⟩
    have ncl : cl ≠ m := ne_of el em (by intro z; cases z)
    have mb : many.natAbs < 2 ^ 64 := by omega
    have dW : ∀ z : Int, CDivW z many := fun z => wide_div h0 mb (by decide) (by decide)
    have off : ∀ {o : HO}, Off m H (upd H m o) := fun b x hb e => by rw [upd_ne hb]; exact e
    have fin : ∀ (H2 : Hp) (s2 t2 k2 r : Int), Off m H H2 → H2 m = some (.dK (dr cl s2 t2 k2)) → 0 ≤ s2 → s2 ≤ n + 1 → 0 ≤ k2 → k2 ≤ n + 1 → 0 ≤ r → r < many → Q (.int r) H2 := fun H2 s2 t2 k2 r b e a1 a2 a3 a4 r0 r1 =>
      q H2 r r0 r1 ⟨s2, t2, k2, cs, e, b _ _ ncl el, cn, cln, a1, by omega, a3, by omega⟩ b
    -- if d["stock"] > 0
    refine ⟨_, rfl, m, _, rfl, get_stock em, _, _, rfl, rfl, _, rfl, ite2 (fun c => ?_) (fun c => ?_)⟩
    · refine ⟨_, rfl, m, _, rfl, get_stock em, _, rfl, _, _, rfl, rfl, h0, ?_⟩
      refine ⟨_, rfl, m, _, rfl, get_stock em, _, rfl, _, _, rfl, rfl, dW _, _, rfl, m, _, rfl, put_stock em, ?_⟩
      exact ⟨_, rfl, fin _ _ _ _ _ off upd_same s0 (by omega) k0 (by omega) (Int.emod_nonneg _ (by omega)) (Int.emod_lt_of_pos _ h0)⟩
    · obtain ⟨c, hc⟩ := cell_at cn sp
      have lp : (0 : Int) < ((cs.map V.int).length : Int) := by
        rw [List.length_map]
        have := List.length_pos_iff.mpr cn
        omega
      refine ⟨_, rfl, m, _, rfl, get_cells em, _, rfl, _, rfl, m, _, rfl, get_spot em, _, rfl, cl, _, rfl, .inl (SqL.of el), _, _, rfl, rfl, lp, cl, _, _, _, rfl, rfl, SqL.of el, hc, _, rfl, m, _, rfl, get_mixed em, _, _, rfl, rfl, _, _, rfl, ?_⟩
      refine ⟨_, rfl, m, _, rfl, get_spot em, _, _, rfl, rfl, _, rfl, m, _, rfl, put_spot em, ?_⟩
      obtain ⟨H1, eH1⟩ : ∃ H1, H1 = upd H m (.dK (dr cl (sp + 1) st mx)) := ⟨_, rfl⟩
      have e1 : H1 m = some (.dK (dr cl (sp + 1) st mx)) := by rw [eH1, upd_same]
      have b1 : Off m H H1 := by rw [eH1]; exact off
      have l1 := b1 _ _ ncl el
      rw [← eH1]
      clear eH1
      have put : ∀ {o : HO}, Off m H (upd H1 m o) := fun b x hb e => by rw [upd_ne hb]; exact b1 _ _ hb e
      have in64 : ∀ x pr : Int, 0 < pr → pr ≤ 2147483647 → -(2 ^ 64) < x % pr ∧ x % pr < 2 ^ 64 := fun x pr p0 p1 => by
        have a1 := Int.emod_nonneg x (show pr ≠ 0 by omega)
        have a2 := Int.emod_lt_of_pos x p0
        constructor <;> omega
      apply via (J := fun H2 => H2 = H1)
      rotate_left
      · intro tail
        refine ⟨_, rfl, _, _, rfl, rfl, ⟨by decide, by decide, by decide⟩, _, _, rfl, rfl, _, rfl, ite2 (fun c1 => ?_) (fun c1 => iteF (tail _ rfl))⟩
        refine ⟨_, rfl, m, _, rfl, get_spot e1, _, rfl, cl, _, rfl, .inl (SqL.of l1), _, _, rfl, rfl, _, rfl, ite2 (fun c2 => ?_) (fun c2 => tail _ rfl)⟩
        refine ⟨_, rfl, _, rfl, _, _, rfl, rfl, dW _, _, rfl, m, _, rfl, put_stock e1, ?_⟩
        exact ⟨_, rfl, _, rfl, _, _, rfl, rfl, h0, fin _ _ _ _ _ put upd_same (by omega) (by omega) k0 (by omega) (Int.emod_nonneg _ (by omega)) (Int.emod_lt_of_pos _ h0)⟩
      · intro H9 h9
        subst h9
        refine ⟨_, rfl, _, rfl, m, _, rfl, put_mixed e1, ?_⟩
        have e2 : (upd H9 m (.dK (dr cl (sp + 1) st (mx + 1)))) m = some (.dK (dr cl (sp + 1) st (mx + 1))) := upd_same
        have b2 : Off m H (upd H9 m (.dK (dr cl (sp + 1) st (mx + 1)))) := put
        generalize upd H9 m (.dK (dr cl (sp + 1) st (mx + 1))) = H2 at e2 b2
        refine ⟨_, rfl, _, _, rfl, rfl, (by decide : (0 : Int) < 998244353), _, rfl, _, _, rfl, rfl, .inl ⟨by decide, by decide⟩, _, rfl, _, _, rfl, rfl, .inr ⟨by omega, by omega⟩, _, _, rfl, rfl, _, rfl, m, _, rfl, get_spot e2, _, _, rfl, rfl, .inl ⟨by decide, by decide⟩, _, _, rfl, rfl, _, _, rfl, rfl, (by decide : (0 : Int) < 2147483647), ?_⟩
        refine ⟨_, rfl, _, rfl, _, _, rfl, rfl, .inl (in64 _ _ (by decide) (by decide)), _, _, rfl, rfl, (by decide : (0 : Int) < 2147483629), _, rfl, _, _, rfl, rfl, _, _, rfl, rfl, .inl (in64 _ _ (by decide) (by decide)), _, _, rfl, rfl, (by decide : (0 : Int) < 2147483647), ?_⟩
        refine ⟨_, rfl, _, _, rfl, rfl, .inr ⟨by decide, by decide⟩, _, rfl, _, _, rfl, rfl, _, _, rfl, rfl, (by decide : (0 : Int) < 2147483587), _, _, rfl, rfl, ⟨by decide, by decide⟩, _, rfl, _, _, rfl, rfl, h0, ?_⟩
        exact fin _ _ _ _ _ b2 e2 (by omega) (by omega) (by omega) (by omega) (Int.emod_nonneg _ (by omega)) (Int.emod_lt_of_pos _ h0)
end
/-! ### the family, by data -/
theorem tabs_off {T : List (Addr × Str)} {m cl : Addr} {n : Nat} {H H2 : Hp} (D : Drw H m cl n) (b : Off m H H2) (t : LamX.Tabs T H) : LamX.Tabs T H2 := fun r hr => by
  obtain ⟨ps, h1, h2, h3⟩ := t r hr
  refine ⟨ps, b.keep D h1 (by intro _ z; cases z), h2, fun pos cv hc => ?_⟩
  obtain ⟨c, e1, e2⟩ := h3 pos cv hc
  exact ⟨c, e1, b.keep D e2 (by unfold LamX.CodeO; intro _ z; cases z)⟩
theorem tabs_in {T : List (Addr × Str)} {A : List Addr} {H H' : Hp} (hA : ∀ r ∈ T, r.1 ∈ A) (t : LamX.Tabs T H) (s : ∀ a ∈ A, H' a = H a) (c : ∀ a o, CodeLike o → H a = some o → H' a = some o) : LamX.Tabs T H' := fun r hr => by
  obtain ⟨ps, h1, h2, h3⟩ := t r hr
  refine ⟨ps, by rw [s r.1 (hA r hr)]; exact h1, h2, fun pos cv hc => ?_⟩
  obtain ⟨x, e1, e2⟩ := h3 pos cv hc
  exact ⟨x, e1, c _ _ ⟨_, _, rfl⟩ e2⟩
/-- the draws of this family; T: the tables of the defs that make lambdas -/
def drF (w : World) (T : List (Addr × Str)) (lam : Bool) : Fam where
  DR := fun H v n A => ∃ m cl, v = .ref m ∧ A = m :: cl :: T.map (·.1) ∧ Drw H m cl n ∧ ∀ r ∈ T, H r.1 ≠ none
  IN := fun H A => (∀ r ∈ T, r.1 ∈ A) ∧ LamX.Tabs T H ∧ ∀ a ∈ A, (∃ o, H a = some o ∧ ∀ ps, o ≠ .tbl ps) ∨ a ∈ (T.map fun r : Addr × Str => r.1)
  inl := fun h s c => ⟨h.1, tabs_in h.1 h.2.1 s c, fun a m => (h.2.2 a m).imp (fun ⟨o, z⟩ => ⟨o, by rw [s a m]; exact z⟩) fun z => z⟩
  lam := lam
  w := w
  loc := fun {H H' v n A} h s => by
    obtain ⟨m, cl, rfl, rfl, ⟨s', t, k, cs, h1, h2, r⟩, tb⟩ := h
    refine ⟨m, cl, rfl, rfl, ⟨s', t, k, cs, by rw [s m (by simp)]; exact h1, by rw [s cl (by simp)]; exact h2, r⟩, fun x hx => ?_⟩
    rw [s x.1 (List.mem_cons_of_mem _ (List.mem_cons_of_mem _ (List.mem_map.mpr ⟨x, hx, rfl⟩)))]
    exact tb x hx
  trk := fun {H v n A} h a m => by
    obtain ⟨m, cl, rfl, rfl, ⟨s', t, k, cs, h1, h2, r⟩, tb⟩ := h
    rcases List.mem_cons.mp m with rfl | m
    · rw [h1]
      simp
    · rcases List.mem_cons.mp m with rfl | m
      · rw [h2]
        simp
      · obtain ⟨r, hr, rfl⟩ := List.mem_map.mp m
        exact tb r hr
  ref := fun h => by
    obtain ⟨m, cl, rfl, rfl, _⟩ := h
    exact ⟨m, _, rfl, rfl⟩
theorem drF_lam {w : World} (T : List (Addr × Str)) : LamFam (drF w T true) T where
  lam := rfl
  tb := fun h => h.2.1
  ext := fun {H H1 A} h e t => ⟨h.1, t, fun a m => (h.2.2 a m).imp (fun ⟨o, z, n⟩ => ⟨o, e a o z n, n⟩) fun z => z⟩
  dr := fun {H H1 v n A} h e t => by
    obtain ⟨m, cl, rfl, rfl, ⟨s', tt, k, cs, h1, h2, r⟩, tb⟩ := h
    refine ⟨m, cl, rfl, rfl, ⟨s', tt, k, cs, e _ _ h1 (by intro _ z; cases z), e _ _ h2 (by intro _ z; cases z), r⟩, fun x hx => ?_⟩
    obtain ⟨ps, q, _⟩ := t x hx
    exact fun z => by rw [q] at z; cases z
  «only» := fun {H A} h a m ⟨ps, z⟩ => (h.2.2 a m).resolve_left fun ⟨o, y, n⟩ => n ps (by rw [y] at z; exact Option.some.inj z)
  th := fun {H H1 A} h e t a m n => by
    rcases h.2.2 a m with ⟨o, z, c⟩ | z
    · rw [e a o z c]
      simp
    · obtain ⟨r, hr, rfl⟩ := List.mem_map.mp z
      obtain ⟨ps2, q2, _⟩ := t r hr
      rw [q2]
      simp
def cDraw : CM := fun N ds k _ => ∃ many, ds = [.int many] ∧ 0 < many ∧ many < 18446744073709551616 ∧ N ≤ 1000000000 ∧ ∀ r, 0 ≤ r → r < many → k (.imm (.int r)) (N + 1)
section
variable {P : Program} {w : World} {K : PySem.W.Frag} {mg : Str → Option Value} {base : Heap} {k : Nat}
theorem ok_law_draw {Tb : List (Addr × Str)} {l : Bool} (T : Txt K mg) : FnOk P w K mg base (L2.CX P w) (k + 1) T.f_law_draw T.d_law_draw ["d", "many"] (spM (drF w Tb l) K mg 1 cDraw) := by
  refine FnOk.to (FnOk.any (ok_dw (k := k) T.F_law_draw T.n_len)) fun vs H Q E h => ?_
  obtain ⟨v0, vr, A, N, F, ds, Kd, Ke, rfl, hl, SF, ft, fA, inv, ⟨m, cl, rfl, rfl, D, tb⟩, q, ⟨many, rfl, m0, m1, hN, c⟩, post, xw⟩ := h
  cases q with
  | cons a b =>
    cases b
    cases a
    refine ⟨m, cl, many, N, rfl, D, hN, m0, m1, fun H2 r r0 r1 D2 off => ?_⟩
    refine post (.imm (.int r)) (N + 1) (.int r) H2 F (c r r0 r1) (fun a o e n => off a o (fun z => n (by rw [z]; simp)) e) (Same.refl _) (fun a o e => ?_) (fun a o e => .inl e) ft fA ⟨inv.1, tabs_off D off inv.2.1, fun a ha => ?_⟩ ⟨m, cl, rfl, rfl, D2, fun x hx => ?_⟩ (show Dq K F (.int r) (.int r) from .int r)
    · refine off a o (fun z => ?_) (SF a o e)
      rw [z, fA m (by simp)] at e
      cases e
    · rcases inv.2.2 a ha with z | z
      · by_cases c : a = m
        · subst c
          obtain ⟨l, em⟩ := D2.at_
          exact .inl ⟨_, em, by intro _ z; cases z⟩
        · rcases List.mem_cons.mp ha with y | y
          · exact absurd y c
          · rcases List.mem_cons.mp y with y | y
            · subst y
              obtain ⟨s', t, k, cs, h1, h2, r⟩ := D2
              exact .inl ⟨_, h2, by intro _ z; cases z⟩
            · exact .inr y
      · exact .inr z
    · obtain ⟨ps, e, _⟩ := (tabs_off D off inv.2.1) x hx
      rw [e]
      simp
def cPick : CM := fun N ds k _ => ∃ xs, (ds = [.list xs] ∨ ds = [.tuple xs]) ∧ xs ≠ [] ∧ xs.length ≤ 1000000 ∧ N ≤ 1000000000 ∧ ∀ x ∈ xs, k (.imm x) (N + 1)
theorem at_draw {xs : List D} {r : Int} (h0 : 0 ≤ r) (h1 : r < xs.length) : ∃ x, atI xs r = some x ∧ x ∈ xs := by
  have lt : r.toNat < xs.length := by omega
  refine ⟨xs[r.toNat], ?_, List.getElem_mem lt⟩
  have z := atI_nat (xs := xs) (j := r.toNat) (v := xs[r.toNat]) (by simp [lt])
  rwa [Int.toNat_of_nonneg h0] at z
theorem ok_law_pick {Tb : List (Addr × Str)} {l : Bool} (T : Txt K mg) : FnOk P w K mg base (L2.CX P w) (k + 2) T.f_law_pick T.d_law_pick ["d", "some"] (spM (drF w Tb l) K mg 1 cPick) := by
  refine okM (fam := drF w Tb false) T.F_law_pick sc_law_pick (by decide) (fun cdv A outer s H E hr tk =>
    (pds_one (pd_ret (pd_ix (pb_var (pv 1)) (pb_of (pd_callM (ok_law_draw T) hr (by rfl) T.g_law_draw T.F_law_draw.kp T.b_law_draw (passD tk) (pv 0) (par_cons (pd_callB dc_len (by rfl) T.n_len (by decide +kernel) (pb_var (pv 1))) par_nil))) (fun _ _ => rfl))))) (fun N ds Kd Ke l h => ?_)
  obtain ⟨xs, hd, ne, hl, hN, q⟩ := h
  have lp : 0 < xs.length := List.length_pos_iff.mpr ne
  have fin : ∀ r : Int, 0 ≤ r → r < (xs.length : Nat) → ∃ x, atI xs r = some x ∧ Kd (.imm x) (N + 1) := fun r r0 r1 => by
    obtain ⟨x, e, m⟩ := at_draw r0 r1
    exact ⟨x, e, q x m⟩
  rcases hd with rfl | rfl
  · exact ⟨⟨N, rfl⟩, rfl, (xs.length : Int), rfl, by omega, by omega, hN, fun r r0 r1 => fin r r0 r1⟩
  · exact ⟨⟨N, rfl⟩, rfl, (xs.length : Int), rfl, by omega, by omega, hN, fun r r0 r1 => fin r r0 r1⟩
end
end L2.Pr

set_option Elab.async false
set_option linter.all false
set_option maxRecDepth 100000
set_option maxHeartbeats 8000000
/-! drawn names, by data -/
namespace L2.Pr
open PySem PySem.Spec PyProof.Rows L2.Sl L2.Dl
/-! ### names -/
def letter (c : Nat) : Prop := 97 ≤ c ∧ c ≤ 122
/-- every sign so -/
def allC (p : Nat → Prop) (z : Str) : Prop := ∀ c ∈ z.cps.toList, p c
theorem allC_app {p : Nat → Prop} {x y : Str} (h1 : allC p x) (h2 : allC p y) : allC p (x ++ y) := fun c hc => by
  have e : (x ++ y).cps.toList = x.cps.toList ++ y.cps.toList := Array.toList_append ..
  rw [e] at hc
  exact (List.mem_append.mp hc).elim (h1 c) (h2 c)
theorem allC_join {p : Nat → Prop} : ∀ {ys : List Str}, (∀ y ∈ ys, allC p y) → allC p (Str.join (Str.ofString "") ys)
  | [], _ => fun c hc => by
    have z : c ∈ ([] : List Nat) := hc
    cases z
  | [y], h => h y (by simp)
  | y :: z :: r, h => allC_app (allC_app (h y (by simp)) (fun c hc => by
      have z : c ∈ ([] : List Nat) := hc
      cases z)) (allC_join (ys := z :: r) fun u hu => h u (List.mem_cons_of_mem _ hu))
theorem allC_Join {p : Nat → Prop} {ys : List Str} (h : ∀ y ∈ ys, allC p y) : allC p (Txt.join (Str.ofString "") ys) := by
  show allC p (Builtin.Str.glued (Str.ofString "") ys)
  rw [StrLaws.glued_eq_join]
  exact allC_join h
/-- a name -/
def okN (z : Str) : Prop := 1 ≤ z.length ∧ z.length ≤ 8 ∧ allC letter z
abbrev alph : Str := "abcdefghijklmnopqrstuvwxyz"
def one (c : Nat) : Str := ⟨#[c]⟩
theorem okN_one {c : Nat} (h : letter c) : okN (one c) := ⟨Nat.le_refl _, (show 1 ≤ 8 by decide), fun d hd => by
  have e : d = c := by simpa [one] using hd
  rw [e]
  exact h⟩
theorem alph_letter {c : Nat} (h : c ∈ alph.cps.toList) : letter c := by
  have e : alph.cps.toList = [97, 98, 99, 100, 101, 102, 103, 104, 105, 106, 107, 108, 109, 110, 111, 112, 113, 114, 115, 116, 117, 118, 119, 120, 121, 122] := by decide +kernel
  rw [e] at h
  simp only [List.mem_cons, List.mem_nil_iff, or_false] at h
  unfold letter
  omega
theorem sub_len {α : Type} [DecidableEq α] : ∀ {xs ys : List α}, xs.Nodup → (∀ x ∈ xs, x ∈ ys) → xs.length ≤ ys.length
  | [], _, _, _ => Nat.zero_le _
  | x :: r, ys, nd, h => by
    obtain ⟨hx, hr⟩ := List.nodup_cons.mp nd
    have i := sub_len (xs := r) (ys := ys.erase x) hr fun y hy => (List.mem_erase_of_ne (show y ≠ x from fun e => hx (by rw [← e]; exact hy))).mpr (h y (List.mem_cons_of_mem _ hy))
    rw [List.length_erase_of_mem (h x List.mem_cons_self)] at i
    have l : 0 < ys.length := List.length_pos_of_mem (h x List.mem_cons_self)
    rw [List.length_cons]
    omega
theorem alph_more {found : List Str} (h : found.length < 26) : ∃ c ∈ alph.cps.toList, one c ∉ found := by
  apply Classical.byContradiction
  intro no
  have all : ∀ x ∈ alph.cps.toList.map one, x ∈ found := fun x hx => by
    obtain ⟨c, hc, rfl⟩ := List.mem_map.mp hx
    exact Classical.byContradiction fun z => no ⟨c, hc, z⟩
  have nd : (alph.cps.toList.map one).Nodup := by decide +kernel
  have l := sub_len nd all
  have e : (alph.cps.toList.map one).length = 26 := by decide +kernel
  omega
theorem at_any {α : Type} {xs : List α} {r : Int} (h0 : 0 ≤ r) (h1 : r < xs.length) : ∃ x, atI xs r = some x ∧ x ∈ xs := by
  have lt : r.toNat < xs.length := by omega
  refine ⟨xs[r.toNat], ?_, List.getElem_mem lt⟩
  have z := atI_nat (xs := xs) (j := r.toNat) (v := xs[r.toNat]) (by simp [lt])
  rwa [Int.toNat_of_nonneg h0] at z
abbrev sD (zs : List Str) : List D := zs.map PyData.str
theorem eqS_in {z : Str} {zs : List Str} : (sD zs).any (fun y => eqS y (.str z)) = decide (z ∈ zs) := by
  rw [Bool.eq_iff_iff, List.any_eq_true, decide_eq_true_iff]
  constructor
  · rintro ⟨y, hy, e⟩
    obtain ⟨u, hu, rfl⟩ := List.mem_map.mp hy
    have e : decide (u = z) = true := e
    rw [← of_decide_eq_true e]
    exact hu
  · intro h
    exact ⟨.str z, List.mem_map.mpr ⟨z, h, rfl⟩, (decide_eq_true rfl : decide (z = z) = true)⟩
theorem sc_strs (zs : List Str) : (sD zs).all scD = true := by
  rw [List.all_map]
  exact List.all_eq_true.mpr fun _ _ => rfl
theorem okN_name {z : Str} (h : okN z) : isName (.str z) = true := by
  have e : ∀ c, c < 123 → 97 ≤ c → hit c = true := by decide +kernel
  have a : z.cps.toList.all hit = true := List.all_eq_true.mpr fun c hc => by
    have l := h.2.2 c hc
    exact e c (by unfold letter at l; omega) l.1
  show ((decide (1 ≤ z.length) && decide (z.length ≤ 8)) && _) = true
  rw [decide_eq_true h.1, decide_eq_true h.2.1, a] <;> rfl
theorem name_okN {z : Str} (h : isName (.str z) = true) : okN z := by
  obtain ⟨y, e, h1, h2, h3⟩ := isName_str h
  cases e
  exact ⟨h1, h2, fun c hc => hit_letter (List.all_eq_true.mp h3 c hc)⟩
theorem rises_sorted : ∀ {zs : List Str}, sortedS zs = true → zs.Nodup → risesD (sD zs) = true
  | [], _, _ => rfl
  | [_], _, _ => rfl
  | x :: y :: r, h, n => by
    have h : (!ltCps y.cps.toList x.cps.toList && risingS y r) = true := h
    rw [Bool.and_eq_true, Bool.not_eq_true', ltCps_eq] at h
    have n2 := List.nodup_cons.mp n
    have ih := rises_sorted (zs := y :: r) h.2 n2.2
    have ne : x.cps.toList ≠ y.cps.toList := fun z => by
      have e : x = y := by
        cases x
        cases y
        congr
        exact Array.toList_inj.mp z
      exact n2.1 (by rw [e]; exact List.mem_cons_self)
    have lt : x.cps.toList < y.cps.toList := by
      have le := List.not_lt.mp (of_decide_eq_false h.1)
      rcases List.le_iff_lt_or_eq.mp le with z | z
      · exact z
      · exact absurd z ne
    show (ltD (.str x) (.str y) && ((sD (y :: r)).zip ((sD (y :: r)).drop 1)).all fun x => ltD x.1 x.2) = true
    rw [show ltD (.str x) (.str y) = true from decide_eq_true lt, Bool.true_and]
    exact ih
def cNames : CM := fun N ds k _ => ∃ many : Nat, ds = [.int many] ∧ many ≤ 9 ∧ N ≤ 100000000 ∧ ∀ (zs : List Str) (N' : Nat), zs.length = many → sortedS zs = true → zs.Nodup → (∀ z ∈ zs, okN z) → N' ≤ N + 12 * many → k (.imm (.tuple (sD zs))) N'
theorem one_of_two {a b x : D} (h : x ∈ [a, b]) : x = a ∨ x = b := by simpa using h
section
variable {P : Program} {w : World} {K : PySem.W.Frag} {mg : Str → Option Value} {base : Heap} {k : Nat}
theorem ok_law_names {Tb : List (Addr × Str)} {l : Bool} (T : Txt K mg) : FnOk P w K mg base (L2.CX P w) (k + 3) T.f_law_names T.d_law_names ["d", "many"] (spM (drF w Tb l) K mg 1 cNames) := by
  refine okM (fam := drF w Tb false) T.F_law_names sc_law_names (by decide) (fun cdv A outer s H E hr tk =>
    (pds_cons (pd_parA rfl (pg_name (i := 2) sc_law_names.nd rfl (.inr rfl)) (pg_name (i := 3) sc_law_names.nd rfl (.inr rfl)) pd_str (pd_lst par_nil))
      (pds_cons (pd_while (passes_of rfl) (pt_cmpD do_lt (pb_of (pd_callB dc_len (by rfl) T.n_len (by decide +kernel) (pb_var (pv 3)))) (pb_var (pv 1)) (nomark _))
        (pds_cons (pd_parA rfl (pg_name (i := 4) sc_law_names.nd rfl (.inl rfl)) (pg_name (i := 5) sc_law_names.nd rfl (.inr rfl)) (pd_op do_add (pb_of pd_int) (pb_of (pd_callM (ok_law_draw T) hr (by rfl) T.g_law_draw T.F_law_draw.kp T.b_law_draw (passD tk) (pv 0) (par_cons (pd_ix (pb_of (pd_lst (par_cons pd_int (par_cons pd_int par_nil)))) (pb_of (pd_callM (ok_law_draw T) hr (by rfl) T.g_law_draw T.F_law_draw.kp T.b_law_draw (passD tk) (pv 0) (par_cons pd_int par_nil))) (fun _ _ => rfl)) par_nil)))) (pd_ix (pb_of (pd_lst (par_cons pd_int (par_cons pd_int par_nil)))) (pb_of (pd_callM (ok_law_draw T) hr (by rfl) T.g_law_draw T.F_law_draw.kp T.b_law_draw (passD tk) (pv 0) (par_cons pd_int par_nil))) (fun _ _ => rfl)))
        (pds_cons (pd_set (i := 6) sc_law_names.nd rfl (.inl rfl) (pd_join pd_str (pb_of (pd_lc (by rfl) sc_law_names.nd (pit_range1 (by rfl) T.n_range (par_cons (pd_var (pv 4)) par_nil)) (blkOk_by (own := [("k", 7)]) (N := N_law_names) (sc := defScope s_law_names) (by decide +kernel)) (fun _ _ _ _ _ => (pgt_name (pg_name (i := 7) sc_law_names.nd rfl (.inl rfl)))) (fun _ _ _ _ _ => ptd_nil) (fun _ _ _ _ _ => (pd_ix (pb_var (pv 2)) (pb_of (pd_callM (ok_law_draw T) hr (by rfl) T.g_law_draw T.F_law_draw.kp T.b_law_draw passL (pv 0) (par_cons (pd_var (pv 5)) par_nil))) (fun _ _ => rfl)))))))
        (pds_cons (pd_if (pt_cmpD do_inF (pb_var (pv 6)) (pb_var (pv 3)) (by with_unfolding_all rfl))
          (pds_one (pd_set (i := 6) sc_law_names.nd rfl (.inl rfl) (pd_callM (ok_law_pick T) hr (by rfl) T.g_law_pick T.F_law_pick.kp T.b_law_pick (passD tk) (pv 0) (par_cons (pd_lc (by rfl) sc_law_names.nd (pit_seq (pb_var (pv 2))) (blkOk_by (own := [("sign", 8)]) (N := N_law_names) (sc := defScope s_law_names) (by decide +kernel)) (fun _ _ _ _ _ => (pgt_name (pg_name (i := 8) sc_law_names.nd rfl (.inl rfl)))) (fun _ _ _ _ _ => (ptd_one (pt_cmpD do_notInF (pb_var (pv 8)) (pb_var (pv 3)) (by with_unfolding_all rfl)))) (fun _ _ _ _ _ => (pd_var (pv 8)))) par_nil))))
          pds_nil)
        (pds_one (pd_expr (pd_append (pv 3) (pd_var (pv 6)))))))))
      (pds_one (pd_ret (pd_callTy dc_tuple (by rfl) T.n_tuple (by decide +kernel) (pb_of (pd_callB dc_sortedS (by rfl) T.n_sorted (by decide +kernel) (pb_var (pv 3)))))))))) (fun N ds Kd Ke l h => ?_)
  obtain ⟨many, rfl, hm, hN, q⟩ := h
  refine ⟨by decide, fun m Γ => ∃ (n : Nat) (zs : List Str) (o4 o5 o6 : Option D), Γ = [some (.drw n), some (.imm (.int many)), some (.imm (.str alph)), some (.own (.list (sD zs))), o4.map Slot.imm, o5.map Slot.imm, o6.map Slot.imm, none, none] ∧ zs.length + m = many ∧ zs.Nodup ∧ (∀ z ∈ zs, okN z) ∧ n ≤ N + 12 * zs.length,
    ⟨many, N, [], none, none, none, rfl, by simp, List.nodup_nil, (fun _ h => nomatch h), by simp⟩, ?_⟩
  rintro m Γ ⟨n, zs, o4, o5, o6, rfl, lz, nd, ok, ln⟩
  have lsD : (sD zs).length = zs.length := List.length_map _
  refine bw_dec (fun h1 => ?_) (fun h1 => ?_)
  · have h1 : zs.length < many := by
      rw [lsD] at h1
      omega
    have two : ∀ {a b : Int} {r : Int}, 0 ≤ r → r < 2 → ∃ i : Int, atI [PyData.int a, PyData.int b] r = some (.int i) ∧ (i = a ∨ i = b) := fun {a b r} r0 r1 => by
      obtain ⟨x, ex, mx⟩ := at_any (xs := [PyData.int a, PyData.int b]) r0 r1
      rcases one_of_two mx with rfl | rfl
      · exact ⟨a, ex, .inl rfl⟩
      · exact ⟨b, ex, .inr rfl⟩
    have tail : ∀ (nm : Str), okN nm → nm ∉ zs → ∀ n9, n9 ≤ n + 12 → ∀ (o4 o5 : Option D), ∃ m', m' < m ∧ ∃ (n' : Nat) (zs' : List Str) (p4 p5 p6 : Option D), [some (.drw n9), some (.imm (.int many)), some (.imm (.str alph)), some (.own (.list (sD zs ++ [.str nm]))), o4.map Slot.imm, o5.map Slot.imm, some (.imm (.str nm)), none, none] = [some (.drw n'), some (.imm (.int many)), some (.imm (.str alph)), some (.own (.list (sD zs'))), p4.map Slot.imm, p5.map Slot.imm, p6.map Slot.imm, none, none] ∧ zs'.length + m' = many ∧ zs'.Nodup ∧ (∀ z ∈ zs', okN z) ∧ n' ≤ N + 12 * zs'.length := fun nm on no n9 l9 p4 p5 => by
      refine ⟨m - 1, by omega, n9, zs ++ [nm], p4, p5, some (.str nm), ?_, ?_, ?_, ?_, ?_⟩
      · rw [sD, sD, List.map_append] <;> rfl
      · rw [List.length_append]
        show zs.length + 1 + (m - 1) = many
        omega
      · rw [List.nodup_append]
        exact ⟨nd, by simp, fun x hx y hy e => no (by rw [List.mem_singleton.mp hy] at e; rw [← e]; exact hx)⟩
      · intro z hz
        rcases List.mem_append.mp hz with h | h
        · exact ok z h
        · rw [List.mem_singleton.mp h]
          exact on
      · rw [List.length_append]
        show n9 ≤ N + 12 * (zs.length + 1)
        omega
    -- size, wide
    refine ⟨⟨n, rfl⟩, ⟨by decide, ⟨n, rfl⟩, rfl, 2, rfl, by decide, by decide, by omega, fun r r0 r1 => ?_⟩⟩
    obtain ⟨i, ex, hi⟩ := two (a := 2) (b := 8) r0 r1
    refine ⟨.int i, ex, rfl, i, rfl, by omega, by omega, by omega, fun sz z0 z1 => ⟨by decide, ⟨_, rfl⟩, rfl, 2, rfl, by decide, by decide, by omega, fun r' r0' r1' => ?_⟩⟩
    obtain ⟨wd, ex', hw⟩ := two (a := 3) (b := 26) r0' r1'
    refine ⟨.int wd, ex', ?_⟩
    -- name
    refine ⟨⟨by omega, by omega⟩, ?_⟩
    show compD none [7] _ dYes _ ((List.range (1 + sz).toNat).map fun k : Nat => PyData.int (0 + (k : Int))) [] _ _
    refine comp_inv (lv := none) (fun j acc Γ => ∃ ys : List Str, acc = sD ys ∧ ys.length = j ∧ (∀ y ∈ ys, y.length = 1) ∧ (∀ y ∈ ys, allC letter y) ∧ Γ = [some (.drw (n + 1 + 1 + 1 + j)), some (.imm (.int many)), some (.imm (.str alph)), some (.own (.list (sD zs))), some (.imm (.int (1 + sz))), some (.imm (.int wd)), o6.map Slot.imm, none, none]) (List.range (1 + sz).toNat) 0 [] _ (fun j x acc Γ ex hI => ?_) (fun acc Γ hI => ?_) (fun j acc Γ hI l => ?_) ⟨[], rfl, rfl, (fun _ h => nomatch h), (fun _ h => nomatch h), rfl⟩
    · obtain ⟨ys, rfl, ly, one1, let1, rfl⟩ := hI
      refine ⟨True.intro, rfl, fun Ky Kn hy hn => ⟨⟨_, rfl⟩, rfl, wd, rfl, by omega, by omega, ?_, fun r2 q0 q1 => ⟨by decide, ?_⟩⟩⟩
      · have : j < (1 + sz).toNat := by
          have := (List.getElem?_eq_some_iff.mp ex).1
          rwa [List.length_range] at this
        omega
      · obtain ⟨c, hc, mc⟩ := at_any (xs := alph.cps.toList) q0 (Int.lt_of_lt_of_le q1 (show wd ≤ (26 : Int) by omega))
        refine ⟨c, hc, hy _ _ ⟨ys ++ [one c], ?_, ?_, ?_, ?_, ?_⟩⟩
        · show sD ys ++ [.str (one c)] = _
          rw [sD, sD, List.map_append] <;> rfl
        · rw [List.length_append, ly]
          rfl
        · intro y h
          rcases List.mem_append.mp h with h | h
          · exact one1 y h
          · rw [List.mem_singleton.mp h]
            rfl
        · intro y h
          rcases List.mem_append.mp h with h | h
          · exact let1 y h
          · rw [List.mem_singleton.mp h]
            exact (okN_one (alph_letter mc)).2.2
        · rw [Nat.zero_add]
          rfl
    · obtain ⟨ys, rfl, ly, one1, let1, rfl⟩ := hI
      rw [List.length_range] at ly
      have ez : (Str.ofString "").length = 0 := by decide
      have ones : ∀ {l : List Str}, (∀ y ∈ l, y.length = 1) → (l.map (·.length)).sum = l.length := fun {l} h => by
        induction l with
        | nil => rfl
        | cons y r ih =>
          rw [List.map_cons, List.sum_cons, List.length_cons, ih (fun z hz => h z (List.mem_cons_of_mem _ hz))]
          show y.length + r.length = r.length + 1
          rw [h y List.mem_cons_self, Nat.add_comm]
      refine ⟨True.intro, ys, strsD_map ys, by rw [ones one1, ez]; omega, ?_⟩
      have xl : okN (Txt.join (Str.ofString "") ys) := by
        refine ⟨?_, ?_, allC_Join let1⟩ <;> rw [PySem.W.KT.join_ones ys one1, ly] <;> omega
      generalize Txt.join (Str.ofString "") ys = nm at xl
      rw [List.length_range, Nat.zero_add]
      generalize hn9 : n + 1 + 1 + 1 + (1 + sz).toNat = n9
      have l9 : n9 ≤ n + 11 := by omega
      refine ⟨rfl, sc_strs zs, bw_of (b := (sD zs).any fun y => eqS y (.str nm)) (fun c => ?_) (fun c => ?_)⟩
      · refine ⟨⟨_, rfl⟩, ?_⟩
        refine comp_filter (lv := none) (e := fun c : Nat => PyData.str ⟨#[c]⟩) (f := fun c : Nat => PyData.str ⟨#[c]⟩) (p := fun c => decide (one c ∉ zs)) True.intro (by rfl) alph.cps.toList [] _ (by decide +kernel) (fun c hc Ky Kn y1 y2 => ?_) ?_
        · refine ⟨rfl, sc_strs zs, bw_of (b := !(sD zs).any fun y => eqS y (.str (one c))) (fun b => y1 ?_) (fun b => y2 ?_)⟩
          · rw [eqS_in] at b
            simpa using b
          · rw [eqS_in] at b
            simpa using b
        · obtain ⟨c, mc, nc⟩ := alph_more (found := zs) (by omega)
          refine ⟨rfl, _, .inl rfl, ?_, ?_, by omega, fun x hx => ?_⟩
          · refine List.ne_nil_of_mem (a := PyData.str ⟨#[c]⟩) (List.mem_append_right _ (List.mem_map.mpr ⟨c, List.mem_filter.mpr ⟨mc, decide_eq_true nc⟩, rfl⟩))
          · rw [List.nil_append, List.length_map]
            exact Nat.le_trans (List.length_filter_le _ _) (by decide +kernel)
          · rw [List.nil_append] at hx
            obtain ⟨c3, h3, rfl⟩ := List.mem_map.mp hx
            obtain ⟨h4, h5⟩ := List.mem_filter.mp h3
            exact ⟨⟨_, rfl⟩, by rw [lsD]; exact Nat.lt_of_lt_of_le (show zs.length < 20 by omega) (by decide), tail (one c3) (okN_one (alph_letter h4)) (of_decide_eq_true h5) (n9 + 1) (by omega) (some (.int (1 + sz))) (some (.int wd))⟩
      · rw [eqS_in] at c
        exact ⟨⟨_, rfl⟩, by rw [lsD]; exact Nat.lt_of_lt_of_le (show zs.length < 20 by omega) (by decide), tail nm xl (of_decide_eq_false c) n9 (by omega) (some (.int (1 + sz))) (some (.int wd))⟩
    · obtain ⟨ys, rfl, ly, _⟩ := hI
      rw [List.length_map, ly]
      rw [List.length_range] at l
      exact Nat.lt_of_lt_of_le (show j < 20 by omega) (by decide)
  · have e : zs.length = many := by
      rw [lsD] at h1
      omega
    refine ⟨zs, strsD_map zs, by omega, fun ys pm so => ?_⟩
    exact q ys n (by rw [pm.length_eq, e]) so (pm.nodup_iff.mpr nd) (fun z hz => ok z (pm.mem_iff.mp hz)) (by omega)
end
end L2.Pr

set_option Elab.async false
set_option linter.all false
set_option maxRecDepth 100000
set_option maxHeartbeats 8000000
/-! drawn orders, by data -/
namespace L2.Pr
open PySem PySem.Spec PyProof.Rows L2.Sl L2.Dl
theorem cand {α : Type} [DecidableEq α] (f : Nat → α) {found left : List Nat} {i n : Nat} (hi : i < n) (pm : (found ++ left).Perm (List.range n)) (fm : found.map f = (List.range i).map f) : ∃ k ∈ left, f k = f i := by
  apply Classical.byContradiction
  intro no
  have c0 : left.countP (fun k => decide (f k = f i)) = 0 := List.countP_eq_zero.mpr fun k hk z => no ⟨k, hk, of_decide_eq_true z⟩
  have cm : ∀ l : List Nat, l.countP (fun k => decide (f k = f i)) = (l.map f).countP (fun y => decide (y = f i)) := fun l => by
    rw [List.countP_map]
    rfl
  have c1 := pm.countP_eq (fun k => decide (f k = f i))
  rw [List.countP_append, c0, cm found, fm, ← cm] at c1
  have sub : (List.range (i + 1)).Sublist (List.range n) := List.range_sublist.mpr hi
  have c2 := sub.countP_le (p := fun k => decide (f k = f i))
  rw [List.range_succ, List.countP_append, List.countP_singleton] at c2
  rw [if_pos (by simp)] at c2
  omega

abbrev Seat := Str × Str
def okS (h : Seat) : Prop := okN h.1 ∧ (h.2 = "up" ∨ h.2 = "down")
def slD (h : Seat) : PyData := .tuple [.str h.1, .str h.2]
theorem strOk_letters {z : Str} (h : allC letter z) : PyData.strOk z = true := by
  unfold PyData.strOk
  rw [Array.all_eq_true']
  intro c hc
  have := h c (by simpa using hc)
  unfold letter at this
  exact decide_eq_true (by omega)
theorem strOk_side {z : Str} (h : z = "up" ∨ z = "down") : PyData.strOk z = true := by
  rcases h with rfl | rfl <;> decide +kernel
theorem slD_shaped {h : Seat} (o : okS h) : SeqAt.shaped (slD h) = true := by
  have h1 : (slD h).canLay0 = true := by
    simp only [slD, PyData.canLay0, PyData.canLayAll0, strOk_letters o.1.2.2, strOk_side o.2, Bool.and_true]
  have h2 : (slD h).depth ≤ 64 := by
    simp [slD, PyData.depth, PyData.depthAll]
  unfold SeqAt.shaped
  rw [h1, decide_eq_true h2] <;> rfl
theorem slD_eqv {h g : Seat} : PyData.eqv (slD h) (slD g) = decide (h = g) := by
  obtain ⟨a, b⟩ := h
  obtain ⟨c, d⟩ := g
  simp only [slD, PyData.eqv, PyData.eqvAll, Bool.and_true]
  rw [Bool.eq_iff_iff, Bool.and_eq_true, beq_iff_eq, beq_iff_eq, decide_eq_true_iff, Prod.mk.injEq]

theorem slD_fits {h : Seat} (o : okS h) : fits (slD h) = true := by
  unfold fits
  rw [show flat (slD h) = true from rfl, slD_shaped o] <;> rfl
def nD (l : List Nat) : List D := l.map fun k : Nat => PyData.int (k : Int)
theorem nD_int (l : List Nat) : nD l = (l.map fun k : Nat => (k : Int)).map PyData.int := by
  unfold nD
  rw [List.map_map]
  rfl
theorem nD_len (l : List Nat) : (nD l).length = l.length := List.length_map ..
theorem erase_cast (k : Nat) : ∀ l : List Nat, (l.map fun k : Nat => (k : Int)).erase (k : Int) = (l.erase k).map fun k : Nat => (k : Int)
  | [] => rfl
  | x :: l => by
    by_cases h : x = k
    · subst h
      rw [List.map_cons, List.erase_cons_head, List.erase_cons_head]
    · rw [List.map_cons, List.erase_cons_tail (by simp; omega), List.erase_cons_tail (by simpa using h), erase_cast k l] <;> rfl
/-- an order by which each slot comes where one like it stands -/
def IsOrd (hs : List Seat) (os : List Nat) : Prop := os.Perm (List.range hs.length) ∧ os.map (fun k => hs[k]?) = (List.range hs.length).map fun k => hs[k]?
abbrev slsD (hs : List Seat) : List D := hs.map slD
def cOrder : CM := fun N ds k _ => ∃ hs : List Seat, ds = [.list (slsD hs)] ∧ hs.length ≤ 8 ∧ (∀ h ∈ hs, okS h) ∧ N ≤ 100000000 ∧ ∀ os, IsOrd hs os → k (.imm (.tuple (nD os))) (N + hs.length)
theorem range_nD (n : Nat) : rangeD 0 ((n : Int) - 0).toNat = nD (List.range n) := by
  unfold rangeD nD
  rw [show ((n : Int) - 0).toNat = n by omega]
  exact List.map_congr_left fun k _ => by rw [Int.zero_add]
section
variable {P : Program} {w : World} {K : PySem.W.Frag} {mg : Str → Option Value} {base : Heap} {k : Nat}
theorem ok_law_order {Tb : List (Addr × Str)} {l : Bool} (T : Txt K mg) : FnOk P w K mg base (L2.CX P w) (k + 3) T.f_law_order T.d_law_order ["d", "held"] (spM (drF w Tb l) K mg 1 cOrder) := by
  refine okM (fam := drF w Tb false) T.F_law_order sc_law_order (by decide) (fun cdv A outer s H E hr tk =>
    (pds_cons (pd_par (i := 2) (j := 3) rfl sc_law_order.nd rfl rfl (by decide) rfl rfl (pd_listRange rfl (by rfl) T.n_list (by rfl) T.n_range (pd_callB dc_len (by rfl) T.n_len (by decide +kernel) (pb_var (pv 1)))) (pd_lst par_nil) (by rfl))
      (pds_cons (pd_for (passes_of rfl) rfl (pit_seq (pb_of (pd_var (pv 1)))) (pgt_name (pg_name (i := 4) sc_law_order.nd rfl (.inr rfl)))
        (pds_cons (pd_expr (pd_append (pv 3) (pd_callM (ok_law_pick T) hr (by rfl) T.g_law_pick T.F_law_pick.kp T.b_law_pick (passD tk) (pv 0) (par_cons (pd_lc (by rfl) sc_law_order.nd (pit_seq (pb_var (pv 2))) (blkOk_by (own := [("k", 5)]) (N := N_law_order) (sc := defScope s_law_order) (by decide +kernel)) (fun _ _ _ _ _ => (pgt_name (pg_name (i := 5) sc_law_order.nd rfl (.inl rfl)))) (fun _ _ _ _ _ => (ptd_one (pt_cmpD (do_eq hr.units) (pb_of (pd_ix (pb_var (pv 1)) (pb_var (pv 5)) (fun _ _ => rfl))) (pb_var (pv 4)) (nomark _)))) (fun _ _ _ _ _ => (pd_var (pv 5)))) par_nil))))
        (pds_one (pd_expr (pd_remove (pv 2) (pd_ix (pb_var (pv 3)) (pb_of (pd_neg pd_int)) (fun _ _ => rfl)))))))
      (pds_one (pd_ret (pd_callTy dc_tuple (by rfl) T.n_tuple (by decide +kernel) (pb_var (pv 3)))))))) (fun N ds Kd Ke l h => ?_)
  obtain ⟨hs, rfl, h8, ok, hN, q⟩ := h
  have ls : (slsD hs).length = hs.length := List.length_map _
  refine ⟨RgOk.of_le (by decide) (by rw [ls]; omega) (by decide) (by omega), by decide, ?_⟩
  rw [ls, range_nD]
  refine ⟨rfl, ?_⟩
  refine for_inv (e := slD) (fun i Γ => ∃ (left found : List Nat) (x4 : Option D), Γ = [some (.drw (N + i)), some (.imm (.list (slsD hs))), some (.own (.list (nD left))), some (.own (.list (nD found))), x4.map Slot.imm, none] ∧ (found ++ left).Perm (List.range hs.length) ∧ found.map (fun k => hs[k]?) = (List.range i).map fun k => hs[k]?) hs 0 _
    (fun i y Γ ey hI nx hnx => ?_) (fun Γ hI => ?_) ⟨List.range hs.length, [], none, rfl, List.Perm.refl _, rfl⟩
  · obtain ⟨left, found, x4, rfl, pm, fm⟩ := hI
    rw [Nat.zero_add] at fm hnx ⊢
    have hi : i < hs.length := (List.getElem?_eq_some_iff.mp ey).1
    have inL : ∀ k ∈ left, k < hs.length := fun k hk => List.mem_range.mp (pm.mem_iff.mp (List.mem_append_right _ hk))
    have lf : found.length + left.length = hs.length := by
      have := pm.length_eq
      rwa [List.length_append, List.length_range] at this
    refine ⟨⟨_, rfl⟩, ⟨⟨_, rfl⟩, ?_⟩⟩
    refine comp_filter (lv := some (2, nD left)) (e := fun k : Nat => PyData.int (k : Int)) (f := fun k : Nat => PyData.int (k : Int)) (p := fun k => decide (hs[k]? = hs[i]?)) (by rfl) (by rfl) left [] _ (Nat.le_trans (show 0 + left.length ≤ 8 by omega) (by decide)) (fun k hk Ky Kn y1 y2 => ?_) ?_
    · have kl := inL k hk
      have e1 : hs[k]? = some hs[k] := List.getElem?_eq_getElem kl
      refine ⟨slD hs[k], atI_nat (by rw [List.getElem?_map, e1] <;> rfl), ?_⟩
      refine ⟨slD_fits (ok _ (List.getElem_mem kl)), slD_fits (ok y (List.mem_of_getElem? ey)), ?_⟩
      have ev : PyData.eqv (slD hs[k]) (slD y) = decide (hs[k]? = hs[i]?) := by
        rw [slD_eqv, e1, ey]
        exact decide_eq_decide.mpr ⟨fun z => by rw [z], fun z => Option.some.inj z⟩
      exact bw_of (b := PyData.eqv (slD hs[k]) (slD y)) (fun b => y1 (by rw [← ev]; exact b)) (fun b => y2 (by rw [← ev]; exact b))
    · obtain ⟨k0, hk0, e0⟩ := cand (fun k => hs[k]?) hi pm fm
      refine ⟨rfl, _, .inl rfl, List.ne_nil_of_mem (a := PyData.int (k0 : Int)) (List.mem_append_right _ (List.mem_map.mpr ⟨k0, List.mem_filter.mpr ⟨hk0, decide_eq_true e0⟩, rfl⟩)), ?_, by omega, fun x hx => ?_⟩
      · rw [List.nil_append, List.length_map]
        exact Nat.le_trans (List.length_filter_le _ _) (by omega)
      · rw [List.nil_append] at hx
        obtain ⟨k, hk, rfl⟩ := List.mem_map.mp hx
        obtain ⟨hk, ek⟩ := List.mem_filter.mp hk
        have ek : hs[k]? = hs[i]? := of_decide_eq_true ek
        refine ⟨by rw [nD_len]; exact Nat.lt_of_lt_of_le (show found.length < 9 by omega) (by decide), ⟨_, rfl⟩, .int (k : Int), atI_last _ _, left.map fun k : Nat => (k : Int), by rw [nD_int]; exact intsD_map _, List.mem_map.mpr ⟨k, hk, rfl⟩, ?_⟩
        refine hnx _ ⟨left.erase k, found ++ [k], some (slD y), ?_, ?_, ?_⟩
        · rw [erase_cast, ← nD_int]
          have e : nD (found ++ [k]) = nD found ++ [.int (k : Int)] := by
            unfold nD
            rw [List.map_append] <;> rfl
          rw [e]
          rfl
        · rw [List.append_assoc]
          exact ((List.perm_cons_erase hk).symm.append_left found).trans pm
        · rw [List.map_append, fm, List.range_succ, List.map_append]
          show _ ++ [hs[k]?] = _ ++ [hs[i]?]
          rw [ek]
  · obtain ⟨left, found, x4, rfl, pm, fm⟩ := hI
    rw [Nat.zero_add] at fm
    have l1 := congrArg List.length fm
    rw [List.length_map, List.length_map, List.length_range] at l1
    have l2 := pm.length_eq
    rw [List.length_append, List.length_range] at l2
    have e : left = [] := List.eq_nil_of_length_eq_zero (by omega)
    subst e
    rw [List.append_nil] at pm
    rw [Nat.zero_add]
    exact q found ⟨pm, fm⟩
end
end L2.Pr

set_option Elab.async false
set_option linter.all false
set_option maxRecDepth 100000
set_option maxHeartbeats 8000000
/-! drawn gears, by data -/
namespace L2.Pr
open PySem PySem.Spec PyProof.Rows L2.Sl L2.Dl
abbrev Mv := List Nat × Int
structure Bx where
  name : Str
  held : List Seat
  moves : List Mv
abbrev Gr := List Str × List Bx
def mvD (z : Mv) : D := .tuple [.tuple (z.1.map fun k : Nat => PyData.int (k : Int)), .int z.2]
def bxD (b : Bx) : D := .tuple [.str b.name, .tuple (slsD b.held), .tuple (b.moves.map mvD)]
def grD (g : Gr) : D := .tuple [.tuple (sD g.1), .tuple (g.2.map bxD)]
def okMv (hs : List Seat) (mv : Mv) : Prop := IsOrd hs mv.1 ∧ (mv.2 = 1 ∨ mv.2 = -1)
structure okB (spaces : List Str) (b : Bx) : Prop where
  nm : okN b.name
  l4 : b.held.length ≤ 4
  sl : ∀ h ∈ b.held, h.1 ∈ spaces ∧ okS h
  l3 : b.moves.length ≤ 3
  mv : ∀ mv ∈ b.moves, okMv b.held mv
structure okG (g : Gr) : Prop where
  s1 : 1 ≤ g.1.length
  s3 : g.1.length ≤ 3
  srt : sortedS g.1 = true
  nd : g.1.Nodup
  nm : ∀ z ∈ g.1, okN z
  b8 : g.2.length ≤ 8
  bsrt : sortedS (g.2.map (·.name)) = true
  bnd : (g.2.map (·.name)).Nodup
  bx : ∀ b ∈ g.2, okB g.1 b
def cGearM : CM := fun N ds k _ => ds = [] ∧ N ≤ 10000000 ∧ ∀ g N', okG g → N' ≤ N + 1000 → k (.imm (grD g)) N'
theorem seats_fit : ∀ {hs : List Seat}, (∀ h ∈ hs, okS h) → flats (slsD hs) = true ∧ PyData.canLayAll0 (slsD hs) = true ∧ PyData.depthAll (slsD hs) ≤ 1
  | [], _ => ⟨rfl, by simp [PyData.canLayAll0], by simp [PyData.depthAll]⟩
  | h :: hs, ok => by
    obtain ⟨f, l, dp⟩ := seats_fit (hs := hs) fun x hx => ok x (List.mem_cons_of_mem _ hx)
    have o := ok h List.mem_cons_self
    refine ⟨f, ?_, ?_⟩
    · have e : (slD h).canLay0 = true := by
        simp only [slD, PyData.canLay0, PyData.canLayAll0, strOk_letters o.1.2.2, strOk_side o.2, Bool.and_true]
      show PyData.canLayAll0 (slD h :: slsD hs) = true
      simp [PyData.canLayAll0, e, l]
    · show PyData.depthAll (slD h :: slsD hs) ≤ 1
      simp [PyData.depthAll, slD, PyData.depth]
      omega
theorem seats_fits {hs : List Seat} (ok : ∀ h ∈ hs, okS h) : fits (.list (slsD hs)) = true ∧ fits (.tuple (slsD hs)) = true := by
  obtain ⟨f, l, dp⟩ := seats_fit ok
  constructor
  · unfold fits SeqAt.shaped
    rw [show flat (.list (slsD hs)) = true from f]
    simp [PyData.canLay0, PyData.depth, l]
    omega
  · unfold fits SeqAt.shaped
    rw [show flat (.tuple (slsD hs)) = true from f]
    simp [PyData.canLay0, PyData.depth, l]
    omega
section
variable {P : Program} {w : World} {K : PySem.W.Frag} {mg : Str → Option Value} {base : Heap} {k : Nat}
theorem ok_law_gear {Tb : List (Addr × Str)} {l : Bool} (T : Txt K mg) : FnOk P w K mg base (L2.CX P w) (k + 4) T.f_law_gear T.d_law_gear ["d"] (spM (drF w Tb l) K mg 0 cGearM) := by
  refine okM (fam := drF w Tb false) T.F_law_gear sc_law_gear (by decide) (fun cdv A outer s H E hr tk =>
    (pds_cons (pd_par (i := 1) (j := 2) rfl sc_law_gear.nd rfl rfl (by decide) rfl rfl (pd_callM (ok_law_names T) hr (by rfl) T.g_law_names T.F_law_names.kp T.b_law_names (passD tk) (pv 0) (par_cons (pd_op do_add (pb_of pd_int) (pb_of (pd_callM (ok_law_draw T) hr (by rfl) T.g_law_draw T.F_law_draw.kp T.b_law_draw (passD tk) (pv 0) (par_cons pd_int par_nil)))) par_nil)) (pd_lst par_nil) (by rfl))
      (pds_cons (pd_for (passes_of rfl) rfl (pit_seq (pb_of (pd_callM (ok_law_names T) hr (by rfl) T.g_law_names T.F_law_names.kp T.b_law_names (passD tk) (pv 0) (par_cons (pd_callM (ok_law_draw T) hr (by rfl) T.g_law_draw T.F_law_draw.kp T.b_law_draw (passD tk) (pv 0) (par_cons pd_int par_nil)) par_nil)))) (pgt_name (pg_name (i := 3) sc_law_gear.nd rfl (.inl rfl)))
        (pds_cons (pd_parA rfl (pg_name (i := 4) sc_law_gear.nd rfl (.inr rfl)) (pg_name (i := 5) sc_law_gear.nd rfl (.inl rfl)) (pd_lst par_nil) (pd_callM (ok_law_draw T) hr (by rfl) T.g_law_draw T.F_law_draw.kp T.b_law_draw (passD tk) (pv 0) (par_cons pd_int par_nil)))
        (pds_cons (pd_for (passes_of rfl) rfl (pit_range1 (by rfl) T.n_range (par_cons (pd_callM (ok_law_draw T) hr (by rfl) T.g_law_draw T.F_law_draw.kp T.b_law_draw (passD tk) (pv 0) (par_cons pd_int par_nil)) par_nil)) (pgt_name (pg_name (i := 6) sc_law_gear.nd rfl (.inl rfl)))
          (pds_cons (pd_set (i := 7) sc_law_gear.nd rfl (.inl rfl) (pd_tup (par_cons (pd_callM (ok_law_pick T) hr (by rfl) T.g_law_pick T.F_law_pick.kp T.b_law_pick (passD tk) (pv 0) (par_cons (pd_var (pv 1)) par_nil)) (par_cons (pd_callM (ok_law_pick T) hr (by rfl) T.g_law_pick T.F_law_pick.kp T.b_law_pick (passD tk) (pv 0) (par_cons (pd_lst (par_cons pd_str (par_cons pd_str par_nil))) par_nil)) par_nil))))
          (pds_one (pd_expr (pd_append (pv 4) (pd_ifExp (PWt.pt (pwt_or (pt_cmpD (do_eq hr.units) (pb_var (pv 5)) (pb_of pd_int) (nomark _)) (pwt_or1 (pt_cmpD (do_eq hr.units) (pb_var (pv 4)) (pb_of (pd_lst par_nil)) (nomark _))))) (pd_var (pv 7)) (pd_ix (pb_var (pv 4)) (pb_of pd_int) (fun _ _ => rfl))))))))
        (pds_cons (pd_set (i := 8) sc_law_gear.nd rfl (.inl rfl) (pd_callTy dc_tuple (by rfl) T.n_tuple (by decide +kernel) (pb_of (pd_lc (by rfl) sc_law_gear.nd (pit_range1 (by rfl) T.n_range (par_cons (pd_callM (ok_law_draw T) hr (by rfl) T.g_law_draw T.F_law_draw.kp T.b_law_draw (passD tk) (pv 0) (par_cons pd_int par_nil)) par_nil)) (blkOk_by (own := [("k", 6)]) (N := N_law_gear) (sc := defScope s_law_gear) (by decide +kernel)) (fun _ _ _ _ _ => (pgt_name (pg_name (i := 6) sc_law_gear.nd rfl (.inl rfl)))) (fun _ _ _ _ _ => ptd_nil) (fun _ _ _ _ _ => (pd_tup (par_cons (pd_callM (ok_law_order T) hr (by rfl) T.g_law_order T.F_law_order.kp T.b_law_order passL (pv 0) (par_cons (pd_var (pv 4)) par_nil)) (par_cons (pd_callM (ok_law_pick T) hr (by rfl) T.g_law_pick T.F_law_pick.kp T.b_law_pick passL (pv 0) (par_cons (pd_lst (par_cons pd_int (par_cons (pd_neg pd_int) par_nil))) par_nil)) par_nil))))))))
        (pds_one (pd_expr (pd_append (pv 2) (pd_tup (par_cons (pd_var (pv 3)) (par_cons (pd_callTy dc_tuple (by rfl) T.n_tuple (by decide +kernel) (pb_var (pv 4))) (par_cons (pd_var (pv 8)) par_nil)))))))))))
      (pds_one (pd_ret (pd_tup (par_cons (pd_var (pv 1)) (par_cons (pd_callTy dc_tuple (by rfl) T.n_tuple (by decide +kernel) (pb_var (pv 2))) par_nil)))))))) (fun N ds Kd Ke l h => ?_)
  obtain ⟨rfl, hN, q⟩ := h
  refine ⟨⟨N, rfl⟩, ⟨⟨N, rfl⟩, rfl, 3, rfl, by decide, by decide, by omega, fun r r0 r1 => ⟨rfl, (1 + r).toNat, by rw [Int.toNat_of_nonneg (by omega)], by omega, by omega, fun sp n1 lsp ssp nsp osp b1 => ⟨by decide, ?_⟩⟩⟩⟩
  refine ⟨⟨_, rfl⟩, ⟨⟨_, rfl⟩, rfl, 9, rfl, by decide, by decide, by omega, fun r2 q0 q1 => ⟨rfl, r2.toNat, by rw [Int.toNat_of_nonneg q0], by omega, by omega, fun nm n2 lnm snm nnm onm b2 => ⟨rfl, ?_⟩⟩⟩⟩
  refine for_inv (e := PyData.str) (fun i Γ => ∃ (n : Nat) (bs : List Bx) (x3 x4 x5 : Option Slot) (x6 : Option D) (x7 x8 : Option Slot), Γ = [some (.drw n), some (.imm (.tuple (sD sp))), some (.own (.list (bs.map bxD))), x3, x4, x5, x6.map Slot.imm, x7, x8] ∧ bs.map (·.name) = nm.take i ∧ (∀ b ∈ bs, okB sp b) ∧ n ≤ n2 + 60 * i) nm 0 _
    (fun i y Γ ey hI nx hnx => ?_) (fun Γ hI => ?_) ⟨n2, [], none, none, none, none, none, none, rfl, rfl, (fun _ h => nomatch h), by omega⟩
  · obtain ⟨n, bs, x3, x4, x5, x6, x7, x8, rfl, en, okb, ln⟩ := hI
    rw [Nat.zero_add] at en hnx ln
    have hi : i < 9 := by
      have := (List.getElem?_eq_some_iff.mp ey).1
      omega
    have lb : bs.length ≤ 9 := by
      have := congrArg List.length en
      rw [List.length_map, List.length_take] at this
      omega
    -- held, way
    refine ⟨by decide, ⟨_, rfl⟩, rfl, 2, rfl, by decide, by decide, by omega, fun way w0 w1 => ?_⟩
    refine ⟨⟨_, rfl⟩, rfl, 5, rfl, by decide, by decide, by omega, fun r5 p0 p1 => ⟨⟨by omega, by omega⟩, rfl, ?_⟩⟩
    show forD _ _ _ ((List.range r5.toNat).map fun k : Nat => PyData.int (0 + (k : Int))) _
    refine for_inv (e := fun k : Nat => PyData.int (0 + (k : Int))) (fun j Γ => ∃ (n' : Nat) (hs : List Seat) (x6 : Option D) (x7 : Option Slot), Γ = [some (.drw n'), some (.imm (.tuple (sD sp))), some (.own (.list (bs.map bxD))), some (.imm (.str y)), some (.own (.list (slsD hs))), some (.imm (.int way)), x6.map Slot.imm, x7, x8] ∧ hs.length = j ∧ (∀ h ∈ hs, h.1 ∈ sp ∧ okS h) ∧ n' ≤ n + 2 + 2 * j) (List.range r5.toNat) 0 _
      (fun j z Γ ez hJ nx2 hnx2 => ?_) (fun Γ hJ => ?_) ⟨n + 1 + 1, [], x6, x7, rfl, rfl, (fun _ h => nomatch h), by omega⟩
    · obtain ⟨n', hs, x6, x7, rfl, lh, okh, ln'⟩ := hJ
      rw [Nat.zero_add] at lh hnx2 ln'
      have hj : j < 5 := by
        have := (List.getElem?_eq_some_iff.mp ez).1
        rw [List.length_range] at this
        omega
      refine ⟨⟨_, rfl⟩, rfl, sD sp, .inr rfl, ?_, by rw [sD, List.length_map]; omega, by omega, fun a ha => ⟨⟨_, rfl⟩, by decide, rfl, _, .inl rfl, by simp, by decide, by omega, fun b hb => ⟨(show 2 ≤ sizeLine by decide), ?_⟩⟩⟩
      · intro e
        have := congrArg List.length e
        rw [sD, List.length_map] at this
        have : sp.length = 0 := this
        omega
      · obtain ⟨sa, hsa, rfl⟩ := List.mem_map.mp ha
        obtain ⟨sb, rfl, hsb⟩ : ∃ sb : Str, b = .str sb ∧ (sb = "up" ∨ sb = "down") := by
          rcases one_of_two hb with rfl | rfl
          · exact ⟨_, rfl, .inl rfl⟩
          · exact ⟨_, rfl, .inr rfl⟩
        have okn : okS (sa, sb) := ⟨osp sa hsa, hsb⟩
        have fin : ∀ h : Seat, h.1 ∈ sp → okS h → nx2 [some (.drw (n' + 1 + 1)), some (.imm (.tuple (sD sp))), some (.own (.list (bs.map bxD))), some (.imm (.str y)), some (.own (.list (slsD hs ++ [slD h]))), some (.imm (.int way)), some (.imm (.int (0 + (z : Int)))), some (.imm (slD (sa, sb))), x8] := fun h h1 h2 => by
          refine hnx2 _ ⟨n' + 1 + 1, hs ++ [h], some (.int (0 + (z : Int))), some (.imm (slD (sa, sb))), ?_, ?_, ?_, by omega⟩
          · have e : slsD (hs ++ [h]) = slsD hs ++ [slD h] := by rw [slsD, slsD, List.map_append] <;> rfl
            rw [e]
            rfl
          · rw [List.length_append, lh]
            rfl
          · intro g hg
            rcases List.mem_append.mp hg with hg | hg
            · exact okh g hg
            · rw [List.mem_singleton.mp hg]
              exact ⟨h1, h2⟩
        have lhs : (slsD hs).length < sizeLine := by
          rw [slsD, List.length_map, lh]
          exact Nat.lt_of_lt_of_le (show j < 9 by omega) (by decide)
        refine ⟨⟨_, rfl⟩, bw_dec (fun c => ⟨lhs, fin (sa, sb) hsa okn⟩) (fun c => ⟨by decide, (seats_fits fun h hh => (okh h hh).2).1, by decide +kernel, ?_⟩)⟩
        cases hs with
        | nil => exact ⟨lhs, fin (sa, sb) hsa okn⟩
        | cons h0 r => exact ⟨slD h0, atI_nat (j := 0) rfl, lhs, fin h0 (okh h0 List.mem_cons_self).1 (okh h0 List.mem_cons_self).2⟩
    · obtain ⟨n', hs, x6, x7, rfl, lh, okh, ln'⟩ := hJ
      rw [Nat.zero_add, List.length_range] at lh ln'
      have l4 : hs.length ≤ 4 := by omega
      refine ⟨⟨_, rfl⟩, rfl, 4, rfl, by decide, by decide, by omega, fun r4 u0 u1 => ⟨⟨by omega, by omega⟩, ?_⟩⟩
      show compD none [6] _ dYes _ ((List.range r4.toNat).map fun k : Nat => PyData.int (0 + (k : Int))) [] _ _
      refine comp_inv (lv := none) (fun j acc Γ => ∃ (n3 : Nat) (mvs : List Mv) (s4 : Slot), acc = mvs.map mvD ∧ mvs.length = j ∧ (∀ mv ∈ mvs, okMv hs mv) ∧ (s4 = .own (.list (slsD hs)) ∨ s4 = .imm (.list (slsD hs))) ∧ n3 ≤ n' + 1 + 9 * j ∧ Γ = [some (.drw n3), some (.imm (.tuple (sD sp))), some (.own (.list (bs.map bxD))), some (.imm (.str y)), some s4, some (.imm (.int way)), x6.map Slot.imm, x7, x8]) (List.range r4.toNat) 0 [] _ (fun j x acc Γ ex hK => ?_) (fun acc Γ hK => ?_) (fun j acc Γ hK l => ?_) ⟨n' + 1, [], _, rfl, rfl, (fun _ h => nomatch h), .inl rfl, by omega, rfl⟩
      · obtain ⟨n3, mvs, s4, rfl, lm, okm, hs4, ln3, rfl⟩ := hK
        rw [Nat.zero_add] at lm ln3 ⊢
        have hj : j < 4 := by
          have := (List.getElem?_eq_some_iff.mp ex).1
          rw [List.length_range] at this
          omega
        have step : ∀ (Ky : D → Env' → Prop), (∀ yv Γ', (∃ (n3 : Nat) (mvs' : List Mv) (s4 : Slot), mvs.map mvD ++ [yv] = mvs'.map mvD ∧ mvs'.length = j + 1 ∧ (∀ mv ∈ mvs', okMv hs mv) ∧ (s4 = .own (.list (slsD hs)) ∨ s4 = .imm (.list (slsD hs))) ∧ n3 ≤ n' + 1 + 9 * (j + 1) ∧ Γ' = [some (.drw n3), some (.imm (.tuple (sD sp))), some (.own (.list (bs.map bxD))), some (.imm (.str y)), some s4, some (.imm (.int way)), x6.map Slot.imm, x7, x8]) → Ky yv Γ') →
            ∀ os, IsOrd hs os → ∀ b, b ∈ [PyData.int 1, PyData.int (-1)] → ∀ n4, n4 ≤ n3 + 9 → Ky (.tuple [.tuple (nD os), b]) [some (.drw n4), some (.imm (.tuple (sD sp))), some (.own (.list (bs.map bxD))), some (.imm (.str y)), some (.imm (.list (slsD hs))), some (.imm (.int way)), x6.map Slot.imm, x7, x8] := fun Ky hy os io b hb n4 l4 => by
          obtain ⟨c, rfl, hc⟩ : ∃ c : Int, b = .int c ∧ (c = 1 ∨ c = -1) := by
            rcases one_of_two hb with rfl | rfl
            · exact ⟨_, rfl, .inl rfl⟩
            · exact ⟨_, rfl, .inr rfl⟩
          refine hy _ _ ⟨n4, mvs ++ [(os, c)], _, ?_, ?_, ?_, .inr rfl, by omega, rfl⟩
          · rw [List.map_append] <;> rfl
          · rw [List.length_append, lm]
            rfl
          · intro mv hmv
            rcases List.mem_append.mp hmv with h | h
            · exact okm mv h
            · rw [List.mem_singleton.mp h]
              exact ⟨io, hc⟩
        rcases hs4 with rfl | rfl
        · refine ⟨True.intro, by cases x6 <;> rfl, fun Ky Kn hy hn => ⟨⟨_, rfl⟩, rfl, hs, rfl, by omega, (fun h hh => (okh h hh).2), by omega, fun os io => ⟨⟨_, rfl⟩, by decide, rfl, _, .inl rfl, by simp, by decide, by omega, fun b hb => ⟨(show 2 ≤ sizeLine by decide), ?_⟩⟩⟩⟩
          exact step Ky hy os io b hb _ (by omega)
        · refine ⟨True.intro, by cases x6 <;> rfl, fun Ky Kn hy hn => ⟨⟨_, rfl⟩, rfl, hs, rfl, by omega, (fun h hh => (okh h hh).2), by omega, fun os io => ⟨⟨_, rfl⟩, by decide, rfl, _, .inl rfl, by simp, by decide, by omega, fun b hb => ⟨(show 2 ≤ sizeLine by decide), ?_⟩⟩⟩⟩
          exact step Ky hy os io b hb _ (by omega)
      · obtain ⟨n3, mvs, s4, rfl, lm, okm, hs4, ln3, rfl⟩ := hK
        rw [Nat.zero_add, List.length_range] at lm ln3
        have lbs : (bs.map bxD).length < sizeLine := by
          rw [List.length_map]
          exact Nat.lt_of_lt_of_le (show bs.length < 10 by omega) (by decide)
        have fin : ∀ s4 : Slot, nx [some (.drw n3), some (.imm (.tuple (sD sp))), some (.own (.list (bs.map bxD ++ [bxD ⟨y, hs, mvs⟩]))), some (.imm (.str y)), some s4, some (.imm (.int way)), x6.map Slot.imm, x7, some (.imm (.tuple (mvs.map mvD)))] := fun s4 => by
          refine hnx _ ⟨n3, bs ++ [⟨y, hs, mvs⟩], some (.imm (.str y)), some s4, some (.imm (.int way)), x6, x7, some (.imm (.tuple (mvs.map mvD))), ?_, ?_, ?_, by omega⟩
          · rw [List.map_append] <;> rfl
          · rw [List.map_append, en, List.take_succ, ey] <;> rfl
          · intro b hb
            rcases List.mem_append.mp hb with h | h
            · exact okb b h
            · rw [List.mem_singleton.mp h]
              exact ⟨onm y (List.mem_of_getElem? ey), l4, okh, by show mvs.length ≤ 3; omega, okm⟩
        rcases hs4 with rfl | rfl
        · exact ⟨True.intro, ⟨_, rfl⟩, (show 3 ≤ sizeLine by decide), lbs, fin _⟩
        · exact ⟨True.intro, ⟨_, rfl⟩, (show 3 ≤ sizeLine by decide), lbs, fin _⟩
      · obtain ⟨n3, mvs, s4, rfl, lm, _⟩ := hK
        rw [List.length_map, lm]
        rw [List.length_range] at l
        exact Nat.lt_of_lt_of_le (show j < 20 by omega) (by decide)
  · obtain ⟨n, bs, x3, x4, x5, x6, x7, x8, rfl, en, okb, ln⟩ := hI
    rw [Nat.zero_add] at en ln
    rw [List.take_length] at en
    have lb : bs.length = nm.length := by
      rw [← en, List.length_map]
    exact ⟨(show 2 ≤ sizeLine by decide), q (sp, bs) n ⟨by show 1 ≤ sp.length; omega, by show sp.length ≤ 3; omega, ssp, nsp, osp, by show bs.length ≤ 8; omega, by show sortedS (bs.map (·.name)) = true; rw [en]; exact snm, by show (bs.map (·.name)).Nodup; rw [en]; exact nnm, okb⟩ (by omega)⟩
end
end L2.Pr

set_option Elab.async false
set_option linter.all false
set_option maxRecDepth 100000
set_option maxHeartbeats 8000000
/-! a drawn gear is a gear -/
namespace L2.Pr
open PySem PySem.Spec PyProof.Rows L2.Sl L2.Dl
theorem slot_ok {sp : List Str} {h : Seat} (m : h.1 ∈ sp) (o : okS h) : isSlot (sD sp) (slD h) = true := by
  have e1 : (sD sp).any (fun z => eqS z (.str h.1)) = true := by rw [eqS_in]; exact decide_eq_true m
  have e2 : (sidesD.any fun z => eqS z (.str h.2)) = true := by
    rcases o.2 with e | e <;> rw [e] <;> decide +kernel
  show (isName (.str h.1) && ((sD sp).any (fun z => eqS z (.str h.1)) && (decide (tyD (.str h.2) = "str") && sidesD.any fun z => eqS z (.str h.2)))) = true
  rw [okN_name o.1, e1, e2]
  rfl
theorem ord_ints {n : Nat} {os : List Nat} (p : os.Perm (List.range n)) : ordB n (nD os) = true := by
  unfold ordB
  rw [nD_int, intsD_map]
  refine decide_eq_true (srtI_of ?_ ?_).symm
  · have e : ((List.range n).map fun k : Nat => (0 : Int) + (k : Int)) = (List.range n).map fun k : Nat => (k : Int) := List.map_congr_left fun k _ => Int.zero_add _
    rw [e]
    exact (p.map _).symm
  · rw [List.pairwise_map]
    exact (List.pairwise_lt_range (n := n)).imp fun h => by omega
theorem ord_whole {n : Nat} {os : List Nat} (p : os.Perm (List.range n)) : (nD os).all (isWhole 0 ((n : Int) - 1)) = true := by
  rw [nD, List.all_map]
  refine List.all_eq_true.mpr fun k hk => ?_
  have := List.mem_range.mp (p.mem_iff.mp hk)
  show (decide (0 ≤ (k : Int)) && decide ((k : Int) ≤ (n : Int) - 1)) = true
  rw [decide_eq_true (by omega), decide_eq_true (by omega)] <;> rfl
theorem move_ok {hs : List Seat} {mv : Mv} (h : okMv hs mv) : isMove hs.length (mvD mv) = true := by
  obtain ⟨⟨p, _⟩, s⟩ := h
  have l : (nD mv.1).length = hs.length := by rw [nD_len, p.length_eq, List.length_range]
  show (decide ((nD mv.1).length = hs.length) && ((nD mv.1).all (isWhole 0 ((hs.length : Int) - 1)) && (ordB hs.length (nD mv.1) && (isWhole (-1) 1 (.int mv.2) && !zeroB (.int mv.2))))) = true
  rw [decide_eq_true l, ord_whole p, ord_ints p]
  rcases s with e | e <;> rw [e] <;> rfl
theorem moved_self {hs : List Seat} {os : List Nat} (h : IsOrd hs os) : movedD (slsD hs) (os.map fun k : Nat => (k : Int)) = slsD hs := by
  have e1 : movedD (slsD hs) (os.map fun k : Nat => (k : Int)) = (os.map fun k => hs[k]?).map fun o => (o.map slD).getD .none := by
    unfold movedD
    rw [List.map_map, List.map_map]
    refine List.map_congr_left fun k _ => ?_
    show (slsD hs)[((k : Int)).toNat]?.getD .none = ((hs[k]?).map slD).getD .none
    rw [Int.toNat_natCast, List.getElem?_map]
  rw [e1, h.2, List.map_map]
  apply List.ext_getElem?
  intro i
  rw [List.getElem?_map]
  by_cases c : i < hs.length
  · rw [List.getElem?_range c, List.getElem?_map, List.getElem?_eq_getElem c]
    show some (((hs[i]?).map slD).getD .none) = _
    rw [List.getElem?_eq_getElem c] <;> rfl
  · rw [List.getElem?_eq_none (by rw [List.length_range]; omega), List.getElem?_map, List.getElem?_eq_none (by omega)] <;> rfl
theorem keeps_ok {hs : List Seat} {mv : Mv} (ok : ∀ h ∈ hs, okS h) (h : okMv hs mv) : keeps (slsD hs) (mvD mv) = true := by
  show (match intsD (nD mv.1) with
    | some ns => PyData.eqv (.tuple (movedD (slsD hs) ns)) (.tuple (slsD hs))
    | none => false) = true
  rw [nD_int, intsD_map]
  show PyData.eqv (.tuple (movedD (slsD hs) _)) _ = true
  rw [moved_self h.1]
  obtain ⟨_, l, _⟩ := seats_fit ok
  exact PySem.SeqAt.eqv_refl _ (by simpa [PyData.canLay0] using l)
theorem box_ok {sp : List Str} {b : Bx} (h : okB sp b) : isBox (sD sp) (bxD b) = true := by
  have os : ∀ x ∈ b.held, okS x := fun x hx => (h.sl x hx).2
  have ls : (slsD b.held).length = b.held.length := List.length_map _
  have a1 : (slsD b.held).all (isSlot (sD sp)) = true := by
    rw [slsD, List.all_map]
    exact List.all_eq_true.mpr fun x hx => slot_ok (h.sl x hx).1 (h.sl x hx).2
  have a2 : (b.moves.map mvD).all (isMove (slsD b.held).length) = true := by
    rw [ls, List.all_map]
    exact List.all_eq_true.mpr fun x hx => move_ok (h.mv x hx)
  have a3 : (b.moves.map mvD).all (keeps (slsD b.held)) = true := by
    rw [List.all_map]
    exact List.all_eq_true.mpr fun x hx => keeps_ok os (h.mv x hx)
  show (isName (.str b.name) && (decide ((slsD b.held).length ≤ 4) && ((slsD b.held).all (isSlot (sD sp)) && (decide ((b.moves.map mvD).length ≤ 3) && ((b.moves.map mvD).all (isMove (slsD b.held).length) && (b.moves.map mvD).all (keeps (slsD b.held))))))) = true
  rw [okN_name h.nm, a1, a2, a3, decide_eq_true (show (slsD b.held).length ≤ 4 by rw [ls]; exact h.l4), decide_eq_true (show (b.moves.map mvD).length ≤ 3 by rw [List.length_map]; exact h.l3)]
  rfl
theorem gear_ok {g : Gr} (h : okG g) : isGear (grD g) = true := by
  have l1 : (sD g.1).length = g.1.length := List.length_map _
  have a1 : (sD g.1).all isName = true := by
    rw [sD, List.all_map]
    exact List.all_eq_true.mpr fun x hx => okN_name (h.nm x hx)
  have a2 : (g.2.map bxD).all (isBox (sD g.1)) = true := by
    rw [List.all_map]
    exact List.all_eq_true.mpr fun x hx => box_ok (h.bx x hx)
  have a3 : (g.2.map bxD).map boxName = sD (g.2.map (·.name)) := by
    rw [List.map_map, sD, List.map_map]
    exact List.map_congr_left fun _ _ => rfl
  show ((decide (1 ≤ (sD g.1).length) && decide ((sD g.1).length ≤ 3)) && ((sD g.1).all isName && (risesD (sD g.1) && (decide ((g.2.map bxD).length ≤ 8) && ((g.2.map bxD).all (isBox (sD g.1)) && risesD ((g.2.map bxD).map boxName)))))) = true
  rw [a1, a2, a3, rises_sorted h.srt h.nd, rises_sorted h.bsrt h.bnd, decide_eq_true (show 1 ≤ (sD g.1).length by rw [l1]; exact h.s1), decide_eq_true (show (sD g.1).length ≤ 3 by rw [l1]; exact h.s3), decide_eq_true (show (g.2.map bxD).length ≤ 8 by rw [List.length_map]; exact h.b8)]
  rfl
theorem smals_of : ∀ {ds : List D}, (∀ d ∈ ds, smal d = true) → smals ds = true
  | [], _ => rfl
  | d :: ds, h => by
    show (smal d && smals ds) = true
    rw [h d List.mem_cons_self, smals_of fun x hx => h x (List.mem_cons_of_mem _ hx)] <;> rfl
theorem smal_name {z : Str} (h : okN z) : smal (.str z) = true := decide_eq_true (p := z.length ≤ sizeLine) (Nat.le_trans h.2.1 (by decide))
theorem smal_seat {h : Seat} (o : okS h) : smal (slD h) = true := by
  refine smals_of (ds := [.str h.1, .str h.2]) fun d hd => ?_
  rcases one_of_two hd with rfl | rfl
  · exact smal_name o.1
  · rcases o.2 with e | e <;> rw [e] <;> decide +kernel
theorem smal_nD (os : List Nat) : smal (.tuple (nD os)) = true := smals_of (ds := nD os) fun d hd => by
  obtain ⟨k, _, rfl⟩ := List.mem_map.mp hd
  rfl
theorem smal_mv (mv : Mv) : smal (mvD mv) = true := smals_of (ds := [.tuple (nD mv.1), .int mv.2]) fun d hd => by
  rcases one_of_two hd with rfl | rfl
  · exact smal_nD _
  · rfl
theorem smal_gear {g : Gr} (h : okG g) : smal (grD g) = true := by
  refine smals_of (ds := [.tuple (sD g.1), .tuple (g.2.map bxD)]) fun d hd => ?_
  rcases one_of_two hd with rfl | rfl
  · exact smals_of (ds := sD g.1) fun d hd => by
      obtain ⟨z, hz, rfl⟩ := List.mem_map.mp hd
      exact smal_name (h.nm z hz)
  · refine smals_of (ds := g.2.map bxD) fun d hd => ?_
    obtain ⟨b, hb, rfl⟩ := List.mem_map.mp hd
    have o := h.bx b hb
    refine smals_of (ds := [.str b.name, .tuple (slsD b.held), .tuple (b.moves.map mvD)]) fun d hd => ?_
    simp only [List.mem_cons, List.mem_nil_iff, or_false] at hd
    rcases hd with rfl | rfl | rfl
    · exact smal_name o.nm
    · exact smals_of (ds := slsD b.held) fun d hd => by
        obtain ⟨x, hx, rfl⟩ := List.mem_map.mp hd
        exact smal_seat (o.sl x hx).2
    · exact smals_of (ds := b.moves.map mvD) fun d hd => by
        obtain ⟨x, hx, rfl⟩ := List.mem_map.mp hd
        exact smal_mv x
end L2.Pr

set_option Elab.async false
set_option linter.all false
set_option maxRecDepth 100000
set_option maxHeartbeats 8000000
set_option pp.maxSteps 600
/-! k03: how great data is; _law_odd -/
namespace L2.Pr
open PySem PySem.Spec PyProof.Rows L2.Sl L2.Dl
/-- data of depth n at most, without dicts but empty ones, of leaves that are short -/
structure TE (n : Nat) (d : D) : Prop where
  sh : d.showable = true
  fe : flatE d = true
  dp : d.depth ≤ n
  lf : d.leavesShort 40 = true
theorem TE.up {n m : Nat} {d : D} (h : TE n d) (l : n ≤ m) : TE m d := ⟨h.sh, h.fe, Nat.le_trans h.dp l, h.lf⟩
theorem TE.tells {n b : Nat} {d : D} (h : TE n d) (hb : d.bulk ≤ b) (hn : n ≤ 60) (b2 : b ≤ 262144) : tellsE d :=
  ⟨h.sh, h.fe, Nat.le_trans h.dp hn, by
    have z := PyData.shown_le_bulk 40 (by decide) d h.lf
    rw [sizeLine_eq]
    omega⟩
mutual
theorem smal_bulk : ∀ d : D, d.bulk ≤ sizeLine → smal d = true
  | .none, _ => rfl
  | .bool _, _ => rfl
  | .int _, _ => rfl
  | .str x, h => by
    simp only [PyData.bulk] at h
    exact decide_eq_true h
  | .list ds, h => smals_bulk ds (by simpa only [PyData.bulk] using h)
  | .tuple ds, h => smals_bulk ds (by simpa only [PyData.bulk] using h)
  | .dict _, _ => rfl
theorem smals_bulk : ∀ ds : List D, PyData.bulkAll ds ≤ sizeLine → smals ds = true
  | [], _ => rfl
  | d :: ds, h => by
    simp only [PyData.bulkAll] at h
    show (smal d && smals ds) = true
    rw [smal_bulk d (by omega), smals_bulk ds (by omega)] <;> rfl
end
theorem te_all {n : Nat} : ∀ {ds : List D}, (∀ d ∈ ds, TE n d) ↔ (PyData.showableAll ds = true ∧ flatsE ds = true ∧ PyData.depthAll ds ≤ n ∧ PyData.leavesShortAll 40 ds = true)
  | [] => ⟨fun _ => ⟨by simp [PyData.showableAll], rfl, by simp [PyData.depthAll], by simp [PyData.leavesShortAll]⟩, fun _ _ h => nomatch h⟩
  | d :: ds => by
    have ih := te_all (n := n) (ds := ds)
    constructor
    · intro h
      obtain ⟨h1, h2, h3, h4⟩ := ih.mp fun x hx => h x (List.mem_cons_of_mem _ hx)
      have t := h d List.mem_cons_self
      refine ⟨?_, ?_, ?_, ?_⟩
      · simp only [PyData.showableAll, t.sh, h1, Bool.and_self]
      · show (flatE d && flatsE ds) = true
        rw [t.fe, h2] <;> rfl
      · simp only [PyData.depthAll]
        exact Nat.max_le.mpr ⟨t.dp, h3⟩
      · simp only [PyData.leavesShortAll, t.lf, h4, Bool.and_self]
    · rintro ⟨h1, h2, h3, h4⟩
      simp only [PyData.showableAll, Bool.and_eq_true] at h1
      have h2 : (flatE d && flatsE ds) = true := h2
      rw [Bool.and_eq_true] at h2
      simp only [PyData.depthAll] at h3
      have h3 := Nat.max_le.mp h3
      simp only [PyData.leavesShortAll, Bool.and_eq_true] at h4
      intro x hx
      rcases List.mem_cons.mp hx with rfl | hx
      · exact ⟨h1.1, h2.1, h3.1, h4.1⟩
      · exact ih.mpr ⟨h1.2, h2.2, h3.2, h4.2⟩ x hx
theorem te_tup {n : Nat} {ds : List D} (h : ∀ d ∈ ds, TE n d) : TE (n + 1) (.tuple ds) := by
  obtain ⟨h1, h2, h3, h4⟩ := te_all.mp h
  exact ⟨by simpa only [PyData.showable] using h1, h2, by simp only [PyData.depth]; omega, by simpa only [PyData.leavesShort] using h4⟩
theorem te_list {n : Nat} {ds : List D} (h : ∀ d ∈ ds, TE n d) : TE (n + 1) (.list ds) := by
  obtain ⟨h1, h2, h3, h4⟩ := te_all.mp h
  exact ⟨by simpa only [PyData.showable] using h1, h2, by simp only [PyData.depth]; omega, by simpa only [PyData.leavesShort] using h4⟩
theorem te_of {n : Nat} {ds : List D} (h : TE n (.tuple ds)) : ∃ m, n = m + 1 ∧ ∀ d ∈ ds, TE m d := by
  have dp := h.dp
  simp only [PyData.depth] at dp
  refine ⟨n - 1, by omega, te_all.mpr ⟨?_, h.fe, by omega, ?_⟩⟩
  · have := h.sh
    simpa only [PyData.showable] using this
  · have := h.lf
    simpa only [PyData.leavesShort] using this
theorem bulk_app : ∀ as bs : List D, PyData.bulkAll (as ++ bs) = PyData.bulkAll as + PyData.bulkAll bs
  | [], bs => by simp [PyData.bulkAll]
  | a :: as, bs => by
    simp only [List.cons_append, PyData.bulkAll, bulk_app as bs]
    omega
theorem len_bulk : ∀ as : List D, as.length ≤ PyData.bulkAll as
  | [] => Nat.zero_le _
  | a :: as => by
    have := len_bulk as
    simp only [List.length_cons, PyData.bulkAll]
    omega
theorem bulk_mem : ∀ {as : List D} {d : D}, d ∈ as → d.bulk + 1 ≤ PyData.bulkAll as
  | a :: as, d, h => by
    simp only [PyData.bulkAll]
    rcases List.mem_cons.mp h with rfl | h
    · omega
    · have := bulk_mem h
      omega
theorem bulk_perm {as bs : List D} (h : as.Perm bs) : PyData.bulkAll as = PyData.bulkAll bs := by
  induction h with
  | nil => rfl
  | cons x _ ih => simp only [PyData.bulkAll, ih]
  | swap x y l =>
    simp only [PyData.bulkAll]
    omega
  | trans _ _ h1 h2 => exact h1.trans h2
def teB (n b : Nat) (d : D) : Bool := d.showable && (flatE d && (decide (d.depth ≤ n) && (d.leavesShort 40 && decide (d.bulk ≤ b))))
theorem te_B {n b : Nat} {d : D} (h : teB n b d = true) : TE n d ∧ d.bulk ≤ b := by
  unfold teB at h
  simp only [Bool.and_eq_true, decide_eq_true_eq] at h
  exact ⟨⟨h.1, h.2.1, h.2.2.1, h.2.2.2.1⟩, h.2.2.2.2⟩
def oddA : List D := [.none, .bool true, .bool false, .int 0, .int 1, .int (-1), .int 2, .int 4, .int (10 ^ 30), .str "", .str "a", .str "up", .str "down", .str "Up", .str "a1", .str "zz", .str "abcdefghi"]
def oddB : List D := [.str "sideways", .tuple [], .tuple [.int 0], .tuple [.int 1, .int 0], .tuple [.str "a"], .tuple [.str "a", .str "up"], .list [], .dict [], .list [.str "a"], .tuple [.tuple [], .int 1]]
theorem odd_te : ∀ x ∈ oddA ++ oddB, TE 2 x ∧ x.bulk ≤ 20 := fun x hx => te_B (List.all_eq_true.mp (show (oddA ++ oddB).all (teB 2 20) = true by decide +kernel) x hx)
def cOdd : CM := fun N ds k _ => ds = [] ∧ N ≤ 1000000000 ∧ ∀ x ∈ oddA ++ oddB, k (.imm x) (N + 1)
section
variable {P : Program} {w : World} {K : PySem.W.Frag} {mg : Str → Option Value} {base : Heap} {k : Nat}
theorem ok_law_odd {Tb : List (Addr × Str)} {l : Bool} (T : Txt K mg) : FnOk P w K mg base (L2.CX P w) (k + 3) T.f_law_odd T.d_law_odd ["d"] (spM (drF w Tb l) K mg 0 cOdd) := by
  refine okM (fam := drF w Tb false) T.F_law_odd sc_law_odd (by decide) (fun cdv A outer s H E hr tk =>
    (pds_cons (pd_set (i := 1) sc_law_odd.nd rfl (.inl rfl) (pd_lst (par_cons pd_non (par_cons pd_bl (par_cons pd_bl (par_cons pd_int (par_cons pd_int (par_cons (pd_neg pd_int) (par_cons pd_int (par_cons pd_int (par_cons (pd_op do_pow (pb_of pd_int) (pb_of pd_int)) (par_cons pd_str (par_cons pd_str (par_cons pd_str (par_cons pd_str (par_cons pd_str (par_cons pd_str (par_cons pd_str (par_cons pd_str par_nil)))))))))))))))))))
      (pds_one (pd_ret (pd_ix (pb_of (pd_op do_add (pb_var (pv 1)) (pb_of (pd_lst (par_cons pd_str (par_cons (pd_tup par_nil) (par_cons (pd_tup (par_cons pd_int par_nil)) (par_cons (pd_tup (par_cons pd_int (par_cons pd_int par_nil))) (par_cons (pd_tup (par_cons pd_str par_nil)) (par_cons (pd_tup (par_cons pd_str (par_cons pd_str par_nil))) (par_cons (pd_lst par_nil) (par_cons pd_dnew (par_cons (pd_lst (par_cons pd_str par_nil)) (par_cons (pd_tup (par_cons (pd_tup par_nil) (par_cons pd_int par_nil))) par_nil)))))))))))))) (pb_of (pd_callM (ok_law_draw T) hr (by rfl) T.g_law_draw T.F_law_draw.kp T.b_law_draw (passD tk) (pv 0) (par_cons pd_int par_nil))) (fun _ _ => rfl)))))) (fun N ds Kd Ke l h => ?_)
  obtain ⟨rfl, hN, q⟩ := h
  have z0 : 0 ≤ sizeLine := by decide
  have z1 : 1 ≤ sizeLine := by decide
  have z2 : 2 ≤ sizeLine := by decide
  refine ⟨⟨by decide, by decide, by decide⟩, (show 17 ≤ sizeLine by decide), ?_⟩
  refine ⟨z0, z1, z2, z1, z2, z0, z1, z0, z2, (show 10 ≤ sizeLine by decide), ?_⟩
  refine ⟨(show 17 + 10 ≤ sizeLine by decide), ?_⟩
  refine ⟨⟨N, rfl⟩, rfl, 27, rfl, by decide, by decide, hN, fun r r0 r1 => ?_⟩
  obtain ⟨x, e, m⟩ := at_draw (xs := oddA ++ oddB) r0 r1
  exact ⟨x, e, q x m⟩
end
end L2.Pr

set_option Elab.async false
set_option linter.all false
set_option maxRecDepth 100000
set_option maxHeartbeats 8000000
set_option pp.maxSteps 600
/-! k03: _law_bent -/
namespace L2.Pr
open PySem PySem.Spec PyProof.Rows L2.Sl L2.Dl
def cBent (n : Nat) : CM := fun N ds k _ => ∃ (t : D) (m b : Nat), ds = [t] ∧ m ≤ n ∧ TE m t ∧ t.bulk ≤ b ∧ b ≤ 100000 ∧ N + 4 * (n + 1) ≤ 900000000 ∧ ∀ x N', TE (m + 2) x → x.bulk ≤ 2 * b + 100 → N' ≤ N + 4 * (n + 1) → k (.imm x) N'
/-- never called -/
theorem fnOk_no {P : Program} {w : World} {K : PySem.W.Frag} {mg : Str → Option Value} {base : Heap} {CX : CXT} {k : Nat} {f : Addr} {fd : FuncData} {ps : List Str} {fam : Fam} {n : Nat} (hn : n + 1 = ps.length) : FnOk P w K mg base CX k f fd ps (spM fam K mg n fun _ _ _ _ => False) :=
  ⟨fun vs H Q E h => by
    obtain ⟨v0, vr, A, N, F, ds, Kd, Ke, rfl, l, _⟩ := h
    rw [List.length_cons, l, hn], fun A outer s H args us vs Q E hr e0 hb r h => by
    obtain ⟨_, _, _, _, _, _, _, _, _, _, _, _, _, _, _, _, c, _⟩ := h
    exact c.elim⟩
theorem cut_to {α : Type} (xs : List α) (a : Nat) : Dl.cutD xs none (some (a : Int)) = xs.take a := by
  unfold Dl.cutD
  rw [HT.sIx_none, HT.sIx_nat]
  simp only [Nat.sub_zero, List.drop_zero]
  by_cases h : a ≤ xs.length
  · rw [Nat.min_eq_left h]
  · rw [Nat.min_eq_right (by omega), List.take_length, List.take_of_length_le (by omega)]
theorem cut_from {α : Type} (xs : List α) (a : Nat) : Dl.cutD xs (some (a : Int)) none = xs.drop a := by
  unfold Dl.cutD
  rw [HT.sIx_none, HT.sIx_nat]
  by_cases h : a ≤ xs.length
  · rw [Nat.min_eq_left h]
    exact List.take_of_length_le (by rw [List.length_drop]; omega)
  · rw [Nat.min_eq_right (by omega), List.drop_length, List.drop_of_length_le (by omega), List.take_nil]
theorem cut_mid {α : Type} (xs : List α) (a b : Nat) : ∀ x ∈ Dl.cutD xs (some (a : Int)) (some (b : Int)), x ∈ xs := fun x h => List.mem_of_mem_drop (List.mem_of_mem_take h)
theorem cut_one {α : Type} (xs : List α) (a : Nat) : (Dl.cutD xs (some (a : Int)) (some ((a + 1 : Nat) : Int))).length ≤ 1 := by
  unfold Dl.cutD
  rw [HT.sIx_nat, HT.sIx_nat, List.length_take]
  omega
theorem bulk_sub {as bs : List D} (h : as.Sublist bs) : PyData.bulkAll as ≤ PyData.bulkAll bs := by
  induction h with
  | slnil => exact Nat.le_refl _
  | cons x _ ih =>
    simp only [PyData.bulkAll]
    omega
  | cons_cons x _ ih =>
    simp only [PyData.bulkAll]
    omega
theorem bw_both {b1 b2 : Bool} {A B : Prop} (h1 : b1 = true → b2 = true → A) (h2 : B) : bw b1 (bw b2 A B) B := bw_of (fun e1 => bw_of (fun e2 => h1 e1 e2) fun _ => h2) fun _ => h2
theorem nat_of {i : Int} {n : Nat} (h0 : 0 ≤ i) (h1 : i < (n : Int)) : ∃ j : Nat, i = (j : Int) ∧ j < n := ⟨i.toNat, by omega, by omega⟩
theorem bulk_two (xs : List D) (a : Nat) : PyData.bulkAll (xs.take a) + PyData.bulkAll (xs.drop a) = PyData.bulkAll xs := by
  rw [← bulk_app, List.take_append_drop]
section
variable {P : Program} {w : World} {K : PySem.W.Frag} {mg : Str → Option Value} {base : Heap} {k : Nat}
theorem bent_step {Tb : List (Addr × Str)} {l : Bool} (T : Txt K mg) (n : Nat) (C : CM) (G : FnOk P w K mg base (L2.CX P w) (k + 4) T.f_law_bent T.d_law_bent ["d", "thing"] (spM (drF w Tb false) K mg 1 C))
    (hC : ∀ N t m b (kk : Dl.Slot → Nat → Prop) (Ke : KE), m + 1 ≤ n → TE m t → t.bulk ≤ b → b ≤ 100000 → N + 4 * n ≤ 900000000 → (∀ x N', TE (m + 2) x → x.bulk ≤ 2 * b + 100 → N' ≤ N + 4 * n → kk (.imm x) N') → C N [t] kk Ke) :
    FnOk P w K mg base (L2.CX P w) (k + 5) T.f_law_bent T.d_law_bent ["d", "thing"] (spM (drF w Tb l) K mg 1 (cBent n)) := by
  refine okM (fam := drF w Tb false) T.F_law_bent sc_law_bent (by decide) (fun cdv A outer s H E hr tk =>
    (pds_cons (pd_set (i := 2) sc_law_bent.nd rfl (.inl rfl) (pd_callM (ok_law_draw T) hr (by rfl) T.g_law_draw T.F_law_draw.kp T.b_law_draw (passD tk) (pv 0) (par_cons pd_int par_nil)))
      (pds_cons (pd_if (PWt.pt (pwt_or (pt_notD (pt_valD (pd_isi (by decide) (by rfl) T.n_isinstance (pe_bltn (v := .ty "tuple") (by rfl) T.n_tuple (by decide +kernel) rfl) (pb_var (pv 1))))) (pwt_or1 (pt_cmpD (do_eq hr.units) (pb_var (pv 2)) (pb_of pd_int) (nomark _)))))
        (pds_one (pd_ret (pd_callM (ok_law_odd T) hr (by rfl) T.g_law_odd T.F_law_odd.kp T.b_law_odd (passD tk) (pv 0) par_nil)))
        pds_nil)
      (pds_cons (pd_if (PWt.pt (pwt_and (pt_cmpD (do_neNil hr.units) (pb_var (pv 1)) (pb_of (pd_tup par_nil)) (nomark _)) (pwt_and1 (pt_cmpD do_lt (pb_var (pv 2)) (pb_of pd_int) (nomark _)))))
        (pds_cons (pd_set (i := 3) sc_law_bent.nd rfl (.inl rfl) (pd_callM (ok_law_draw T) hr (by rfl) T.g_law_draw T.F_law_draw.kp T.b_law_draw (passD tk) (pv 0) (par_cons (pd_callB dc_len (by rfl) T.n_len (by decide +kernel) (pb_var (pv 1))) par_nil)))
        (pds_one (pd_ret (pd_op do_add (pb_of (pd_op do_add (pb_of (pd_slice (pb_var (pv 1)) pot_none (pot_some (pd_var (pv 3))))) (pb_of (pd_tup (par_cons (pd_callM G hr (by rfl) T.g_law_bent T.F_law_bent.kp T.b_law_bent (passD tk) (pv 0) (par_cons (pd_ix (pb_var (pv 1)) (pb_var (pv 3)) (fun _ _ => rfl)) par_nil)) par_nil))))) (pb_of (pd_slice (pb_var (pv 1)) (pot_some (pd_op do_add (pb_var (pv 3)) (pb_of pd_int))) pot_none))))))
        pds_nil)
      (pds_cons (pd_set (i := 3) sc_law_bent.nd rfl (.inl rfl) (pd_callM (ok_law_draw T) hr (by rfl) T.g_law_draw T.F_law_draw.kp T.b_law_draw (passD tk) (pv 0) (par_cons (pd_op do_add (pb_of (pd_callB dc_len (by rfl) T.n_len (by decide +kernel) (pb_var (pv 1)))) (pb_of pd_int)) par_nil)))
      (pds_cons (pd_set (i := 4) sc_law_bent.nd rfl (.inl rfl) (pd_lst (par_cons (pd_op do_add (pb_of (pd_slice (pb_var (pv 1)) pot_none (pot_some (pd_var (pv 3))))) (pb_of (pd_slice (pb_var (pv 1)) (pot_some (pd_op do_add (pb_var (pv 3)) (pb_of pd_int))) pot_none))) (par_cons (pd_op do_add (pb_of (pd_op do_add (pb_of (pd_slice (pb_var (pv 1)) pot_none (pot_some (pd_var (pv 3))))) (pb_of (pd_slice (pb_var (pv 1)) (pot_some (pd_var (pv 3))) (pot_some (pd_op do_add (pb_var (pv 3)) (pb_of pd_int))))))) (pb_of (pd_slice (pb_var (pv 1)) (pot_some (pd_var (pv 3))) pot_none))) (par_cons (pd_rev (pb_var (pv 1))) (par_cons (pd_callTy dc_list (by rfl) T.n_list (by decide +kernel) (pb_var (pv 1))) par_nil))))))
      (pds_one (pd_ret (pd_ix (pb_of (pd_op do_add (pb_var (pv 4)) (pb_of (pd_lst (par_cons (pd_op do_add (pb_of (pd_op do_add (pb_of (pd_slice (pb_var (pv 1)) pot_none (pot_some (pd_var (pv 3))))) (pb_of (pd_tup (par_cons (pd_callM (ok_law_odd T) hr (by rfl) T.g_law_odd T.F_law_odd.kp T.b_law_odd (passD tk) (pv 0) par_nil) par_nil))))) (pb_of (pd_slice (pb_var (pv 1)) (pot_some (pd_var (pv 3))) pot_none))) (par_cons (pd_op do_add (pb_var (pv 1)) (pb_var (pv 1))) par_nil)))))) (pb_of (pd_callM (ok_law_draw T) hr (by rfl) T.g_law_draw T.F_law_draw.kp T.b_law_draw (passD tk) (pv 0) (par_cons pd_int par_nil))) (fun _ _ => rfl)))))))))) (fun N ds Kd Ke l h => ?_)
  obtain ⟨t, m, b, rfl, mn, te, tb, hb, hN, q⟩ := h
  refine ⟨⟨N, rfl⟩, rfl, 8, rfl, by decide, by decide, by omega, fun way w0 w1 => ?_⟩
  have odd : ∀ (x : D), x ∈ oddA ++ oddB → ∀ N', N' ≤ N + 4 * (n + 1) → Kd (.imm x) N' := fun x hx N' h => q x N' ((odd_te x hx).1.up (by omega)) (by have := (odd_te x hx).2; omega) h
  cases t with
  | tuple ds =>
    obtain ⟨m1, rfl, te1⟩ := te_of te
    simp only [PyData.bulk] at tb
    have ld := len_bulk ds
    have lz : ∀ n, n ≤ 400000 → n ≤ sizeLine := fun n h => Nat.le_trans h (by decide)
    refine bw_dec (fun h7 => ?_) (fun h7 => ?_)
    · exact ⟨⟨_, rfl⟩, rfl, rfl, by omega, fun x hx => odd x hx _ (by omega)⟩
    · refine ⟨(show 0 ≤ sizeLine by decide), ?_⟩
      refine bw_both (b1 := !ds.isEmpty) (b2 := decide (way < 5)) (fun e1 e2 => ?_) ?_
      · have ne : 0 < ds.length := by
          cases ds with
          | nil => cases e1
          | cons x r => exact Nat.zero_lt_succ _
        refine ⟨⟨N + 1, rfl⟩, rfl, (ds.length : Int), rfl, by omega, by omega, by omega, fun at_ a0 a1 => ?_⟩
        obtain ⟨j, rfl, hj⟩ := nat_of a0 a1
        have mx := List.getElem_mem hj
        have bx := bulk_mem mx
        refine ⟨⟨N + 1 + 1, rfl⟩, ds[j], atI_nat (by simp [hj]), rfl, ?_⟩
        refine hC (N + 1 + 1) ds[j] m1 ds[j].bulk _ _ (by omega) (te1 _ mx) (Nat.le_refl _) (by omega) (by omega) (fun y N' ty by_ ln => ?_)
        have e1 : Dl.cutD ds none (some (j : Int)) = ds.take j := cut_to ds j
        have e2 : Dl.cutD ds (some ((j : Int) + 1)) none = ds.drop (j + 1) := cut_from ds (j + 1)
        have sp : ds = ds.take j ++ ds[j] :: ds.drop (j + 1) := by simp
        have bs : PyData.bulkAll ds = PyData.bulkAll (ds.take j) + (ds[j].bulk + 1 + PyData.bulkAll (ds.drop (j + 1))) := by
          have z := congrArg PyData.bulkAll sp
          rw [bulk_app] at z
          exact z
        have l1 : (ds.take j ++ [y]).length ≤ ds.length + 1 := by
          rw [List.length_append, List.length_take]
          show min j ds.length + 1 ≤ _
          omega
        refine ⟨(show 1 ≤ sizeLine by decide), lz _ ?_, lz _ ?_, q _ N' ?_ ?_ (by omega)⟩
        · rw [e1, List.length_take]
          show min j ds.length + 1 ≤ _
          omega
        · rw [e1, e2, List.length_drop]
          omega
        · rw [e1, e2]
          refine te_tup fun d hd => ?_
          rcases List.mem_append.mp hd with h | h
          · rcases List.mem_append.mp h with h | h
            · exact (te1 d (List.mem_of_mem_take h)).up (by omega)
            · rw [List.mem_singleton.mp h]
              exact ty
          · exact (te1 d (List.mem_of_mem_drop h)).up (by omega)
        · rw [e1, e2]
          simp only [PyData.bulk]
          rw [bulk_app, bulk_app]
          have z : PyData.bulkAll [y] = y.bulk + 1 := by simp [PyData.bulkAll]
          rw [z]
          omega
      · refine ⟨⟨N + 1, rfl⟩, rfl, (ds.length : Int) + 1, rfl, by omega, by omega, by omega, fun at_ a0 a1 => ?_⟩
        obtain ⟨j, rfl, hj⟩ := nat_of (n := ds.length + 1) a0 (by omega)
        have e1 : Dl.cutD ds none (some (j : Int)) = ds.take j := cut_to ds j
        have e2 : Dl.cutD ds (some ((j : Int) + 1)) none = ds.drop (j + 1) := cut_from ds (j + 1)
        have e3 : Dl.cutD ds (some (j : Int)) none = ds.drop j := cut_from ds j
        have e4 : Dl.cutD ds (some (j : Int)) (some ((j : Int) + 1)) = (ds.drop j).take 1 := by
          have z : (j : Int) + 1 = ((j + 1 : Nat) : Int) := by omega
          unfold Dl.cutD
          rw [z, HT.sIx_nat, HT.sIx_nat]
          by_cases h : j < ds.length
          · rw [Nat.min_eq_left (by omega), Nat.min_eq_left (by omega), show j + 1 - j = 1 by omega]
          · rw [show min j ds.length = ds.length by omega, List.drop_length, List.drop_of_length_le (by omega), List.take_nil, List.take_nil]
        have b2 := bulk_two ds j
        have s1 : PyData.bulkAll ((ds.drop j).take 1) ≤ PyData.bulkAll (ds.drop j) := bulk_sub (List.take_sublist _ _)
        have s2 : PyData.bulkAll (ds.drop (j + 1)) ≤ PyData.bulkAll (ds.drop j) := bulk_sub (by rw [← List.drop_drop]; exact List.drop_sublist _ _)
        have tk : ∀ d ∈ ds.take j, TE (m1 + 2) d := fun d h => (te1 d (List.mem_of_mem_take h)).up (by omega)
        have dr : ∀ i, ∀ d ∈ ds.drop i, TE (m1 + 2) d := fun i d h => (te1 d (List.mem_of_mem_drop h)).up (by omega)
        have lt : (ds.take j).length ≤ ds.length := by rw [List.length_take]; omega
        have ldr : ∀ i, (ds.drop i).length ≤ ds.length := fun i => by rw [List.length_drop]; omega
        have l1 : ((ds.drop j).take 1).length ≤ 1 := by rw [List.length_take]; omega
        refine ⟨lz _ ?_, lz _ ?_, lz _ ?_, (show 4 ≤ sizeLine by decide), ?_⟩
        · rw [e1, e2]
          have := ldr (j + 1)
          omega
        · rw [e1, e4]
          omega
        · rw [e1, e4, e3, List.length_append]
          have := ldr j
          omega
        refine ⟨⟨N + 1 + 1, rfl⟩, rfl, rfl, by omega, fun o ho => ?_⟩
        have to := odd_te o ho
        refine ⟨(show 1 ≤ sizeLine by decide), lz _ ?_, lz _ ?_, lz _ ?_, (show 2 ≤ sizeLine by decide), (show 4 + 2 ≤ sizeLine by decide), ?_⟩
        · rw [e1]
          show (ds.take j).length + 1 ≤ _
          omega
        · rw [e1, e3, List.length_append]
          show (ds.take j).length + 1 + _ ≤ _
          have := ldr j
          omega
        · omega
        refine ⟨⟨N + 1 + 1 + 1, rfl⟩, rfl, 6, rfl, by decide, by decide, by omega, fun r r0 r1 => ?_⟩
        obtain ⟨L6, eL⟩ : ∃ L : List D, L = [.tuple (Dl.cutD ds none (some (j : Int)) ++ Dl.cutD ds (some ((j : Int) + 1)) none), .tuple (Dl.cutD ds none (some (j : Int)) ++ Dl.cutD ds (some (j : Int)) (some ((j : Int) + 1)) ++ Dl.cutD ds (some (j : Int)) none), .tuple ds.reverse, .list ds] ++ [.tuple (Dl.cutD ds none (some (j : Int)) ++ [o] ++ Dl.cutD ds (some (j : Int)) none), .tuple (ds ++ ds)] := ⟨_, rfl⟩
        obtain ⟨x, e, mx⟩ := at_draw (xs := L6) r0 (by rw [eL]; exact r1)
        rw [eL] at e mx
        have fin : ∀ es : List D, (∀ d ∈ es, TE (m1 + 2) d) → PyData.bulkAll es ≤ 2 * b + 100 → TE (m1 + 1 + 2) (.tuple es) ∧ (PyData.tuple es).bulk ≤ 2 * b + 100 := fun es h1 h2 => ⟨te_tup h1, by simpa only [PyData.bulk] using h2⟩
        have all : TE (m1 + 1 + 2) x ∧ x.bulk ≤ 2 * b + 100 := by
          rw [e1, e2, e3, e4] at mx
          simp only [List.cons_append, List.nil_append, List.mem_cons, List.not_mem_nil, or_false] at mx
          have up : ∀ d ∈ ds, TE (m1 + 2) d := fun d h => (te1 d h).up (by omega)
          rcases mx with rfl | rfl | rfl | rfl | rfl | rfl
          · refine fin _ (fun d h => (List.mem_append.mp h).elim (tk d) (dr _ d)) ?_
            rw [bulk_app]
            omega
          · refine fin _ (fun d h => (List.mem_append.mp h).elim (fun h => (List.mem_append.mp h).elim (tk d) fun h => dr j d (List.mem_of_mem_take h)) (dr _ d)) ?_
            rw [bulk_app, bulk_app]
            omega
          · refine fin _ (fun d h => up d (List.mem_reverse.mp h)) ?_
            rw [bulk_perm (List.reverse_perm ds)]
            omega
          · exact ⟨te_list up, by simp only [PyData.bulk]; omega⟩
          · refine fin _ (fun d h => (List.mem_append.mp h).elim (fun h => (List.mem_append.mp h).elim (tk d) fun h => by rw [List.mem_singleton.mp h]; exact to.1.up (by omega)) (dr _ d)) ?_
            have z : PyData.bulkAll [o] = o.bulk + 1 := by simp [PyData.bulkAll]
            have := to.2
            rw [bulk_app, bulk_app, z]
            omega
          · refine fin _ (fun d h => (List.mem_append.mp h).elim (up d) (up d)) ?_
            rw [bulk_app]
            omega
        exact ⟨x, e, q x _ all.1 all.2 (by omega)⟩
  | _ => exact ⟨⟨_, rfl⟩, rfl, rfl, by omega, fun x hx => odd x hx _ (by omega)⟩
theorem ok_law_bent {Tb : List (Addr × Str)} {l : Bool} (T : Txt K mg) : ∀ n : Nat, FnOk P w K mg base (L2.CX P w) (k + n + 5) T.f_law_bent T.d_law_bent ["d", "thing"] (spM (drF w Tb l) K mg 1 (cBent n)) := by
  have key : ∀ n : Nat, FnOk P w K mg base (L2.CX P w) (k + n + 5) T.f_law_bent T.d_law_bent ["d", "thing"] (spM (drF w Tb false) K mg 1 (cBent n)) := by
    intro n
    induction n with
    | zero => exact bent_step (k := k) T 0 (fun _ _ _ _ => False) (fnOk_no rfl) (fun N t m b kk Ke h => absurd h (by omega))
    | succ n ih =>
      exact bent_step (k := k + n + 1) T (n + 1) (cBent n) (ih.mono (by omega)) (fun N t m b kk Ke h te tb hb hN q => ⟨t, m, b, rfl, by omega, te, tb, hb, by omega, fun x N' h1 h2 h3 => q x N' h1 h2 (by omega)⟩)
  intro n
  cases n with
  | zero => exact bent_step (k := k) T 0 (fun _ _ _ _ => False) (fnOk_no rfl) (fun N t m b kk Ke h => absurd h (by omega))
  | succ n => exact bent_step (k := k + n + 1) T (n + 1) (cBent n) ((key n).mono (by omega)) (fun N t m b kk Ke h te tb hb hN q => ⟨t, m, b, rfl, by omega, te, tb, hb, by omega, fun x N' h1 h2 h3 => q x N' h1 h2 (by omega)⟩)
end
end L2.Pr

set_option Elab.async false
set_option linter.all false
set_option maxRecDepth 100000
set_option maxHeartbeats 8000000
set_option pp.maxSteps 600
/-! k03: the law's own looks, by the program's -/
namespace L2.Pr
open PySem PySem.Spec PyProof.Rows L2.Sl L2.Dl
def wholeB : D → Bool
  | .int _ => true
  | _ => false
def cLWhole : CD := fun ds k _ => ∃ d, ds = [d] ∧ k (bD (wholeB d))
def cLRises : CD := fun ds k _ => ∃ xs, (ds = [.list xs] ∨ ds = [.tuple xs]) ∧ (∀ d ∈ xs, short d) ∧ xs.length ≤ 1000 ∧ k (bD (xs.all isName && risesD xs))
theorem letter_lt {c : Nat} : (!decide ((Str.mk #[c]).cps.toList < (Str.ofString "a").cps.toList) && !decide ((Str.ofString "z").cps.toList < (Str.mk #[c]).cps.toList)) = hit c := by
  have e1 : (Str.ofString "a").cps.toList = [97] := by decide +kernel
  have e2 : (Str.ofString "z").cps.toList = [122] := by decide +kernel
  rw [e1, e2]
  show (!decide ([c] < [97]) && !decide ([122] < [c])) = hit c
  have one : ∀ a b : Nat, ([a] < [b]) ↔ a < b := fun a b => by
    simp [List.cons_lt_cons_iff]
  have h1 : decide ([c] < [97]) = decide (c < 97) := by rw [decide_eq_decide]; exact one c 97
  have h2 : decide ([122] < [c]) = decide (122 < c) := by rw [decide_eq_decide]; exact one 122 c
  rw [h1, h2]
  by_cases l : 97 ≤ c ∧ c ≤ 122
  · have e : ∀ c, c < 123 → 97 ≤ c → hit c = true := by decide +kernel
    rw [e c (by omega) l.1, decide_eq_false (by omega), decide_eq_false (by omega)] <;> rfl
  · have e : hit c = false := by
      cases h : hit c with
      | false => rfl
      | true => exact absurd (hit_letter h) l
    rw [e]
    by_cases l1 : c < 97
    · rw [decide_eq_true l1] <;> rfl
    · rw [decide_eq_true (show 122 < c by omega), Bool.and_comm] <;> rfl
theorem filter_nil {α : Type} (p : α → Bool) : ∀ l : List α, (l.filter p).isEmpty = l.all fun x => !p x
  | [] => rfl
  | x :: l => by
    rw [List.filter_cons, List.all_cons]
    cases h : p x with
    | true => rfl
    | false => exact filter_nil p l
theorem comp_filterD {lv : Option (Nat × List D)} {vs : List Nat} {g : TGd} {tt : TTt} {te : TD} {Γ : Env'} {f : D → D} {p : D → Bool} (hl : lentC lv Γ) (pl : plainE Γ vs = true) (xs : List D) (acc : List D) (k : List D → Env' → Prop) (l : acc.length + xs.length ≤ sizeLine)
    (st : ∀ x ∈ xs, ∀ (Ky : D → Env' → Prop) (Kn : Env' → Prop), (p x = true → Ky (f x) Γ) → (p x = false → Kn Γ) → g x (wipeE Γ vs) fun Γ1 => tt Γ1 (fun b Γ2 => bw b (te Γ2 (fun s Γ3 => match s.d? with
      | some y => Ky y (backE Γ Γ3 vs)
      | none => False) nE) (Kn (backE Γ Γ2 vs))) nE) (h : k (acc ++ (xs.filter p).map f) (unlend lv Γ)) : compD lv vs g tt te xs acc Γ k := by
  have z := comp_filter (e := fun d : D => d) (f := f) hl pl xs acc k l st h
  rwa [List.map_id'] at z
theorem eqvAll_strs : ∀ as bs : List Str, PyData.eqvAll (sD as) (sD bs) = decide (as = bs)
  | [], [] => rfl
  | [], _ :: _ => rfl
  | _ :: _, [] => rfl
  | a :: as, b :: bs => by
    show ((a == b) && PyData.eqvAll (sD as) (sD bs)) = _
    rw [eqvAll_strs as bs, Bool.eq_iff_iff]
    simp
theorem rises_pw : ∀ zs : List Str, risesD (sD zs) = true → zs.Pairwise (fun a b => a.cps.toList < b.cps.toList)
  | [], _ => .nil
  | [x], _ => List.pairwise_singleton _ _
  | x :: y :: r, h => by
    have h : (ltD (.str x) (.str y) && risesD (sD (y :: r))) = true := h
    rw [Bool.and_eq_true] at h
    have ih := rises_pw (y :: r) h.2
    have xy : x.cps.toList < y.cps.toList := of_decide_eq_true h.1
    refine List.pairwise_cons.mpr ⟨fun z hz => ?_, ih⟩
    rcases List.mem_cons.mp hz with rfl | hz
    · exact xy
    · exact List.lt_trans xy ((List.pairwise_cons.mp ih).1 z hz)
theorem pw_nodup {zs : List Str} (h : zs.Pairwise (fun a b => a.cps.toList < b.cps.toList)) : zs.Nodup := h.imp fun {a b} l e => by
  subst e
  exact List.lt_irrefl _ l
theorem rises_set {zs ys : List Str} (hy : ∀ x, x ∈ ys ↔ x ∈ zs) (nd : ys.Nodup) (so : sortedS ys = true) : decide (zs = ys) = risesD (sD zs) := by
  rw [Bool.eq_iff_iff, decide_eq_true_eq]
  constructor
  · rintro rfl
    exact rises_sorted so nd
  · intro h
    have p1 := rises_pw zs h
    have p2 := rises_pw ys (rises_sorted so nd)
    exact List.Perm.eq_of_pairwise (fun a b _ _ l1 l2 => absurd (List.lt_trans l1 l2) (List.lt_irrefl _)) p1 p2 ((List.perm_ext_iff_of_nodup (pw_nodup p1) nd).mpr fun x => (hy x).symm)
theorem told_name {z : Str} (h : okN z) : Told 0 8 (.str z) := told_str (fun c hc => by
  have := h.2.2 c hc
  unfold letter at this
  exact Nat.lt_of_lt_of_le (show c < 1000 by omega) (by decide)) h.2.1
theorem fits_names {zs : List Str} (h : ∀ z ∈ zs, okN z) : fits (.list (sD zs)) = true := told_fits (n := 1) (b := zs.length * 9) (told_list (n := 0) (b := 8) (m := zs.length) (fun d hd => by
  obtain ⟨z, hz, rfl⟩ := List.mem_map.mp hd
  exact told_name (h z hz)) (by rw [sD, List.length_map]; exact Nat.le_refl _)) (by decide)
theorem names_of : ∀ {xs : List D}, xs.all isName = true → ∃ zs : List Str, xs = sD zs ∧ ∀ z ∈ zs, okN z
  | [], _ => ⟨[], rfl, fun _ h => nomatch h⟩
  | x :: xs, h => by
    rw [List.all_cons, Bool.and_eq_true] at h
    obtain ⟨zs, rfl, hz⟩ := names_of h.2
    cases x with
    | str z => exact ⟨z :: zs, rfl, fun y hy => (List.mem_cons.mp hy).elim (fun e => by rw [e]; exact name_okN h.1) (hz y)⟩
    | _ => exact absurd h.1 (by simp [isName])
section
variable {P : Program} {w : World} {K : PySem.W.Frag} {mg : Str → Option Value} {base : Heap} {k : Nat}
theorem ok_law_is_row (T : Txt K mg) : FnOk P w K mg base (L2.CX P w) (k + 1) T.f_law_is_row T.d_law_is_row ["thing", "least", "most"] (spD K mg 3 cRow) := by
  refine okD (fam := noFam w) T.F_law_is_row sc_law_is_row (by decide) (fun cdv A outer s H E hr tk =>
    (pds_one (pd_ret (pd_and (pd_isi (by decide) (by rfl) T.n_isinstance (pe_bltn (v := .ty "tuple") (by rfl) T.n_tuple (by decide +kernel) rfl) (pb_var (pv 0))) (pd_one (pd_chain do_le do_le (pb_var (pv 1)) (pb_of (pd_callB dc_len (by rfl) T.n_len (by decide +kernel) (pb_var (pv 0)))) (pb_var (pv 2)))))))) (fun ds Kd Ke l h => ?_)
  obtain ⟨d, lo, hi, rfl, q⟩ := h
  cases d with
  | tuple i => exact bw_and (k := Kd) q
  | _ => exact q
theorem ok_law_is_whole (T : Txt K mg) : FnOk P w K mg base (L2.CX P w) (k + 1) T.f_law_is_whole T.d_law_is_whole ["thing"] (spD K mg 1 cLWhole) := by
  refine okD (fam := noFam w) T.F_law_is_whole sc_law_is_whole (by decide) (fun cdv A outer s H E hr tk =>
    (pds_one (pd_ret (pd_and (pd_isi (by decide) (by rfl) T.n_isinstance (pe_bltn (v := .ty "int") (by rfl) T.n_int (by decide +kernel) rfl) (pb_var (pv 0))) (pd_one (pd_not (pd_isi (by decide) (by rfl) T.n_isinstance (pe_bltn (v := .ty "bool") (by rfl) T.n_bool (by decide +kernel) rfl) (pb_var (pv 0))))))))) (fun ds Kd Ke l h => ?_)
  obtain ⟨d, rfl, q⟩ := h
  cases d <;> exact q
theorem ok_law_is_name (T : Txt K mg) : FnOk P w K mg base (L2.CX P w) (k + 1) T.f_law_is_name T.d_law_is_name ["thing"] (spD K mg 1 cName) := by
  refine okD (fam := noFam w) T.F_law_is_name sc_law_is_name (by decide) (fun cdv A outer s H E hr tk =>
    (pds_cons (pd_if (PWt.pt (pwt_or (pt_notD (pt_valD (pd_isi (by decide) (by rfl) T.n_isinstance (pe_bltn (v := .ty "str") (by rfl) T.n_str (by decide +kernel) rfl) (pb_var (pv 0))))) (pwt_or1 (pt_notD (pt_chainD do_le do_le (pb_of pd_int) (pb_of (pd_callB dc_len (by rfl) T.n_len (by decide +kernel) (pb_var (pv 0)))) (pb_of pd_int))))))
        (pds_one (pd_ret pd_bl))
        pds_nil)
      (pds_one (pd_ret (pd_cmp (do_eqNil hr.units) (pb_of (pd_lc (by rfl) sc_law_is_name.nd (pit_seq (pb_var (pv 0))) (blkOk_by (own := [("sign", 1)]) (N := N_law_is_name) (sc := defScope s_law_is_name) (by decide +kernel)) (fun _ _ _ _ _ => (pgt_name (pg_name (i := 1) sc_law_is_name.nd rfl (.inl rfl)))) (fun _ _ _ _ _ => (ptd_one (pt_notD (pt_chainD do_le do_le (pb_of pd_str) (pb_var (pv 1)) (pb_of pd_str))))) (fun _ _ _ _ _ => (pd_var (pv 1))))) (pb_of (pd_lst par_nil)) (nomark _)))))) (fun ds Kd Ke l h => ?_)
  obtain ⟨d, rfl, sh, q⟩ := h
  cases d with
  | str z =>
    refine ⟨sh, ?_⟩
    refine bw_dec (fun h1 => ?_) (fun h1 => ?_)
    · refine bw_of (b := !decide ((z.length : Int) ≤ 8)) (fun h2 => ?_) (fun h2 => ?_)
      · have e : isName (.str z) = false := by
          have n : ¬ z.length ≤ 8 := by
            have := of_decide_eq_false (Bool.not_eq_true' _ ▸ h2)
            omega
          show ((decide (1 ≤ z.length) && decide (z.length ≤ 8)) && _) = false
          rw [decide_eq_false n, Bool.and_false, Bool.false_and]
        rw [e] at q
        exact q
      · have n : z.length ≤ 8 := by
          have := of_decide_eq_true (Bool.not_eq_false' _ ▸ h2)
          omega
        have o : 1 ≤ z.length := by omega
        have e : isName (.str z) = z.cps.toList.all hit := by
          show ((decide (1 ≤ z.length) && decide (z.length ≤ 8)) && _) = _
          rw [decide_eq_true n, decide_eq_true o]
          rfl
        rw [e] at q
        refine comp_filter (lv := none) (e := fun c : Nat => PyData.str ⟨#[c]⟩) (f := fun c : Nat => PyData.str ⟨#[c]⟩) (p := fun c => !hit c) True.intro (by rfl) z.cps.toList [] _ ?_ (fun c hc Ky Kn y1 y2 => ?_) ?_
        · exact Nat.le_trans (show 0 + z.cps.toList.length ≤ 8 by rw [Nat.zero_add, Array.length_toList]; exact n) (by decide)
        · have ll := letter_lt (c := c)
          refine bw_of (b := !decide ((Str.mk #[c]).cps.toList < (Str.ofString "a").cps.toList)) (fun h1 => ?_) (fun h1 => ?_)
          · refine bw_of (b := !(!decide ((Str.ofString "z").cps.toList < (Str.mk #[c]).cps.toList))) (fun h2 => y1 ?_) (fun h2 => y2 ?_)
            · rw [← ll, h1, Bool.true_and]
              exact h2
            · rw [← ll, h1, Bool.true_and]
              exact h2
          · refine y1 ?_
            rw [← ll, h1] <;> rfl
        · refine ⟨(show 0 ≤ sizeLine by decide), ?_⟩
          show Kd (bD (id (List.isEmpty ([] ++ (z.cps.toList.filter fun c => !hit c).map fun c : Nat => PyData.str ⟨#[c]⟩))))
          rw [List.nil_append, List.isEmpty_map, filter_nil]
          simp only [Bool.not_not, id]
          exact q
    · have e : isName (.str z) = false := by
        have n : ¬ 1 ≤ z.length := by omega
        show ((decide (1 ≤ z.length) && decide (z.length ≤ 8)) && _) = false
        rw [decide_eq_false n, Bool.false_and, Bool.false_and]
      rw [e] at q
      exact q
  | _ => exact q
theorem ok_law_rises (T : Txt K mg) : FnOk P w K mg base (L2.CX P w) (k + 2) T.f_law_rises T.d_law_rises ["names"] (spD K mg 1 cLRises) := by
  refine okD (fam := noFam w) T.F_law_rises sc_law_rises (by decide) (fun cdv A outer s H E hr tk =>
    (pds_cons (pd_if (pt_cmpD (do_neNil hr.units) (pb_of (pd_lc (by rfl) sc_law_rises.nd (pit_seq (pb_var (pv 0))) (blkOk_by (own := [("name", 1)]) (N := N_law_rises) (sc := defScope s_law_rises) (by decide +kernel)) (fun _ _ _ _ _ => (pgt_name (pg_name (i := 1) sc_law_rises.nd rfl (.inl rfl)))) (fun _ _ _ _ _ => (ptd_one (pt_notD (pt_valD (pd_call (ok_law_is_name T) hr (by rfl) T.g_law_is_name T.F_law_is_name.kp T.b_law_is_name passL (par_cons (pd_var (pv 1)) par_nil)))))) (fun _ _ _ _ _ => (pd_var (pv 1))))) (pb_of (pd_lst par_nil)) (nomark _))
        (pds_one (pd_ret pd_bl))
        pds_nil)
      (pds_one (pd_ret (pd_cmp (do_eq hr.units) (pb_of (pd_callTy dc_list (by rfl) T.n_list (by decide +kernel) (pb_var (pv 0)))) (pb_of (pd_sortSet rfl (by rfl) T.n_sorted (by rfl) T.n_set (pb_var (pv 0)))) (nomark _)))))) (fun ds Kd Ke l h => ?_)
  obtain ⟨xs, hd, sh, lx, q⟩ := h
  have lz : 0 + xs.length ≤ sizeLine := Nat.le_trans (show 0 + xs.length ≤ 1000 by omega) (by decide)
  rcases hd with rfl | rfl
  all_goals
    refine comp_filterD (lv := none) (f := fun d => d) (p := fun d => !isName d) True.intro (by rfl) xs [] _ lz (fun x hx Ky Kn y1 y2 => ?_) ?_
    · exact ⟨rfl, x, rfl, sh x hx, bw_of (b := !isName x) y1 y2⟩
    · have e0 : (List.isEmpty ([] ++ (xs.filter fun d => !isName d).map fun d : D => d)) = xs.all isName := by
        rw [List.nil_append, List.isEmpty_map, filter_nil]
        simp only [Bool.not_not]
      refine ⟨(show 0 ≤ sizeLine by decide), ?_⟩
      refine bw_of (b := !(List.isEmpty ([] ++ (xs.filter fun d => !isName d).map fun d : D => d))) (fun h1 => ?_) (fun h1 => ?_)
      · rw [e0, Bool.not_eq_true'] at h1
        rw [h1, Bool.false_and] at q
        exact q
      · rw [e0, Bool.not_eq_false'] at h1
        rw [h1, Bool.true_and] at q
        obtain ⟨zs, rfl, hz⟩ := names_of h1
        have l4 : zs.length < 4000 := by
          rw [sD, List.length_map] at lx
          omega
        refine ⟨zs, (by first | exact .inl rfl | exact .inr rfl), l4, fun ys hy nd so => ?_⟩
        have hz2 : ∀ z ∈ ys, okN z := fun z m => hz z ((hy z).mp m)
        refine ⟨fits_names hz, fits_names hz2, ?_⟩
        have e : PyData.eqv (.list (sD zs)) (.list (sD ys)) = risesD (sD zs) := (eqvAll_strs zs ys).trans (rises_set hy nd so)
        show Kd (bD (PyData.eqv (.list (sD zs)) (.list (sD ys))))
        rw [e]
        exact q
end
end L2.Pr

set_option Elab.async false
set_option linter.all false
set_option maxRecDepth 100000
set_option maxHeartbeats 8000000
set_option pp.maxSteps 600
/-! k03: what _law_said makes of a deed -/
namespace L2.Pr
open PySem PySem.Spec PyProof.Rows L2.Sl L2.Dl
section
variable {K : PySem.W.Frag} {mg : Str → Option Value}
/-- what the classes say of BadGear -/
structure SaidKit (T : Txt K mg) where
  cR : Addr
  cB : Addr
  cY : Addr
  gR : mg "Refused" = some (.ref cR)
  gB : mg "Barred" = some (.ref cB)
  gY : mg "Beyond" = some (.ref cY)
  xg : ExR K T.c_BadGear
  fg : PySem.W.exmAny K (.ref T.c_BadGear) [.ref cR, .ref cB, .ref cY] = some true
  g8 : PySem.W.kitAny K (.ref T.c_BadGear) [.ref T.c_BadArrays, .ref T.c_BadDeed, .ref T.c_BadDefinition, .ref T.c_BadLine, .ref T.c_BadName, .ref T.c_BadNumber, .ref T.c_BadPlan, .ref T.c_BadSizes] = some false
  g5 : PySem.W.kitAny K (.ref T.c_BadGear) [.ref T.c_BadStep, .ref T.c_BadSum, .ref T.c_BadTerm, .ref cB, .ref cY] = some false
  gg : PySem.W.kitOne K (.ref T.c_BadGear) (.ref T.c_BadGear) = some true
  gv : PySem.W.kitOne K (.ref T.c_BadGear) (.type "ValueError") = some true
def EEsaid (T : Txt K mg) (Q : VK) : XK := fun cls d H2 => ∃ dd fs, d = some dd ∧ H2 dd = some (.xd fs) ∧ cls = .ref T.c_BadGear ∧ ∀ H3, Same H2 H3 → Q (.str "gear") H3
def TTsaid (T : Txt K mg) : (XK → Hp → VK → Prop) → Hp → VK → Prop := fun tl H Q => ∀ S : Prop, S → ∀ H1, Same H H1 → tl (EEsaid T Q) H1 (fun v H2 => S ∧ ∀ p, H2 p = none → Q (.ref p) (upd H2 p (.lst [v])))
end
def moreR (tl : XK → Hp → VK → Prop) (Ech : XK) (f c' : Addr) (q : Str) : L2.TE := fun σ H Q => ∃ R : VK, σ[0]? = some (some (.ref f)) ∧ H c' = some (LamX.CodeO c' q) ∧ tl Ech H R ∧ ∀ v H2, R v H2 → Q v H2
theorem said_gives {X : Cx} {k : Nat} {g : Addr} {cdg : Value} {q : Str} (T : Txt X.K X.mg) (sk : SaidKit T) (hgu : X.A.guards = some []) (hr : ∀ env, Room k (X.A.deeper env)) :
    LamX.GivesTo X N_law_said "_law_said" (defScope s_law_said) g cdg (defBody s_law_said) "deed" q (TTsaid T) := by
  intro f c' s H Q tl act hc h
  refine ⟨_, (pss_cons (ps_asg (pe_tup (pa_cons pe_non (pa_cons pe_non pa_nil))) (pg_tup rfl (pgs_cons (pg_name (i := 1) sc_law_said.nd rfl (.inl rfl)) (pgs_cons (pg_name (i := 2) sc_law_said.nd rfl (.inl rfl)) pgs_nil))))
      (pss_cons (ps_try_keep3c (X := (cxOf C8.CX0 X.prog X.w X.K X.mg X.base N_law_said "_law_said" (defScope s_law_said) g cdg X.A X.stack s H C8.E0).nox) (c1 := .ref sk.cR) (c2 := .ref sk.cB) (c3 := .ref sk.cY) (i := 3) (Wout := fun _ _ _ _ => False) (ts := fun _ _ _ => tAsg (tVar 3) (gName 1))
          (tb := fun W D σ H => ∃ Ech : XK, (∀ cls d σ' H', Ech cls d H' → W cls d σ' H') ∧ tAsg (tLst (tCons (moreR tl Ech f c' q) tNil)) (gName 2) D σ H)
          rfl rfl sc_law_said.nd rfl LamX.takes0 (fun W pn xe tk _ => ?_) ⟨rfl, by decide, .inl sk.gR⟩ ⟨rfl, by decide, .inl sk.gB⟩ ⟨rfl, by decide, .inl sk.gY⟩ rfl rfl (fun a oe cls d pn _ _ => pss_one (ps_set (i := 1) sc_law_said.nd rfl (.inl rfl) (pv 3))))
      (pss_cons (ps_if (pt_cmpR op_isN (pv 1) pe_non (nomark _))
        (pss_one (ps_ret (pv 2)))
        pss_nil)
      (pss_cons (ps_set (i := 4) sc_law_said.nd rfl (.inl rfl) (pe_callB call_isHT (by rfl) T.n_isinstance (by decide +kernel) (pa_cons (pv 1) (pa_cons (pe_tup (pa_cons (pe_glob (v := .ref T.c_BadArrays) rfl T.g_BadArrays rfl) (pa_cons (pe_glob (v := .ref T.c_BadDeed) rfl T.g_BadDeed rfl) (pa_cons (pe_glob (v := .ref T.c_BadDefinition) rfl T.g_BadDefinition rfl) (pa_cons (pe_glob (v := .ref T.c_BadLine) rfl T.g_BadLine rfl) (pa_cons (pe_glob (v := .ref T.c_BadName) rfl T.g_BadName rfl) (pa_cons (pe_glob (v := .ref T.c_BadNumber) rfl T.g_BadNumber rfl) (pa_cons (pe_glob (v := .ref T.c_BadPlan) rfl T.g_BadPlan rfl) (pa_cons (pe_glob (v := .ref T.c_BadSizes) rfl T.g_BadSizes rfl) pa_nil))))))))) pa_nil))))
      (pss_cons (ps_set (i := 4) sc_law_said.nd rfl (.inl rfl) (pe_or (pv 4) (pe_one (pe_callB call_isHT (by rfl) T.n_isinstance (by decide +kernel) (pa_cons (pv 1) (pa_cons (pe_tup (pa_cons (pe_glob (v := .ref T.c_BadStep) rfl T.g_BadStep rfl) (pa_cons (pe_glob (v := .ref T.c_BadSum) rfl T.g_BadSum rfl) (pa_cons (pe_glob (v := .ref T.c_BadTerm) rfl T.g_BadTerm rfl) (pa_cons (pe_glob (v := .ref sk.cB) rfl sk.gB rfl) (pa_cons (pe_glob (v := .ref sk.cY) rfl sk.gY rfl) pa_nil)))))) pa_nil))))))
      (pss_one (ps_ret (pe_ifExp (PW.pt (pw_and (pt_val (pe_callB call_isH (by rfl) T.n_isinstance (by decide +kernel) (pa_cons (pv 1) (pa_cons (pe_glob (v := .ref T.c_BadGear) rfl T.g_BadGear rfl) pa_nil)))) (pw_and (pt_val (pe_callB call_isH (by rfl) T.n_isinstance (by decide +kernel) (pa_cons (pv 1) (pa_cons (pe_bltn (v := .ty "ValueError") (by rfl) T.n_ValueError (by decide +kernel) rfl) pa_nil)))) (pw_and1 (pt_not (pt_val (pv 4))))))) pe_str pe_str)))))))), ?_⟩
  · refine ⟨fun pins s2 σ2 H2 D I hw => ?_⟩
    obtain ⟨Ech, hW, e⟩ := hw
    refine (pss_one (ps_set (i := 2) sc_law_said.nd rfl (.inl rfl) (pe_lst (pa_cons (te := moreR tl Ech f c' q) ⟨fun pins s σ H Q I ⟨R, e1, e2, e3, m⟩ => ?_⟩ pa_nil)))).run pins s2 σ2 H2 D I e
    exact wpAny_mono ((act W pn xe Ech _ _ tk hW).run pins s σ H R I ⟨e1, e2, e3⟩) (fun u s1 ⟨v, H1, I1, r, q⟩ => ⟨v, H1, I1, r, m v H1 q⟩) fun _ _ z => z
  · refine ⟨by decide, fun p np => ⟨p, _, rfl, SqT.of upd_same, rfl, ?_⟩⟩
    have S1 : Same H (upd H p (.tup [.non, .non])) := fun a o e => by
      rw [upd_ne (ne_of_none e np)]
      exact e
    refine ⟨_, _, rfl, _, _, rfl, rfl, EEsaid T Q, fun cls d σ2 H2 hx => ?_, _, rfl, S1 _ _ hc, h True True.intro _ S1, fun v H2 ⟨_, m⟩ => ⟨(show 1 ≤ sizeLine by decide), fun z nz => ?_⟩⟩
    · obtain ⟨dd, fs, rfl, ed, rfl, fin⟩ := hx
      intro hl
      match σ2, hl with
      | [y0, y1, y2, y3, y4], _ =>
        have up : ∀ (G : Hp) (p : Addr) (o : HO), G p = none → Same G (upd G p o) := fun G p o n b x e => by
          rw [upd_ne (ne_of_none e n)]
          exact e
        refine ⟨true, sk.fg, fun _ a na => ⟨_, rfl, fun nn => ?_⟩, fun z => nomatch z⟩
        have sa := up H2 a (exH (.ref T.c_BadGear) (some dd) a) na
        have ea : ∀ G, Same (upd H2 a (exH (.ref T.c_BadGear) (some dd) a)) G → G a = some (exH (.ref T.c_BadGear) (some dd) a) := fun G z => z _ _ upd_same
        have ed2 : ∀ G, Same (upd H2 a (exH (.ref T.c_BadGear) (some dd) a)) G → G dd = some (.xd fs) := fun G z => z _ _ (sa _ _ ed)
        refine ⟨_, rfl, rfl, _, rfl, ite2 (fun z => absurd (of_decide_eq_true z) (by intro z2; cases z2)) (fun _ => ?_)⟩
        refine ⟨_, rfl, (show 8 ≤ sizeLine by decide), fun p1 n1 => ?_⟩
        have s1 := up _ p1 (.tup [.ref T.c_BadArrays, .ref T.c_BadDeed, .ref T.c_BadDefinition, .ref T.c_BadLine, .ref T.c_BadName, .ref T.c_BadNumber, .ref T.c_BadPlan, .ref T.c_BadSizes]) n1
        refine ⟨a, _, dd, p1, fs, _, _, false, rfl, ea _ s1, ed2 _ s1, sk.xg, upd_same, (by repeat (first | exact .nil | refine .cons (.own _) ?_)), sk.g8, ?_⟩
        refine ⟨_, rfl, false, rfl, iteF ⟨_, rfl, (show 5 ≤ sizeLine by decide), fun p2 n2 => ?_⟩⟩
        have s2 := s1.trans (up _ p2 (.tup [.ref T.c_BadStep, .ref T.c_BadSum, .ref T.c_BadTerm, .ref sk.cB, .ref sk.cY]) n2)
        refine ⟨a, _, dd, p2, fs, _, _, false, rfl, ea _ s2, ed2 _ s2, sk.xg, upd_same, (by repeat (first | exact .nil | refine .cons (.own _) ?_)), sk.g5, ?_⟩
        refine ⟨_, rfl, a, _, dd, fs, _, _, true, rfl, ea _ s2, ed2 _ s2, sk.xg, .own _, sk.gg, true, rfl, iteT ?_⟩
        refine ⟨_, rfl, a, _, dd, fs, _, _, true, rfl, ea _ s2, ed2 _ s2, sk.xg, .ty _, sk.gv, true, rfl, iteT ⟨_, rfl, false, rfl, iteT ?_⟩⟩
        exact fin _ (sa.trans s2)
    · exact ⟨_, rfl, rfl, _, rfl, iteT ⟨_, rfl, m z nz⟩⟩
def tellN (d : D) : Dl.Slot := .own (.list [d])
open Classical in
noncomputable def tellX (c : Str) (fs : List (Str × D)) : Option Dl.Slot := if c = Str.ofString "BadGear" then some (.imm (.str "gear")) else none
theorem said_ok {K : PySem.W.Frag} {mg : Str → Option Value} (T : Txt K mg) : SaidOk2 K mg (TTsaid T) tellN tellX := by
  intro tl H F N Xc Q SF ft hR post some_ S hS H1 S1
  refine hR H1 S1 (EEsaid T Q) _ (fun v H2 F2 d n S2 S3 S4 ft2 nw dq => ⟨hS, fun p np => ?_⟩) ?_
  · have su : Same H2 (upd H2 p (.lst [v])) := fun b x e => by
      rw [upd_ne (ne_of_none e np)]
      exact e
    have fp : F2 p = none := by
      cases e : F2 p with
      | none => rfl
      | some o =>
        have := S4 _ _ e
        rw [np] at this
        cases this
    have hp : H p = none := by
      cases e : H p with
      | none => rfl
      | some o =>
        have := S2 _ _ (S1 _ _ e)
        rw [np] at this
        cases this
    refine post _ _ _ F2 (.inl ⟨d, n, rfl⟩) ((S1.trans S2).trans su) S3 (S4.trans su) ft2 (fun a o e => (nw a o e).imp id fun z => ?_) ?_
    · cases e2 : H a with
      | none => rfl
      | some x =>
        have := S1 _ _ e2
        rw [z] at this
        cases this
    · exact ⟨p, rfl, hp, fp, [v], upd_same, .cons dq .nil⟩
  · intro c fs C dd H' F' zs k hm ed fr S4 ft2 keep nw
    have SH : Same H H' := fun a o e => keep a o (S1 _ _ e) (by simp)
    have is := some_ c fs k
    refine ⟨dd, zs, rfl, ed, ?_⟩
    unfold tellX at is
    split at is
    · rename_i e
      subst e
      have hm2 := T.g_BadGear
      rw [show mg (Str.ofString "BadGear") = mg "BadGear" from rfl, hm2] at hm
      cases hm
      refine ⟨rfl, fun H3 S3 => post (.imm (.str "gear")) _ H3 F (.inr ⟨_, fs, k, by unfold tellX; rw [if_pos rfl]⟩) (SH.trans S3) (Same.refl _) (SF.trans (SH.trans S3)) ft (fun a o e => .inl e) (show Dq K F _ _ from .str _)⟩
    · cases is
theorem gear_ke {Kd : Dl.Slot → Prop} (h : Kd (.imm (.str "gear"))) : bad (fun c fs => match tellX c fs with
    | some s => Kd s
    | none => False) := by
  intro why
  have e : tellX "BadGear" [("why", .str why)] = some (.imm (.str "gear")) := by
    unfold tellX
    rw [if_pos rfl]
  show (match tellX "BadGear" [("why", .str why)] with
    | some s => Kd s
    | none => False)
  rw [e]
  exact h
end L2.Pr

set_option Elab.async false
set_option linter.all false
set_option maxRecDepth 100000
set_option maxHeartbeats 8000000
set_option pp.maxSteps 600
/-! k03: the law's own looks at moves, boxes, gears -/
namespace L2.Pr
open PySem PySem.Spec PyProof.Rows L2.Sl L2.Dl
def cLMove : CD := fun ds k _ => ∃ (sp ks : List D) (d : D), ds = [.tuple ks, d] ∧ ks.length ≤ 4 ∧ (∀ d ∈ ks, isSlot sp d = true) ∧ k (bD (isMove ks.length d && keeps ks d))
def cLBox : CD := fun ds k _ => ∃ (sp : List D) (d : D), ds = [.tuple sp, d] ∧ sp.all isName = true ∧ smal d = true ∧ k (bD (isBox sp d))
def cLGear : CD := fun ds k _ => ∃ d, ds = [d] ∧ smal d = true ∧ k (bD (isGear d))
theorem for_invD {g : TGd} {b : TDS} {DD : EndsD} (Inv : Nat → Env' → Prop) (xs : List D) (i : Nat) (Γ : Env')
    (st : ∀ (j : Nat) (x : D) (Γ : Env'), xs[j]? = some x → Inv (i + j) Γ → ∀ nx : Env' → Prop, (∀ Γ', Inv (i + j + 1) Γ' → nx Γ') → g x Γ fun Γ1 => b { nx := nx, rt := DD.rt, ct := nx, bk := DD.nx, er := DD.er } Γ1)
    (fin : ∀ Γ, Inv (i + xs.length) Γ → DD.nx Γ) (h : Inv i Γ) : forD g b DD xs Γ := by
  have z := for_inv (e := fun d : D => d) Inv xs i Γ st fin h
  rwa [List.map_id'] at z
theorem all_take {p : D → Bool} {ks : List D} {j : Nat} {x : D} (e : ks[j]? = some x) (h : ∀ d ∈ ks.take j, p d = true) (hx : p x = true) : ∀ d ∈ ks.take (j + 1), p d = true := fun d hd => by
  rw [List.take_succ, e, Option.toList_some] at hd
  rcases List.mem_append.mp hd with h1 | h1
  · exact h d h1
  · rw [List.mem_singleton.mp h1]
    exact hx
theorem all_and {p r : D → Bool} : ∀ ms : List D, (ms.all fun d => p d && r d) = (ms.all p && ms.all r)
  | [] => rfl
  | m :: ms => by
    simp only [List.all_cons, all_and ms]
    cases p m <;> cases r m <;> cases ms.all p <;> cases ms.all r <;> rfl
theorem not_all {p : D → Bool} {ks : List D} {x : D} (m : x ∈ ks) (hx : p x = false) : ks.all p = false := by
  cases e : ks.all p with
  | false => rfl
  | true =>
    rw [List.all_eq_true.mp e x m] at hx
    cases hx
theorem in_name {sp : List D} (hs : sp.all isName = true) {z : Str} (h : (sp.any fun y => eqS y (.str z)) = true) : isName (.str z) = true := by
  obtain ⟨y, hy, e⟩ := List.any_eq_true.mp h
  have n := List.all_eq_true.mp hs y hy
  cases y with
  | str u =>
    have e : decide (u = z) = true := e
    rw [← of_decide_eq_true e]
    exact n
  | _ => cases e
theorem isSlot_2 {sp : List D} (hs : sp.all isName = true) {z u : Str} : isSlot sp (.tuple [.str z, .str u]) = ((sp.any fun y => eqS y (.str z)) && (sidesD.any fun y => eqS y (.str u))) := by
  show (isName (.str z) && ((sp.any fun y => eqS y (.str z)) && (decide (tyD (.str u) = "str") && sidesD.any fun y => eqS y (.str u)))) = _
  rw [show decide (tyD (.str u) = "str") = true from rfl, Bool.true_and]
  cases e : sp.any fun y => eqS y (.str z) with
  | true => rw [in_name hs e, Bool.true_and]
  | false => rw [Bool.false_and, Bool.and_false]
theorem isSlot_a {sp : List D} {a b : D} (h : tyD a ≠ "str") : isSlot sp (.tuple [a, b]) = false := by
  cases a <;> first | rfl | exact absurd rfl h
theorem isSlot_b {sp : List D} {a b : D} (h : tyD b ≠ "str") : isSlot sp (.tuple [a, b]) = false := by
  show (isName a && ((sp.any fun y => eqS y a) && (decide (tyD b = "str") && _))) = false
  rw [decide_eq_false h]
  simp
theorem sc_names {sp : List D} (hs : sp.all isName = true) : sp.all scD = true := List.all_eq_true.mpr fun x hx => by
  have := List.all_eq_true.mp hs x hx
  cases x <;> first | rfl | cases this
theorem fits_lt {ks : List D} (h : fits (.tuple ks) = true) : fits (.list ks) = true := by
  unfold fits SeqAt.shaped at h ⊢
  simpa [flat, PyData.canLay0, PyData.depth] using h
theorem whole_ints : ∀ {os : List D}, os.all wholeB = true → ∃ ns : List Int, os = ns.map PyData.int
  | [], _ => ⟨[], rfl⟩
  | o :: os, h => by
    rw [List.all_cons, Bool.and_eq_true] at h
    obtain ⟨ns, rfl⟩ := whole_ints h.2
    cases o with
    | int i => exact ⟨i :: ns, rfl⟩
    | _ => exact absurd h.1 (by simp [wholeB])
theorem not_whole {os : List D} {lo hi : Int} (h : os.all wholeB = false) : os.all (isWhole lo hi) = false := by
  cases e : os.all (isWhole lo hi) with
  | false => rfl
  | true =>
    have z : os.all wholeB = true := List.all_eq_true.mpr fun x hx => by
      have := List.all_eq_true.mp e x hx
      cases x <;> first | rfl | cases this
    rw [h] at z
    cases z
theorem range_in {n : Nat} {ns : List Int} (h : srtI ns = (List.range n).map fun k : Nat => (0 : Int) + (k : Int)) : ∀ i ∈ ns, 0 ≤ i ∧ i < n := fun i hi => by
  have m : i ∈ srtI ns := (List.mergeSort_perm ns _).mem_iff.mpr hi
  rw [h] at m
  obtain ⟨k, hk, rfl⟩ := List.mem_map.mp m
  have := List.mem_range.mp hk
  omega
section
variable {P : Program} {w : World} {K : PySem.W.Frag} {mg : Str → Option Value} {base : Heap} {k : Nat}
theorem ok_law_is_move (T : Txt K mg) : FnOk P w K mg base (L2.CX P w) (k + 2) T.f_law_is_move T.d_law_is_move ["held", "thing"] (spD K mg 2 cLMove) := by
  refine okD (fam := noFam w) T.F_law_is_move sc_law_is_move (by decide) (fun cdv A outer s H E hr tk =>
    (pds_cons (pd_if (PWt.pt (pwt_or (pt_notD (pt_valD (pd_call (ok_law_is_row T) hr (by rfl) T.g_law_is_row T.F_law_is_row.kp T.b_law_is_row (passD tk) (par_cons (pd_var (pv 1)) (par_cons pd_int (par_cons pd_int par_nil)))))) (pwt_or1 (pt_notD (pt_valD (pd_call (ok_law_is_row T) hr (by rfl) T.g_law_is_row T.F_law_is_row.kp T.b_law_is_row (passD tk) (par_cons (pd_ix (pb_var (pv 1)) (pb_of pd_int) (fun _ _ => rfl)) (par_cons (pd_callB dc_len (by rfl) T.n_len (by decide +kernel) (pb_var (pv 0))) (par_cons (pd_callB dc_len (by rfl) T.n_len (by decide +kernel) (pb_var (pv 0))) par_nil)))))))))
        (pds_one (pd_ret pd_bl))
        pds_nil)
      (pds_cons (pd_if (PWt.pt (pwt_or (pt_cmpD (do_neNil hr.units) (pb_of (pd_lc (by rfl) sc_law_is_move.nd (pit_seq (pb_of (pd_op do_add (pb_of (pd_ix (pb_var (pv 1)) (pb_of pd_int) (fun _ _ => rfl))) (pb_of (pd_slice (pb_var (pv 1)) (pot_some pd_int) pot_none))))) (blkOk_by (own := [("k", 2)]) (N := N_law_is_move) (sc := defScope s_law_is_move) (by decide +kernel)) (fun _ _ _ _ _ => (pgt_name (pg_name (i := 2) sc_law_is_move.nd rfl (.inl rfl)))) (fun _ _ _ _ _ => (ptd_one (pt_notD (pt_valD (pd_call (ok_law_is_whole T) hr (by rfl) T.g_law_is_whole T.F_law_is_whole.kp T.b_law_is_whole passL (par_cons (pd_var (pv 2)) par_nil)))))) (fun _ _ _ _ _ => (pd_var (pv 2))))) (pb_of (pd_lst par_nil)) (nomark _)) (pwt_or1 (pt_cmpD do_notInF (pb_of (pd_ix (pb_var (pv 1)) (pb_of pd_int) (fun _ _ => rfl))) (pb_of (pd_tup (par_cons pd_int (par_cons (pd_neg pd_int) par_nil)))) (by with_unfolding_all rfl)))))
        (pds_one (pd_ret pd_bl))
        pds_nil)
      (pds_cons (pd_if (pt_cmpD (do_ne hr.units) (pb_of (pd_callB dc_sortedT (by rfl) T.n_sorted (by decide +kernel) (pb_of (pd_ix (pb_var (pv 1)) (pb_of pd_int) (fun _ _ => rfl))))) (pb_of (pd_listRange rfl (by rfl) T.n_list (by rfl) T.n_range (pd_callB dc_len (by rfl) T.n_len (by decide +kernel) (pb_var (pv 0))))) (nomark _))
        (pds_one (pd_ret pd_bl))
        pds_nil)
      (pds_one (pd_ret (pd_cmp (do_eq hr.units) (pb_of (pd_lc (by rfl) sc_law_is_move.nd (pit_seq (pb_of (pd_ix (pb_var (pv 1)) (pb_of pd_int) (fun _ _ => rfl)))) (blkOk_by (own := [("k", 2)]) (N := N_law_is_move) (sc := defScope s_law_is_move) (by decide +kernel)) (fun _ _ _ _ _ => (pgt_name (pg_name (i := 2) sc_law_is_move.nd rfl (.inl rfl)))) (fun _ _ _ _ _ => ptd_nil) (fun _ _ _ _ _ => (pd_ix (pb_var (pv 0)) (pb_var (pv 2)) (fun _ _ => rfl))))) (pb_of (pd_callTy dc_list (by rfl) T.n_list (by decide +kernel) (pb_var (pv 0)))) (nomark _)))))))) (fun ds Kd Ke l h => ?_)
  obtain ⟨sp, ks, d, rfl, k4, sk, q⟩ := h
  have z0 : 0 ≤ sizeLine := by decide
  rcases two_or d with ⟨o, s, rfl⟩ | ⟨e, no⟩
  · refine ⟨rfl, _, 2, 2, rfl, ?_⟩
    refine ⟨o, rfl, rfl, _, _, _, rfl, ?_⟩
    rcases row_or ks.length ks.length o with ⟨os, rfl, l1, l2, e⟩ | ⟨e, no⟩
    · have el : os.length = ks.length := Nat.le_antisymm l2 l1
      have e1 : isMove ks.length (.tuple [.tuple os, s]) = (os.all (isWhole 0 ((ks.length : Int) - 1)) && (ordB ks.length os && (isWhole (-1) 1 s && !zeroB s))) := by
        show (decide (os.length = ks.length) && _) = _
        rw [decide_eq_true el, Bool.true_and]
      rw [e1] at q
      refine bw_F (b := !isRow ks.length ks.length (.tuple os)) (by rw [e] <;> rfl) ?_
      have cs : Dl.cutD [PyData.tuple os, s] (some 1) none = [s] := rfl
      refine ⟨_, rfl, ?_, ?_⟩
      · rw [cs]
        exact Nat.le_trans (show os.length + 1 ≤ 5 by omega) (by decide)
      rw [cs]
      refine comp_filterD (lv := none) (f := fun d => d) (p := fun d => !wholeB d) True.intro (by rfl) (os ++ [s]) [] _ (Nat.le_trans (show 0 + (os ++ [s]).length ≤ 5 by rw [List.length_append]; show 0 + (os.length + 1) ≤ 5; omega) (by decide)) (fun x hx Ky Kn y1 y2 => ⟨rfl, x, rfl, bw_of (b := !wholeB x) y1 y2⟩) ?_
      have e0 : (List.isEmpty ([] ++ ((os ++ [s]).filter fun d => !wholeB d).map fun d : D => d)) = (os ++ [s]).all wholeB := by
        rw [List.nil_append, List.isEmpty_map, filter_nil]
        simp only [Bool.not_not]
      refine ⟨z0, bw_of (b := !(List.isEmpty ([] ++ ((os ++ [s]).filter fun d => !wholeB d).map fun d : D => d))) (fun h1 => ?_) (fun h1 => ?_)⟩
      · rw [e0, Bool.not_eq_true', List.all_append] at h1
        have no : (os.all (isWhole 0 ((ks.length : Int) - 1)) && (ordB ks.length os && (isWhole (-1) 1 s && !zeroB s))) = false := by
          cases e2 : os.all wholeB with
          | false => rw [not_whole e2, Bool.false_and]
          | true =>
            rw [e2, Bool.true_and] at h1
            have : wholeB s = false := by simpa using h1
            cases s <;> first | (simp [isWhole]; done) | cases this
        rw [no, Bool.false_and] at q
        exact q
      · rw [e0, Bool.not_eq_false', List.all_append, Bool.and_eq_true] at h1
        obtain ⟨ns, rfl⟩ := whole_ints h1.1
        obtain ⟨j, rfl⟩ : ∃ j : Int, s = .int j := by
          have := h1.2
          cases s <;> first | exact ⟨_, rfl⟩ | (simp [wholeB] at this; done)
        refine ⟨.int j, rfl, (show 2 ≤ sizeLine by decide), rfl, rfl, ?_⟩
        have es : (isWhole (-1) 1 (.int j) && !zeroB (.int j)) = ([PyData.int 1, .int (-1)].any fun z => eqS z (.int j)) := by
          show ((decide (-1 ≤ j) && decide (j ≤ 1)) && !decide (j = 0)) = (decide ((1 : Int) = j) || (decide ((-1 : Int) = j) || false))
          rw [Bool.eq_iff_iff]
          simp only [Bool.and_eq_true, Bool.or_eq_true, Bool.not_eq_true', decide_eq_true_eq, decide_eq_false_iff_not, Bool.false_eq_true, or_false]
          omega
        rw [es] at q
        refine bw_of (b := !([PyData.int 1, .int (-1)].any fun z => eqS z (.int j))) (fun h2 => ?_) (fun h2 => ?_)
        · rw [Bool.not_eq_true'] at h2
          rw [h2, Bool.and_false, Bool.and_false, Bool.false_and] at q
          exact q
        rw [Bool.not_eq_false'] at h2
        rw [h2, Bool.and_true] at q
        have en := intsD_map ns
        have eo : ordB ks.length (ns.map PyData.int) = decide (srtI ns = (List.range ks.length).map fun k : Nat => (0 : Int) + (k : Int)) := by
          unfold ordB
          rw [en]
        rw [eo] at q
        refine ⟨.tuple (ns.map PyData.int), rfl, ns, en, fun ms pm pw => ⟨RgOk.of_le (by omega) (by omega) (by omega) (by omega), ?_⟩⟩
        have ev : PyData.eqv (.list (ms.map PyData.int)) (.list (rangeD 0 ((ks.length : Int) - 0).toNat)) = decide (srtI ns = (List.range ks.length).map fun k : Nat => (0 : Int) + (k : Int)) := by
          rw [rangeD_ints, show ((ks.length : Int) - 0).toNat = ks.length by omega, srtI_of pm pw]
          exact eqvAll_ints _ _
        refine ⟨fits_ints ms, by rw [rangeD_ints]; exact fits_ints _, ?_⟩
        rw [ev]
        refine bw_of (b := !decide (srtI ns = (List.range ks.length).map fun k : Nat => (0 : Int) + (k : Int))) (fun h3 => ?_) (fun h3 => ?_)
        · rw [Bool.not_eq_true'] at h3
          rw [h3, Bool.and_false, Bool.false_and] at q
          exact q
        rw [Bool.not_eq_false'] at h3
        have bd := range_in (of_decide_eq_true h3)
        have aw : (ns.map PyData.int).all (isWhole 0 ((ks.length : Int) - 1)) = true := by
          refine List.all_eq_true.mpr fun x hx => ?_
          obtain ⟨i, hi, rfl⟩ := List.mem_map.mp hx
          have := bd i hi
          show (decide (0 ≤ i) && decide (i ≤ (ks.length : Int) - 1)) = true
          rw [decide_eq_true (by omega), decide_eq_true (by omega)] <;> rfl
        rw [h3, aw, Bool.and_true, Bool.true_and] at q
        refine ⟨.tuple (ns.map PyData.int), rfl, ?_⟩
        have ln : ns.length = ks.length := by rw [← el, List.length_map]
        refine compMap (lv := none) (e := PyData.int) (f := fun i : Int => ks[i.toNat]?.getD .none) True.intro (by rfl) ns [] _ (Nat.le_trans (show 0 + ns.length ≤ 5 by omega) (by decide)) (fun i hi Ky h => ?_) ?_
        · have b := bd i hi
          refine ⟨ks[i.toNat]?.getD .none, ?_, h⟩
          have lt : i.toNat < ks.length := by omega
          have z := atI_nat (xs := ks) (j := i.toNat) (v := ks[i.toNat]?.getD .none) (by rw [List.getElem?_eq_getElem lt] <;> rfl)
          rwa [Int.toNat_of_nonneg b.1] at z
        · refine ⟨fits_lt (slots_fits (sp := sp) fun d hd => sk d (moved_mem bd d hd)), fits_lt (slots_fits sk), ?_⟩
          have kk : keeps ks (.tuple [.tuple (ns.map PyData.int), .int j]) = PyData.eqv (.list (movedD ks ns)) (.list ks) := by
            show (match intsD (ns.map PyData.int) with
              | some ns => PyData.eqv (.tuple (movedD ks ns)) (.tuple ks)
              | none => false) = _
            rw [en]
            rfl
          rw [kk] at q
          exact q
    · rw [isMove_no2 no, Bool.false_and] at q
      exact bw_T (b := !isRow ks.length ks.length o) (by rw [e] <;> rfl) q
  · rw [isMove_no no, Bool.false_and] at q
    exact ⟨rfl, _, 2, 2, rfl, bw_T (b := !isRow 2 2 d) (by rw [e] <;> rfl) q⟩
theorem ok_law_is_box (T : Txt K mg) : FnOk P w K mg base (L2.CX P w) (k + 3) T.f_law_is_box T.d_law_is_box ["spaces", "thing"] (spD K mg 2 cLBox) := by
  refine okD (fam := noFam w) T.F_law_is_box sc_law_is_box (by decide) (fun cdv A outer s H E hr tk =>
    (pds_cons (pd_if (PWt.pt (pwt_or (pt_notD (pt_valD (pd_call (ok_law_is_row T) hr (by rfl) T.g_law_is_row T.F_law_is_row.kp T.b_law_is_row (passD tk) (par_cons (pd_var (pv 1)) (par_cons pd_int (par_cons pd_int par_nil)))))) (pwt_or (pt_notD (pt_valD (pd_call (ok_law_is_row T) hr (by rfl) T.g_law_is_row T.F_law_is_row.kp T.b_law_is_row (passD tk) (par_cons (pd_ix (pb_var (pv 1)) (pb_of pd_int) (fun _ _ => rfl)) (par_cons pd_int (par_cons pd_int par_nil)))))) (pwt_or1 (pt_notD (pt_valD (pd_call (ok_law_is_row T) hr (by rfl) T.g_law_is_row T.F_law_is_row.kp T.b_law_is_row (passD tk) (par_cons (pd_ix (pb_var (pv 1)) (pb_of pd_int) (fun _ _ => rfl)) (par_cons pd_int (par_cons pd_int par_nil))))))))))
        (pds_one (pd_ret pd_bl))
        pds_nil)
      (pds_cons (pd_for (passes_of rfl) rfl (pit_seq (pb_of (pd_ix (pb_var (pv 1)) (pb_of pd_int) (fun _ _ => rfl)))) (pgt_name (pg_name (i := 2) sc_law_is_box.nd rfl (.inl rfl)))
        (pds_cons (pd_if (PWt.pt (pwt_or (pt_notD (pt_valD (pd_call (ok_law_is_row T) hr (by rfl) T.g_law_is_row T.F_law_is_row.kp T.b_law_is_row (passD tk) (par_cons (pd_var (pv 2)) (par_cons pd_int (par_cons pd_int par_nil)))))) (pwt_or (pt_notD (pt_valD (pd_isi (by decide) (by rfl) T.n_isinstance (pe_bltn (v := .ty "str") (by rfl) T.n_str (by decide +kernel) rfl) (pb_of (pd_ix (pb_var (pv 2)) (pb_of pd_int) (fun _ _ => rfl)))))) (pwt_or1 (pt_cmpD do_notInF (pb_of (pd_ix (pb_var (pv 2)) (pb_of pd_int) (fun _ _ => rfl))) (pb_var (pv 0)) (by with_unfolding_all rfl))))))
          (pds_one (pd_ret pd_bl))
          pds_nil)
        (pds_one (pd_if (PWt.pt (pwt_or (pt_notD (pt_valD (pd_isi (by decide) (by rfl) T.n_isinstance (pe_bltn (v := .ty "str") (by rfl) T.n_str (by decide +kernel) rfl) (pb_of (pd_ix (pb_var (pv 2)) (pb_of pd_int) (fun _ _ => rfl)))))) (pwt_or1 (pt_cmpD do_notInF (pb_of (pd_ix (pb_var (pv 2)) (pb_of pd_int) (fun _ _ => rfl))) (pb_of (pd_tup (par_cons pd_str (par_cons pd_str par_nil)))) (by with_unfolding_all rfl)))))
          (pds_one (pd_ret pd_bl))
          pds_nil))))
      (pds_one (pd_ret (pd_and (pd_call (ok_law_is_name T) hr (by rfl) T.g_law_is_name T.F_law_is_name.kp T.b_law_is_name (passD tk) (par_cons (pd_ix (pb_var (pv 1)) (pb_of pd_int) (fun _ _ => rfl)) par_nil)) (pd_one (pd_cmp (do_eqNil hr.units) (pb_of (pd_lc (by rfl) sc_law_is_box.nd (pit_seq (pb_of (pd_ix (pb_var (pv 1)) (pb_of pd_int) (fun _ _ => rfl)))) (blkOk_by (own := [("move", 3)]) (N := N_law_is_box) (sc := defScope s_law_is_box) (by decide +kernel)) (fun _ _ _ _ _ => (pgt_name (pg_name (i := 3) sc_law_is_box.nd rfl (.inl rfl)))) (fun _ _ _ _ _ => (ptd_one (pt_notD (pt_valD (pd_call (ok_law_is_move T) hr (by rfl) T.g_law_is_move T.F_law_is_move.kp T.b_law_is_move passL (par_cons (pd_ix (pb_var (pv 1)) (pb_of pd_int) (fun _ _ => rfl)) (par_cons (pd_var (pv 3)) par_nil))))))) (fun _ _ _ _ _ => (pd_var (pv 3))))) (pb_of (pd_lst par_nil)) (nomark _))))))))) (fun ds Kd Ke l h => ?_)
  obtain ⟨sp, d, rfl, hs, sm, q⟩ := h
  have z0 : 0 ≤ sizeLine := by decide
  have hsc := sc_names hs
  rcases three_or d with ⟨n, kk, mm, rfl⟩ | ⟨e, no⟩
  · have sm2 := smals_mem (show smals [n, kk, mm] = true from sm)
    refine ⟨rfl, _, 3, 3, rfl, ?_⟩
    refine ⟨kk, rfl, rfl, _, 0, 4, rfl, ?_⟩
    rcases row_or 0 4 kk with ⟨ks, rfl, l1, l2, e⟩ | ⟨e, no⟩
    · refine bw_F (b := !isRow 0 4 (.tuple ks)) (by rw [show isRow 0 4 (.tuple ks) = true from e] <;> rfl) ?_
      refine ⟨mm, rfl, rfl, _, 0, 3, rfl, ?_⟩
      rcases row_or 0 3 mm with ⟨ms, rfl, m1, m2, e⟩ | ⟨e, no⟩
      · refine bw_F (b := !isRow 0 3 (.tuple ms)) (by rw [show isRow 0 3 (.tuple ms) = true from e] <;> rfl) ?_
        have eb : isBox sp (.tuple [n, .tuple ks, .tuple ms]) = (isName n && (ks.all (isSlot sp) && (ms.all (isMove ks.length) && ms.all (keeps ks)))) := by
          show (isName n && (decide (ks.length ≤ 4) && (ks.all (isSlot sp) && (decide (ms.length ≤ 3) && (ms.all (isMove ks.length) && ms.all (keeps ks)))))) = _
          rw [decide_eq_true l2, decide_eq_true m2, Bool.true_and, Bool.true_and]
        rw [eb] at q
        refine ⟨.tuple ks, rfl, rfl, ?_⟩
        refine for_invD (fun j Γ => ∃ y2 : Option D, Γ = [some (.imm (.tuple sp)), some (.imm (.tuple [n, .tuple ks, .tuple ms])), y2.map Slot.imm, none] ∧ ∀ d ∈ ks.take j, isSlot sp d = true) ks 0 _ (fun j x Γ ex hI nx hnx => ?_) (fun Γ hI => ?_) ⟨none, rfl, fun _ h => by simp at h⟩
        · obtain ⟨y2, rfl, ok⟩ := hI
          rw [Nat.zero_add] at ok hnx
          have mx := List.mem_of_getElem? ex
          have ret : isSlot sp x = false → Kd (bD false) := fun h => by
            rw [not_all mx h, Bool.false_and, Bool.and_false] at q
            exact q
          have nxt : isSlot sp x = true → nx [some (.imm (.tuple sp)), some (.imm (.tuple [n, .tuple ks, .tuple ms])), some (.imm x), none] := fun h => hnx _ ⟨some x, rfl, all_take ex ok h⟩
          refine ⟨rfl, _, 2, 2, rfl, ?_⟩
          rcases two_or x with ⟨a, b, rfl⟩ | ⟨e, no⟩
          · refine ⟨a, rfl, ?_⟩
            cases a with
            | str z =>
              refine ⟨.str z, rfl, rfl, hsc, ?_⟩
              have e2 := fun u => isSlot_2 (z := z) (u := u) hs
              refine bw_of (b := !(sp.any fun y => eqS y (.str z))) (fun h1 => ?_) (fun h1 => ?_)
              · rw [Bool.not_eq_true'] at h1
                refine ret ?_
                show (isName (.str z) && ((sp.any fun y => eqS y (.str z)) && _)) = false
                rw [h1, Bool.false_and, Bool.and_false]
              · rw [Bool.not_eq_false'] at h1
                refine ⟨b, rfl, ?_⟩
                cases b with
                | str u =>
                  refine ⟨.str u, rfl, (show 2 ≤ sizeLine by decide), rfl, rfl, ?_⟩
                  have e3 := e2 u
                  rw [h1, Bool.true_and] at e3
                  refine bw_of (b := !(sidesD.any fun y => eqS y (.str u))) (fun h2 => ?_) (fun h2 => ?_)
                  · rw [Bool.not_eq_true'] at h2
                    exact ret (e3.trans h2)
                  · rw [Bool.not_eq_false'] at h2
                    exact nxt (e3.trans h2)
                | _ => exact ret (isSlot_b (by simp [tyD]))
            | _ => exact ret (isSlot_a (by simp [tyD]))
          · exact bw_T (b := !isRow 2 2 x) (by rw [e] <;> rfl) (ret (isSlot_no no))
        · obtain ⟨y2, rfl, ok⟩ := hI
          rw [Nat.zero_add, List.take_length] at ok
          rw [List.all_eq_true.mpr ok, Bool.true_and] at q
          refine ⟨n, rfl, rfl, _, rfl, smal_short (sm2 n (by simp)), ?_⟩
          refine L2.Dl.bw_and2 (b := isName n) (k := Kd) (fun h1 => ?_) (fun h1 => ?_)
          · rw [h1, Bool.true_and] at q
            refine ⟨.tuple ms, rfl, ?_⟩
            refine comp_filterD (lv := none) (f := fun d => d) (p := fun d => !(isMove ks.length d && keeps ks d)) True.intro (by rfl) ms [] _ (Nat.le_trans (show 0 + ms.length ≤ 3 by omega) (by decide)) (fun x hx Ky Kn y1 y2 => ⟨.tuple ks, rfl, rfl, sp, ks, x, rfl, l2, ok, bw_of (b := !(isMove ks.length x && keeps ks x)) y1 y2⟩) ?_
            refine ⟨z0, ?_⟩
            show Kd (bD (id (List.isEmpty ([] ++ (ms.filter fun d => !(isMove ks.length d && keeps ks d)).map fun d : D => d))))
            have e0 : (List.isEmpty ([] ++ (ms.filter fun d => !(isMove ks.length d && keeps ks d)).map fun d : D => d)) = (ms.all (isMove ks.length) && ms.all (keeps ks)) := by
              rw [List.nil_append, List.isEmpty_map, filter_nil]
              simp only [Bool.not_not]
              exact all_and ms
            rw [id, e0]
            exact q
          · rw [h1, Bool.false_and] at q
            exact q
      · have eb : isBox sp (.tuple [n, .tuple ks, mm]) = false := by
          cases mm with
          | tuple ms =>
            have : ¬ ms.length ≤ 3 := fun z => no ms rfl ⟨Nat.zero_le _, z⟩
            show (isName n && (decide (ks.length ≤ 4) && (ks.all (isSlot sp) && (decide (ms.length ≤ 3) && _)))) = false
            rw [decide_eq_false this]
            simp
          | _ => rfl
        rw [eb] at q
        exact bw_T (b := !isRow 0 3 mm) (by rw [show isRow 0 3 mm = false from e] <;> rfl) q
    · rw [isBox_ks no] at q
      exact bw_T (b := !isRow 0 4 kk) (by rw [show isRow 0 4 kk = false from e] <;> rfl) q
  · rw [isBox_no no] at q
    exact ⟨rfl, _, 3, 3, rfl, bw_T (b := !isRow 3 3 d) (by rw [e] <;> rfl) q⟩
theorem ok_law_is_gear (T : Txt K mg) : FnOk P w K mg base (L2.CX P w) (k + 4) T.f_law_is_gear T.d_law_is_gear ["thing"] (spD K mg 1 cLGear) := by
  refine okD (fam := noFam w) T.F_law_is_gear sc_law_is_gear (by decide) (fun cdv A outer s H E hr tk =>
    (pds_cons (pd_if (PWt.pt (pwt_or (pt_notD (pt_valD (pd_call (ok_law_is_row T) hr (by rfl) T.g_law_is_row T.F_law_is_row.kp T.b_law_is_row (passD tk) (par_cons (pd_var (pv 0)) (par_cons pd_int (par_cons pd_int par_nil)))))) (pwt_or (pt_notD (pt_valD (pd_call (ok_law_is_row T) hr (by rfl) T.g_law_is_row T.F_law_is_row.kp T.b_law_is_row (passD tk) (par_cons (pd_ix (pb_var (pv 0)) (pb_of pd_int) (fun _ _ => rfl)) (par_cons pd_int (par_cons pd_int par_nil)))))) (pwt_or1 (pt_notD (pt_valD (pd_call (ok_law_is_row T) hr (by rfl) T.g_law_is_row T.F_law_is_row.kp T.b_law_is_row (passD tk) (par_cons (pd_ix (pb_var (pv 0)) (pb_of pd_int) (fun _ _ => rfl)) (par_cons pd_int (par_cons pd_int par_nil))))))))))
        (pds_one (pd_ret pd_bl))
        pds_nil)
      (pds_cons (pd_if (PWt.pt (pwt_or (pt_notD (pt_valD (pd_call (ok_law_rises T) hr (by rfl) T.g_law_rises T.F_law_rises.kp T.b_law_rises (passD tk) (par_cons (pd_ix (pb_var (pv 0)) (pb_of pd_int) (fun _ _ => rfl)) par_nil)))) (pwt_or1 (pt_cmpD (do_neNil hr.units) (pb_of (pd_lc (by rfl) sc_law_is_gear.nd (pit_seq (pb_of (pd_ix (pb_var (pv 0)) (pb_of pd_int) (fun _ _ => rfl)))) (blkOk_by (own := [("part", 1)]) (N := N_law_is_gear) (sc := defScope s_law_is_gear) (by decide +kernel)) (fun _ _ _ _ _ => (pgt_name (pg_name (i := 1) sc_law_is_gear.nd rfl (.inl rfl)))) (fun _ _ _ _ _ => (ptd_one (pt_notD (pt_valD (pd_call (ok_law_is_box T) hr (by rfl) T.g_law_is_box T.F_law_is_box.kp T.b_law_is_box passL (par_cons (pd_ix (pb_var (pv 0)) (pb_of pd_int) (fun _ _ => rfl)) (par_cons (pd_var (pv 1)) par_nil))))))) (fun _ _ _ _ _ => (pd_var (pv 1))))) (pb_of (pd_lst par_nil)) (nomark _)))))
        (pds_one (pd_ret pd_bl))
        pds_nil)
      (pds_one (pd_ret (pd_call (ok_law_rises T) hr (by rfl) T.g_law_rises T.F_law_rises.kp T.b_law_rises (passD tk) (par_cons (pd_lc (by rfl) sc_law_is_gear.nd (pit_seq (pb_of (pd_ix (pb_var (pv 0)) (pb_of pd_int) (fun _ _ => rfl)))) (blkOk_by (own := [("part", 1)]) (N := N_law_is_gear) (sc := defScope s_law_is_gear) (by decide +kernel)) (fun _ _ _ _ _ => (pgt_name (pg_name (i := 1) sc_law_is_gear.nd rfl (.inl rfl)))) (fun _ _ _ _ _ => ptd_nil) (fun _ _ _ _ _ => (pd_ix (pb_var (pv 1)) (pb_of pd_int) (fun _ _ => rfl)))) par_nil))))))) (fun ds Kd Ke l h => ?_)
  obtain ⟨d, rfl, sm, q⟩ := h
  have z0 : 0 ≤ sizeLine := by decide
  rcases two_or d with ⟨ss, bb, rfl⟩ | ⟨e, no⟩
  · have sm2 := smals_mem (show smals [ss, bb] = true from sm)
    refine ⟨rfl, _, 2, 2, rfl, ?_⟩
    refine ⟨ss, rfl, rfl, _, 1, 3, rfl, ?_⟩
    rcases row_or 1 3 ss with ⟨sp, rfl, l1, l2, e⟩ | ⟨e, no⟩
    · refine bw_F (b := !isRow 1 3 (.tuple sp)) (by rw [show isRow 1 3 (.tuple sp) = true from e] <;> rfl) ?_
      refine ⟨bb, rfl, rfl, _, 0, 8, rfl, ?_⟩
      rcases row_or 0 8 bb with ⟨bx, rfl, m1, m2, e⟩ | ⟨e, no⟩
      · refine bw_F (b := !isRow 0 8 (.tuple bx)) (by rw [show isRow 0 8 (.tuple bx) = true from e] <;> rfl) ?_
        have eg : isGear (.tuple [.tuple sp, .tuple bx]) = ((sp.all isName && risesD sp) && (bx.all (isBox sp) && risesD (bx.map boxName))) := by
          show ((decide (1 ≤ sp.length) && decide (sp.length ≤ 3)) && (sp.all isName && (risesD sp && (decide (bx.length ≤ 8) && (bx.all (isBox sp) && risesD (bx.map boxName)))))) = _
          rw [decide_eq_true l1, decide_eq_true l2, decide_eq_true m2, Bool.true_and, Bool.true_and, Bool.true_and, Bool.and_assoc]
        rw [eg] at q
        have ss1 := smals_mem (show smals sp = true from sm2 (.tuple sp) (by simp))
        have sb1 := smals_mem (show smals bx = true from sm2 (.tuple bx) (by simp))
        refine ⟨.tuple sp, rfl, rfl, sp, .inr rfl, (fun d hd => smal_short (ss1 d hd)), by omega, ?_⟩
        refine bw_of (b := !(sp.all isName && risesD sp)) (fun h1 => ?_) (fun h1 => ?_)
        · rw [Bool.not_eq_true'] at h1
          rw [h1, Bool.false_and] at q
          exact q
        rw [Bool.not_eq_false'] at h1
        rw [h1, Bool.true_and] at q
        have hn := (Bool.and_eq_true_iff.mp h1).1
        refine ⟨.tuple bx, rfl, ?_⟩
        refine comp_filterD (lv := none) (f := fun d => d) (p := fun d => !isBox sp d) True.intro (by rfl) bx [] _ (Nat.le_trans (show 0 + bx.length ≤ 8 by omega) (by decide)) (fun x hx Ky Kn y1 y2 => ⟨.tuple sp, rfl, rfl, sp, x, rfl, hn, sb1 x hx, bw_of (b := !isBox sp x) y1 y2⟩) ?_
        have e0 : (List.isEmpty ([] ++ (bx.filter fun d => !isBox sp d).map fun d : D => d)) = bx.all (isBox sp) := by
          rw [List.nil_append, List.isEmpty_map, filter_nil]
          simp only [Bool.not_not]
        refine ⟨z0, bw_of (b := !(List.isEmpty ([] ++ (bx.filter fun d => !isBox sp d).map fun d : D => d))) (fun h2 => ?_) (fun h2 => ?_)⟩
        · rw [e0, Bool.not_eq_true'] at h2
          rw [h2, Bool.false_and] at q
          exact q
        rw [e0, Bool.not_eq_false'] at h2
        rw [h2, Bool.true_and] at q
        refine ⟨.tuple bx, rfl, ?_⟩
        have bn : ∀ x ∈ bx, ∃ n r, x = .tuple (n :: r) ∧ isName n = true := fun x hx => by
          have z := List.all_eq_true.mp h2 x hx
          unfold isBox at z
          split at z
          · rename_i n ks ms
            rw [Bool.and_eq_true] at z
            exact ⟨n, _, rfl, z.1⟩
          · cases z
        refine compMapD (lv := none) (f := boxName) True.intro (by rfl) bx [] _ (Nat.le_trans (show 0 + bx.length ≤ 8 by omega) (by decide)) (fun x hx Ky h => ?_) ?_
        · obtain ⟨n, r, rfl, _⟩ := bn x hx
          exact ⟨n, atI_nat (j := 0) rfl, h⟩
        · have an : (bx.map boxName).all isName = true := by
            refine List.all_eq_true.mpr fun y hy => ?_
            obtain ⟨x, hx, rfl⟩ := List.mem_map.mp hy
            obtain ⟨n, r, rfl, hn⟩ := bn x hx
            exact hn
          refine ⟨rfl, bx.map boxName, .inl rfl, fun y hy => ?_, by rw [List.length_map]; omega, ?_⟩
          · obtain ⟨x, hx, rfl⟩ := List.mem_map.mp hy
            obtain ⟨n, r, rfl, _⟩ := bn x hx
            have z := smals_mem (show smals (n :: r) = true from sb1 _ hx) n (by simp)
            exact smal_short z
          · rw [an, Bool.true_and]
            exact q
      · have eb : isGear (.tuple [.tuple sp, bb]) = false := by
          cases bb with
          | tuple bx =>
            have : ¬ bx.length ≤ 8 := fun z => no bx rfl ⟨Nat.zero_le _, z⟩
            show ((decide (1 ≤ sp.length) && decide (sp.length ≤ 3)) && (sp.all isName && (risesD sp && (decide (bx.length ≤ 8) && _)))) = false
            rw [decide_eq_false this]
            simp
          | _ => rfl
        rw [eb] at q
        exact bw_T (b := !isRow 0 8 bb) (by rw [show isRow 0 8 bb = false from e] <;> rfl) q
    · have eb : isGear (.tuple [ss, bb]) = false := by
        cases ss with
        | tuple sp =>
          cases bb with
          | tuple bx =>
            have : (decide (1 ≤ sp.length) && decide (sp.length ≤ 3)) = false := by
              rw [Bool.eq_false_iff]
              intro z
              rw [Bool.and_eq_true, decide_eq_true_eq, decide_eq_true_eq] at z
              exact no sp rfl z
            show ((decide (1 ≤ sp.length) && decide (sp.length ≤ 3)) && _) = false
            rw [this, Bool.false_and]
          | _ => rfl
        | _ => rfl
      rw [eb] at q
      exact bw_T (b := !isRow 1 3 ss) (by rw [show isRow 1 3 ss = false from e] <;> rfl) q
  · rw [isGear_no no] at q
    exact ⟨rfl, _, 2, 2, rfl, bw_T (b := !isRow 2 2 d) (by rw [e] <;> rfl) q⟩
end
end L2.Pr

set_option Elab.async false
set_option linter.all false
set_option maxRecDepth 100000
set_option maxHeartbeats 4000000
/-! a call by one keyword; a call of nothing, where nothing is shown -/
namespace L2.Dl
open PySem PySem.Spec PyProof.Rows L2.Sl
section
variable {fam : Fam} {X : Cx} {E : XK} {kws : List Keyword} {tr : TAr} {pos p : Pos} {k : Nat} {f : Addr} {fd : FuncData} {ps : List Str} {x : Str} {CX : CXT}
theorem kbn1 {K : PySem.W.Frag} {x qual : Str} {st : Stmt} {f : Addr} {fd : FuncData} {p1 : Str} (F : Fun K x qual st f fd)
    (h : ∀ (kV doc pm : Value) (an : Option Addr) (cdv ct a : Value), bindArgs (PySem.W.fnOf x qual (defArgs st) (defBody st) (defScope st) .none kV doc pm an cdv ct) ⟨[], [p1].zip [a]⟩ = pure ([p1].zip [a])) : KBn K fd [p1] 0 [p1] (fun _ us => us) (fun _ vs => vs) := by
  refine ⟨fun s us ws _ hu hw => ?_, fun _ r2 => r2⟩
  obtain ⟨oc, od, kV, doc, pm, an, cdv, ct, osl, rfl, lk, hcd⟩ := F.ex
  match us, ws, hu, hw with
  | [], [a], _, _ => exact .of_eq (h kV doc pm an cdv ct a)
def dCallK1 (C : CD) (t : TAr) : TD := fun Γ Kd Ke => t Γ (fun ds Γ1 => match ds with
  | [a] => C [a] (fun s => Kd s Γ1) Ke
  | _ => False) Ke
theorem pd_callK1 {C : CD} {p1 : Str} (G : FnOk X.prog X.w X.K X.mg X.base CX k f fd [p1] (spD X.K X.mg 1 C)) (hr : Room k X.A) (hg : Gl X x) (hm : X.mg x = some (.ref f)) (hk : PySem.W.keepIn X.K (.ref f) = true) (hb : KBn X.K fd [p1] 0 [p1] (fun _ us => us) (fun _ vs => vs)) (hx : Passes CX X E) (ha : PKr fam X E kws tr)
    (hall : (backToKw pos (keywordEach kws X.env)).all (·.1.isSome) = true := by rfl) (hks : (backToKw pos (keywordEach kws X.env)).filterMap (·.1) = [p1] := by rfl) (hdb : (x == ("__debug__" : Str)) = false := by decide)
    (hpl : ((backTo pos (starEach [] X.env)).any (·.1) || (backToKw pos (keywordEach kws X.env)).any (·.1.isNone)) = false := by rfl) : PD fam X E (.Call (.Name x p) [] kws pos) (dCallK1 C tr) := by
  obtain ⟨ts, pa, ha⟩ := ha
  refine ⟨_, pe_callKw G hr hg hm hk hb hx pa hall hks hdb hpl, fun B A σ H F Γ Kd Ke Q I t w fin => ?_⟩
  refine ha B A σ H F Γ _ _ _ I t w fun ds Γ1 vs H1 F1 k S I1 q => ?_
  match ds, q, k with
  | [d1], .cons (v := v1) q1 .nil, k =>
    refine ⟨rfl, ?_⟩
    show spD X.K X.mg 1 C [v1] H1 Q E
    exact ⟨F1, [d1], _, Ke, rfl, I1.sub, I1.ft, .cons q1 .nil, k, fun s v H' F' ks S1 S2 S3 ft nw r => fin _ _ _ _ _ ks (S.trans S2) (I1.call S1 S2 S3 ft nw) (RO.rr I1 r), XW.call I1 w⟩
/-- a list of one's own, many times over -/
theorem pd_repO {a : Expr} {ta : TD} {n : Int} {j} {p3 : Pos} (h : PD fam X E a ta) : PD fam X E (.BinOp a .Mult (.Constant (.int n) j p3) pos) (fun Γ Kd Ke => ta Γ (fun s Γ1 => match s with
    | .own (.list ds) => ds.length ≤ 1000 ∧ 0 ≤ n ∧ n ≤ 1000 ∧ Kd (.own (.list (List.replicate n.toNat ds).flatten)) Γ1
    | _ => False) Ke) := by
  obtain ⟨te, pa, h⟩ := h
  refine ⟨_, pe_op op_rep pa pe_int, fun B A σ H F Γ Kd Ke Q I t w fin => ?_⟩
  refine h B A σ H F Γ _ Ke _ I t w fun s Γ1 v H1 F1 k S1 I1 r => ?_
  match s, k, r with
  | .own (.list ds), k, r =>
    obtain ⟨l1, n0, n1, k⟩ := k
    obtain ⟨⟨p, rfl, b1, b2, b3, vs, ev, q⟩, _⟩ := r
    refine ⟨p, n, vs, rfl, rfl, ev, by omega, by omega, ?_, fun z2 nz2 => end_lst (Kd := fun s => Kd s Γ1) I1 (fun s v H' F' k S' I' rr => fin _ _ _ _ _ k (S1.trans S') I' rr) (dqs_rep q _) k nz2⟩
    rw [q.len]
    exact Nat.le_trans (Nat.mul_le_mul l1 (show n.toNat ≤ 1000 by omega)) (by decide)
/-- a list turned about -/
def dRevL (xa : TB) : TD := fun Γ Kd Ke => xa Γ (fun h Γ1 => match getB Γ1 h with
  | some (.list ds) => Kd (.own (.list ds.reverse)) Γ1
  | _ => False) Ke
theorem pd_revL {a : Expr} {xa : TB} {k : Nat} {p1 p2 p3 pos : Pos} (ha : PB fam X E a xa) : PD fam X E (.Subscript a (.Slice none none (some (.UnaryOp .USub (.Constant (.int 1) k p1) p2)) p3) pos) (dRevL xa) := by
  obtain ⟨tea, pa, ha⟩ := ha
  refine ⟨_, pe_revL pa, fun B A σ H F Γ Kd Ke Q I t w fin => ?_⟩
  refine ha B A σ H F Γ _ _ _ I t w fun h1 Γ1 v1 H1 F1 k1 S1 I1 r1 => ?_
  match e1 : getB Γ1 h1, k1 with
  | some (.list ds), k1 =>
    obtain ⟨p, vs, rfl, hq, q⟩ := r1.list I1 e1
    exact ⟨p, vs, rfl, hq, fun z nz => end_lst (Kd := fun s => Kd s Γ1) I1 (fun s v H' F' k S' I' rr => fin _ _ _ _ _ k (S1.trans S') I' rr) q.rev k1 nz⟩
/-- a, b, c = fixed data -/
def dParI (i j l : Nat) (tr : TAr) : TDS := fun DD Γ => tr Γ (fun ds Γ1 => match ds with
  | [d1, d2, d3] => DD.nx (((Γ1.set i (some (.imm d1))).set j (some (.imm d2))).set l (some (.imm d3)))
  | _ => False) DD.er
theorem pd_par3I {i j l : Nat} {x y z : Str} {px py pz pt : Pos} {kt k2 pt2} {es : List Expr} (hc : X.calm = true) (ga : PG X (.Name x px) (gName i)) (gb : PG X (.Name y py) (gName j)) (gc : PG X (.Name z pz) (gName l)) (ha : PAr fam X E es tr)
    (hs : swapsWithSole [.Tuple [.Name x px, .Name y py, .Name z pz] kt pt] (.Tuple es k2 pt2) pos.line X.env = pure false := by rfl) (hw : swappedStores [.Tuple [.Name x px, .Name y py, .Name z pz] kt pt] (.Tuple es k2 pt2) X.env = pure none := by rfl) (h1 : (assignEach [.Tuple [.Name x px, .Name y py, .Name z pz] kt pt] X.env).map (·.2) = [assign (.Tuple [.Name x px, .Name y py, .Name z pz] kt pt) X.env] := by rfl)
    (hn : (assignEach [.Name x px, .Name y py, .Name z pz] X.env).length = 3 := by rfl) (hst : (assignEach [.Name x px, .Name y py, .Name z pz] X.env).findIdx? (·.1) = none := by rfl)
    (he1 : (assignEach [.Name x px, .Name y py, .Name z pz] X.env).map (·.2) = assign (.Name x px) X.env :: (assignEach [.Name y py, .Name z pz] X.env).map (·.2) := by rfl)
    (he2 : (assignEach [.Name y py, .Name z pz] X.env).map (·.2) = assign (.Name y py) X.env :: (assignEach [.Name z pz] X.env).map (·.2) := by rfl)
    (he3 : (assignEach [.Name z pz] X.env).map (·.2) = assign (.Name z pz) X.env :: (assignEach [] X.env).map (·.2) := by rfl) : PDs fam X E (.Assign [.Tuple [.Name x px, .Name y py, .Name z pz] kt pt] (.Tuple es k2 pt2) pos) (dParI i j l tr) := by
  obtain ⟨te, pa, ha⟩ := ha
  refine ⟨_, ps_asg (pe_tup pa) (pg_tup hc (pgs_cons ga (pgs_cons gb (pgs_cons gc pgs_nil he3) he2) he1) hn hst) hs hw h1, fun B A σ H F Γ DD D I t w o => ?_⟩
  refine ha B A σ H F Γ _ _ _ I t w fun ds Γ1 vs H1 F1 k1 S1 I1 q => ?_
  match ds, q, k1 with
  | [d1, d2, d3], .cons (v := v1) q1 (.cons (v := v2) q2 (.cons (v := v3) q3 .nil)), k1 =>
    refine ⟨(show 3 ≤ sizeLine by decide), fun p np => ⟨p, _, rfl, SqT.of upd_same, rfl, ?_⟩⟩
    refine ⟨v1, _, rfl, v2, _, rfl, v3, _, rfl, rfl, o.nx _ _ _ _ k1 S1 ?_⟩
    have J := I1.fresh (o := HO.tup [v1, v2, v3]) np
    exact ((J.asg (s := .imm d1) q1).asg (s := .imm d2) q2).asg (s := .imm d3) q3
end
end L2.Dl
namespace L2.Sl
open PySem PySem.Spec PyProof.Rows
section
variable {X : Cx} {CX : CXT} {k : Nat} {f : Addr} {fd : FuncData} {ps : List Str} {sp : Sp} {dvs : List V} {ds : List Value} {E : XK} {x : Str} {p pos : Pos}
theorem pe_callG0 (F : FnG X.prog X.w X.K X.mg X.base CX k f fd ps sp) (hgu : X.A.guards = some []) (hr : Room k X.A) (hg : Gl X x) (hm : X.mg x = some (.ref f)) (hk : PySem.W.keepIn X.K (.ref f) = true) (hb : Binds X.K fd ps ds) (hd : Vals dvs ds) (hx : Passes CX X E) (hdb : (x == ("__debug__" : Str)) = false := by decide) :
    PE X (.Call (.Name x p) [] [] pos) (tCall sp dvs E tNil) :=
  ⟨fun pins s σ H Q I h => wpAny_Call_Name_kw (ld_glob I hg hm (PySem.W.callWith_K0 I.kIn hk (run_fnG (us := []) F hgu hr hb hd hx I .nil h)) hdb)⟩
end
end L2.Sl

set_option Elab.async false
set_option linter.all false
set_option maxRecDepth 100000
set_option maxHeartbeats 16000000
set_option pp.maxSteps 600
/-! k03: _law_right -/
namespace L2.Pr
open PySem PySem.Spec PyProof.Rows L2.Sl L2.Dl
theorem passQ {X : Cx} : Passes (L2.CX X.prog X.w) X E0 := fun _ _ _ _ _ _ _ h => by
  obtain ⟨_, _, _, _, _, _, _, _, _, _, _, _, z⟩ := h
  exact z.elim
abbrev qn_right : Str := "_law_right.<locals>.<lambda>"
abbrev qn_bounds : Str := "_law_bounds_right.<locals>.<lambda>"
def cRight : CL := fun ds k => ∃ (d : D) (n b : Nat), ds = [d] ∧ TE n d ∧ d.bulk ≤ b ∧ n ≤ 60 ∧ b ≤ 262144 ∧ k (.imm (.bool true))
theorem drF_in {w : World} {T : List (Addr × Str)} {l : Bool} {H : Hp} (t : LamX.Tabs T H) : (drF w T l).IN H (T.map fun r : Addr × Str => r.1) :=
  ⟨fun r hr => List.mem_map.mpr ⟨r, hr, rfl⟩, t, fun a ha => .inr ha⟩
section
variable {P : Program} {w : World} {K : PySem.W.Frag} {mg : Str → Option Value} {base : Heap} {k : Nat}
theorem ok_law_right {c P1 P2 : Addr} (T : Txt K mg) (sk : SaidKit T) (ne : P1 ≠ P2) (F : FunC K "_law_right" "_law_right" s_law_right T.f_law_right T.d_law_right c) (TB : LamX.TabB base mg c P1) :
    FnG P w K mg base CX0 (k + 9) T.f_law_right T.d_law_right ["thing"] (spL [(P1, qn_right), (P2, qn_bounds)] K 1 cRight) := by
  obtain ⟨oc, od, kV, doc, pm, an, cdS, ct, osl, ed, lk, hcd⟩ := T.F_law_said.ex
  have bS := T.b_law_said
  rw [ed] at bS lk
  have LT : LamFam (drF w [(P1, qn_right), (P2, qn_bounds)] true) [(P1, qn_right), (P2, qn_bounds)] := drF_lam _
  have hu1 : ∀ p ∈ [(P1, qn_right), (P2, qn_bounds)], p.1 = P1 → p.2 = qn_right := fun p hp e => by
    simp only [List.mem_cons, List.not_mem_nil, or_false] at hp
    rcases hp with rfl | rfl
    · rfl
    · exact absurd e.symm ne
  refine okLG (fam := drF w [(P1, qn_right), (P2, qn_bounds)] true) F sc_law_right (by decide) LT (fun H t => drF_in t) (fun A outer s H E hgu hr => by
    have gv : LamX.GivesTo (cxOf CX0 P w K mg base N_law_right "_law_right" (defScope s_law_right) T.f_law_right (.ref c) A outer s H E).nox N_law_said "_law_said" (defScope s_law_said) T.f_law_said cdS (defBody s_law_said) "deed" ((cxOf CX0 P w K mg base N_law_right "_law_right" (defScope s_law_right) T.f_law_right (.ref c) A outer s H E).nox.env.qual ++ "<lambda>") (TTsaid T) := said_gives (X := (cxOf CX0 P w K mg base N_law_right "_law_right" (defScope s_law_right) T.f_law_right (.ref c) A outer s H E).nox) (k := k) T sk hgu fun env => (hr.mono (show k + 1 ≤ k + 8 by omega)).deeper env
    exact (pds_cons (pd_par (i := 1) (j := 2) rfl sc_law_right.nd rfl rfl (by decide) rfl rfl (pd_callB (dc_reprE hgu hr) (by rfl) T.n_repr (by decide +kernel) (pb_var (pv 0))) (pd_ifExp (pt_valD (pd_call (ok_law_is_gear T) hr (by rfl) T.g_law_is_gear T.F_law_is_gear.kp T.b_law_is_gear passQ (par_cons (pd_var (pv 0)) par_nil))) (pd_lst (par_cons pd_non par_nil)) pd_str) (by rfl))
      (pds_cons (pd_if (PWt.pt (pwt_or (pt_cmpD (do_ne hr.units) (pb_of (pd_said2 LT (said_ok T) (LamX.pe_lamcall (T := [(P1, qn_right), (P2, qn_bounds)]) (TT := TTsaid T) (by rfl) T.g_law_said T.F_law_said.kp lk hcd bS sc_law_said rfl (.inl rfl) gv TB rfl (List.mem_cons_self) hu1 hr (LamX.lamS_by (sc := defScope s_law_right) (by decide +kernel)) rfl (fun _ _ _ _ _ => rfl) (fun A outer s H E f c' hr2 => (PD.pe (pd_call (ok_need_gear T) hr2 (by rfl) T.g_need_gear T.F_need_gear.kp T.b_need_gear (passD (L2.takes_of rfl rfl rfl rfl)) (par_cons (pd_var (pv 0)) par_nil))))))) (pb_var (pv 2)) (nomark _)) (pwt_or1 (pt_cmpD (do_ne hr.units) (pb_of (pd_said2 LT (said_ok T) (L2.Ld.pe_lamcall (T := [(P1, qn_right), (P2, qn_bounds)]) (TT := TTsaid T) (by rfl) T.g_law_said T.F_law_said.kp lk hcd bS sc_law_said rfl (.inl rfl) gv TB rfl (List.mem_cons_self) hu1 hr (L2.Ld.scD_by (sc := defScope s_law_right) (kn := "k") (by decide +kernel)) (by decide +kernel) rfl rfl pe_int (fun _ _ _ _ _ _ _ => ⟨_, rfl, fun _ => rfl⟩) (fun A outer s H E f c' hr2 => (PD.pe (pd_callK1 (ok_need_gear T) hr2 (by rfl) T.g_need_gear T.F_need_gear.kp (kbn1 T.F_need_gear (fun _ _ _ _ _ _ _ => rfl)) (passD (L2.takes_of rfl rfl rfl rfl)) (pkr_cons (pd_var (pv 0)) pkr_nil))))))) (pb_var (pv 2)) (nomark _)))))
        (pds_one (pd_ret pd_bl))
        pds_nil)
      (pds_cons (pd_if (PWt.pt (pwt_and (pt_cmpD (do_eq hr.units) (pb_var (pv 2)) (pb_of pd_str) (nomark _)) (pwt_and1 (pt_cmpD (do_ne hr.units) (pb_of (pd_said2 LT (said_ok T) (LamX.pe_lamcall (T := [(P1, qn_right), (P2, qn_bounds)]) (TT := TTsaid T) (by rfl) T.g_law_said T.F_law_said.kp lk hcd bS sc_law_said rfl (.inl rfl) gv TB rfl (List.mem_cons_self) hu1 hr (LamX.lamS_by (sc := defScope s_law_right) (by decide +kernel)) rfl (fun _ _ _ _ _ => rfl) (fun A outer s H E f c' hr2 => (PD.pe (pd_call (ok_slots T) hr2 (by rfl) T.g_slots T.F_slots.kp T.b_slots (passD (L2.takes_of rfl rfl rfl rfl)) (par_cons (pd_var (pv 0)) (par_cons pd_str par_nil)))))))) (pb_of pd_str) (nomark _)))))
        (pds_one (pd_ret pd_bl))
        pds_nil)
      (pds_one (pd_ret (pd_cmp (do_eq hr.units) (pb_of (pd_callB (dc_reprE hgu hr) (by rfl) T.n_repr (by decide +kernel) (pb_var (pv 0)))) (pb_var (pv 1)) (nomark _)))))))) (fun ds Kd l h => ?_)
  obtain ⟨d, n, b, rfl, te, tb, hn, hb, q⟩ := h
  have tl : tellsE d := te.tells tb hn hb
  have sm : smal d = true := smal_bulk d (Nat.le_trans tb (Nat.le_trans hb (by decide)))
  have sa : smal (.str "a") = true := by decide +kernel
  have same : decide (d.shown = d.shown) = true := decide_eq_true rfl
  refine ⟨tl, rfl, d, rfl, sm, ?_⟩
  refine bw_of (b := isGear d) (fun hg => ?_) (fun hg => ?_)
  · have no : ∀ {Z : Prop}, isGear d = false → Z := fun {Z} z => by
      rw [hg] at z
      cases z
    refine ⟨(show 1 ≤ sizeLine by decide), ?_⟩
    refine ⟨rfl, d, rfl, sm, fun _ => ?_, no⟩
    refine ⟨by decide +kernel, by decide +kernel, ?_⟩
    refine ⟨d, rfl, sm, fun _ => ?_, no⟩
    refine ⟨by decide +kernel, by decide +kernel, ?_⟩
    refine ⟨by decide +kernel, by decide +kernel, ?_⟩
    refine ⟨tl, ?_⟩
    show Kd (.imm (.bool (decide (d.shown = d.shown))))
    rw [same]
    exact q
  · have no : ∀ {Z : Prop}, isGear d = true → Z := fun {Z} z => by
      rw [hg] at z
      cases z
    refine ⟨rfl, d, rfl, sm, no, fun _ => ?_⟩
    refine gear_ke ?_
    refine ⟨d, rfl, sm, no, fun _ => ?_⟩
    refine gear_ke ?_
    refine ⟨rfl, d, _, rfl, sm, sa, fun _ => ?_, no⟩
    refine gear_ke ?_
    refine ⟨tl, ?_⟩
    show Kd (.imm (.bool (decide (d.shown = d.shown))))
    rw [same]
    exact q
end
end L2.Pr

set_option Elab.async false
set_option linter.all false
set_option maxRecDepth 100000
set_option maxHeartbeats 16000000
set_option pp.maxSteps 900
/-! k03: _law_bounds_right -/
namespace L2.Pr
open PySem PySem.Spec PyProof.Rows L2.Sl L2.Dl
def slotB : D := .tuple [.str "c", .str "down"]
def movesB : D := .tuple (List.replicate 3 [.tuple [.tuple [.int 1, .int 0, .int 2, .int 3], .int (-1)]]).flatten
/-! the looks, so that they can be worked out -/
def ordC (n : Nat) (os : List D) : Bool := match intsD os with
  | some ns => ((List.range n).map fun k : Nat => (0 : Int) + (k : Int)).isPerm ns
  | none => false
theorem ordB_C (n : Nat) (os : List D) : ordB n os = ordC n os := by
  unfold ordB ordC
  cases intsD os with
  | none => rfl
  | some ns =>
    refine Bool.eq_iff_iff.mpr ⟨fun h => ?_, fun h => ?_⟩
    · have e := of_decide_eq_true h
      have p : (srtI ns).Perm ns := List.mergeSort_perm ns _
      rw [e] at p
      exact List.isPerm_iff.mpr p
    · refine decide_eq_true (srtI_of (List.isPerm_iff.mp h) ?_).symm
      exact List.Pairwise.map _ (fun a b (q : a < b) => by omega) List.pairwise_lt_range
def isMoveC (n : Nat) : D → Bool
  | .tuple [.tuple os, s] => decide (os.length = n) && (os.all (isWhole 0 ((n : Int) - 1)) && (ordC n os && (isWhole (-1) 1 s && !zeroB s)))
  | _ => false
theorem isMove_C {n : Nat} : isMove n = isMoveC n := by
  funext d
  unfold isMove isMoveC
  split
  · rw [ordB_C] <;> rfl
  · rename_i no
    first
    | rfl
    | (split
       · exact (no _ _ rfl).elim
       · rfl)
def isBoxC (sp : List D) : D → Bool
  | .tuple [name, .tuple ks, .tuple ms] => isName name && (decide (ks.length ≤ 4) && (ks.all (isSlot sp) && (decide (ms.length ≤ 3) && (ms.all (isMoveC ks.length) && ms.all (keeps ks)))))
  | _ => false
theorem isBox_C {sp : List D} : isBox sp = isBoxC sp := by
  funext d
  unfold isBox isBoxC
  split
  · rw [isMove_C] <;> rfl
  · rename_i no
    first
    | rfl
    | (split
       · exact (no _ _ _ rfl).elim
       · rfl)
def isGearC : D → Bool
  | .tuple [.tuple sp, .tuple bx] => (decide (1 ≤ sp.length) && decide (sp.length ≤ 3)) && (sp.all isName && (risesD sp && (decide (bx.length ≤ 8) && (bx.all (isBoxC sp) && risesD (bx.map boxName)))))
  | _ => false
theorem isGear_C {d : D} : isGear d = isGearC d := by
  unfold isGear isGearC
  split
  · rw [isBox_C] <;> rfl
  · rename_i no
    first
    | rfl
    | (split
       · exact (no _ _ rfl).elim
       · rfl)
def tellB (d : D) : D := bif isGearC d then PyData.list [.none] else .str "gear"
theorem tellB_t {d : D} (h : isGear d = true) : tellB d = .list [.none] := by
  unfold tellB
  rw [← isGear_C, h] <;> rfl
theorem tellB_f {d : D} (h : isGear d = false) : tellB d = .str "gear" := by
  unfold tellB
  rw [← isGear_C, h] <;> rfl
theorem ret_true {Kd : Slot → Prop} {b : Bool} (hb : b = true) (q : Kd (.imm (.bool true))) : Kd (bD b) := by
  rw [hb]
  exact q
def cBounds : CL := fun ds k => ds = [] ∧ k (.imm (.bool true))
section
variable {P : Program} {w : World} {K : PySem.W.Frag} {mg : Str → Option Value} {base : Heap} {k : Nat}
theorem ok_law_bounds_right {c P1 P2 : Addr} (T : Txt K mg) (sk : SaidKit T) (ne : P1 ≠ P2) (F : FunC K "_law_bounds_right" "_law_bounds_right" s_law_bounds_right T.f_law_bounds_right T.d_law_bounds_right c) (TB : LamX.TabB base mg c P2) :
    FnG P w K mg base CX0 (k + 9) T.f_law_bounds_right T.d_law_bounds_right [] (spL [(P1, qn_right), (P2, qn_bounds)] K 0 cBounds) := by
  obtain ⟨oc, od, kV, doc, pm, an, cdS, ct, osl, ed, lk, hcd⟩ := T.F_law_said.ex
  have bS := T.b_law_said
  rw [ed] at bS lk
  have LT : LamFam (drF w [(P1, qn_right), (P2, qn_bounds)] true) [(P1, qn_right), (P2, qn_bounds)] := drF_lam _
  have hu2 : ∀ p ∈ [(P1, qn_right), (P2, qn_bounds)], p.1 = P2 → p.2 = qn_bounds := fun p hp e => by
    simp only [List.mem_cons, List.not_mem_nil, or_false] at hp
    rcases hp with rfl | rfl
    · exact absurd e ne
    · rfl
  refine okLG (fam := drF w [(P1, qn_right), (P2, qn_bounds)] true) F sc_law_bounds_right (by decide) LT (fun H t => drF_in t) (fun A outer s H E hgu hr => by
    obtain ⟨X0, eX⟩ : ∃ X0 : Cx, X0 = (cxOf CX0 P w K mg base N_law_bounds_right "_law_bounds_right" (defScope s_law_bounds_right) T.f_law_bounds_right (.ref c) A outer s H E).nox := ⟨_, rfl⟩
    have gvb : ∀ (s' : Shared) (H' : Hp) (sc' : Scope) (C : Addr) (cl : List (Str × Addr)) (fp : List Addr), LamX.GivesTo ((cxOf CX0 P w K mg base N_law_bounds_right "_law_bounds_right" (defScope s_law_bounds_right) T.f_law_bounds_right (.ref c) A outer s H E).nox.blk s' H' sc' (compEnvC sc' cl C (cxOf CX0 P w K mg base N_law_bounds_right "_law_bounds_right" (defScope s_law_bounds_right) T.f_law_bounds_right (.ref c) A outer s H E).nox.env) fp) N_law_said "_law_said" (defScope s_law_said) T.f_law_said cdS (defBody s_law_said) "deed" qn_bounds (TTsaid T) :=
      fun s' H' sc' C cl fp => said_gives (X := ((cxOf CX0 P w K mg base N_law_bounds_right "_law_bounds_right" (defScope s_law_bounds_right) T.f_law_bounds_right (.ref c) A outer s H E).nox.blk s' H' sc' (compEnvC sc' cl C (cxOf CX0 P w K mg base N_law_bounds_right "_law_bounds_right" (defScope s_law_bounds_right) T.f_law_bounds_right (.ref c) A outer s H E).nox.env) fp)) (k := k) T sk hgu fun env => (hr.mono (show k + 1 ≤ k + 8 by omega)).deeper env
    exact (pds_cons (pd_par3I rfl (pg_name (i := 0) sc_law_bounds_right.nd rfl (.inl rfl)) (pg_name (i := 1) sc_law_bounds_right.nd rfl (.inr rfl)) (pg_name (i := 2) sc_law_bounds_right.nd rfl (.inr rfl)) (par_cons (pd_tup (par_cons pd_str (par_cons pd_str (par_cons pd_str par_nil)))) (par_cons (pd_tup (par_cons pd_str (par_cons pd_str par_nil))) (par_cons (pd_op do_repT (pb_of (pd_tup (par_cons (pd_tup (par_cons (pd_tup (par_cons pd_int (par_cons pd_int (par_cons pd_int (par_cons pd_int par_nil))))) (par_cons (pd_neg pd_int) par_nil))) par_nil))) (pb_of pd_int)) par_nil))))
      (pds_cons (pd_setLc (i := 3) (by rfl) sc_law_bounds_right.nd rfl rfl (sw_true rfl rfl rfl (by decide +kernel)) (pit_seq (pb_of pd_str)) (blkOk_by (own := [("name", 4)]) (N := N_law_bounds_right) (sc := defScope s_law_bounds_right) (by decide +kernel)) (fun _ _ _ _ _ => (pgt_name (pg_name (i := 4) sc_law_bounds_right.nd rfl (.inl rfl)))) (fun _ _ _ _ _ => ptd_nil) (fun _ _ _ _ _ => (pd_tup (par_cons (pd_var (pv 4)) (par_cons (pd_op do_repT (pb_of (pd_tup (par_cons (pd_var (pv 1)) par_nil))) (pb_of pd_int)) (par_cons (pd_var (pv 2)) par_nil))))))
      (pds_cons (pd_set (i := 5) sc_law_bounds_right.nd rfl (.inl rfl) (pd_tup (par_cons pd_str (par_cons (pd_op do_repT (pb_of (pd_tup (par_cons (pd_var (pv 1)) par_nil))) (pb_of pd_int)) (par_cons (pd_tup (par_cons (pd_tup (par_cons (pd_tup (par_cons pd_int (par_cons pd_int (par_cons pd_int (par_cons pd_int (par_cons pd_int par_nil)))))) (par_cons pd_int par_nil))) par_nil)) par_nil)))))
      (pds_cons (pd_set (i := 6) sc_law_bounds_right.nd rfl (.inl rfl) (pd_lst (par_cons (pd_tup (par_cons (pd_op do_add (pb_var (pv 0)) (pb_of (pd_tup (par_cons pd_str par_nil)))) (par_cons (pd_tup par_nil) par_nil))) (par_cons (pd_tup (par_cons (pd_var (pv 0)) (par_cons (pd_callTy dc_tuple (by rfl) T.n_tuple (by decide +kernel) (pb_var (pv 3))) par_nil))) (par_cons (pd_tup (par_cons (pd_var (pv 0)) (par_cons (pd_tup (par_cons (pd_var (pv 5)) par_nil)) par_nil))) (par_cons (pd_tup (par_cons (pd_tup par_nil) (par_cons (pd_tup par_nil) par_nil))) par_nil))))))
      (pds_cons (pd_expr (pd_append (pv 6) (pd_tup (par_cons (pd_var (pv 0)) (par_cons (pd_tup (par_cons (pd_tup (par_cons pd_str (par_cons (pd_op do_repT (pb_of (pd_tup (par_cons (pd_var (pv 1)) par_nil))) (pb_of pd_int)) (par_cons (pd_op do_add (pb_var (pv 2)) (pb_of (pd_slice (pb_var (pv 2)) pot_none (pot_some pd_int)))) par_nil)))) par_nil)) par_nil)))))
      (pds_cons (pd_set (i := 6) sc_law_bounds_right.nd rfl (.inl rfl) (pd_op do_add (pb_var (pv 6)) (pb_of (pd_lst (par_cons (pd_tup (par_cons (pd_tup (par_cons pd_str par_nil)) (par_cons (pd_tup par_nil) par_nil))) (par_cons (pd_tup (par_cons (pd_var (pv 0)) (par_cons (pd_tup (par_cons (pd_tup (par_cons pd_str (par_cons (pd_tup par_nil) (par_cons (pd_tup (par_cons (pd_tup (par_cons (pd_tup par_nil) (par_cons pd_int par_nil))) par_nil)) par_nil)))) par_nil)) par_nil))) (par_cons (pd_tup (par_cons (pd_var (pv 0)) (par_cons (pd_tup (par_cons (pd_tup (par_cons pd_str (par_cons (pd_tup par_nil) (par_cons (pd_tup (par_cons (pd_tup (par_cons (pd_tup par_nil) (par_cons pd_bl par_nil))) par_nil)) par_nil)))) par_nil)) par_nil))) par_nil)))))))
      (pds_cons (pd_set (i := 6) sc_law_bounds_right.nd rfl (.inl rfl) (pd_op do_add (pb_var (pv 6)) (pb_of (pd_lst (par_cons (pd_tup (par_cons (pd_rev (pb_var (pv 0))) (par_cons (pd_tup par_nil) par_nil))) (par_cons (pd_tup (par_cons (pd_var (pv 0)) (par_cons (pd_callTy dc_tuple (by rfl) T.n_tuple (by decide +kernel) (pb_of (pd_revL (pb_of (pd_slice (pb_var (pv 3)) pot_none (pot_some pd_int)))))) par_nil))) (par_cons (pd_tup (par_cons (pd_var (pv 0)) (par_cons (pd_callTy dc_tuple (by rfl) T.n_tuple (by decide +kernel) (pb_of (pd_repO (pd_slice (pb_var (pv 3)) pot_none (pot_some pd_int))))) par_nil))) par_nil)))))))
      (pds_cons (pd_set (i := 7) sc_law_bounds_right.nd rfl (.inl rfl) (pd_lst (par_cons (pd_tup (par_cons (pd_var (pv 0)) (par_cons (pd_callTy dc_tuple (by rfl) T.n_tuple (by decide +kernel) (pb_of (pd_slice (pb_var (pv 3)) pot_none (pot_some pd_int)))) par_nil))) (par_cons (pd_tup (par_cons (pd_tup (par_cons pd_str par_nil)) (par_cons (pd_tup par_nil) par_nil))) (par_cons (pd_tup (par_cons (pd_var (pv 0)) (par_cons (pd_tup (par_cons (pd_tup (par_cons pd_str (par_cons (pd_tup par_nil) (par_cons (pd_tup (par_cons (pd_tup (par_cons (pd_tup par_nil) (par_cons (pd_neg pd_int) par_nil))) (par_cons (pd_tup (par_cons (pd_tup par_nil) (par_cons pd_int par_nil))) (par_cons (pd_tup (par_cons (pd_tup par_nil) (par_cons pd_int par_nil))) par_nil)))) par_nil)))) par_nil)) par_nil))) par_nil)))))
      (pds_one (pd_ret (pd_cmp (do_eq hr.units) (pb_of (pd_lc (by rfl) sc_law_bounds_right.nd (pit_seq (pb_of (pd_op do_add (pb_var (pv 6)) (pb_var (pv 7))))) (blkOk_by (own := [("one", 8)]) (N := N_law_bounds_right) (sc := defScope s_law_bounds_right) (by decide +kernel)) (fun _ _ _ _ _ => (pgt_name (pg_name (i := 8) sc_law_bounds_right.nd rfl (.inr rfl)))) (fun _ _ _ _ _ => ptd_nil) (fun _ _ _ _ _ => (pd_said2 LT (said_ok T) (LamX.pe_lamcall (T := [(P1, qn_right), (P2, qn_bounds)]) (TT := TTsaid T) (by rfl) T.g_law_said T.F_law_said.kp lk hcd bS sc_law_said rfl (.inl rfl) (gvb _ _ _ _ _ _) TB rfl (List.mem_cons_of_mem _ List.mem_cons_self) hu2 hr (LamX.lamS_by (sc := relS _ (defScope s_law_bounds_right)) (by decide +kernel)) rfl (fun _ _ _ _ _ => rfl) (fun A outer s H E f c' hr2 => (PD.pe (pd_call (ok_need_gear T) hr2 (by rfl) T.g_need_gear T.F_need_gear.kp T.b_need_gear (passD (L2.takes_of rfl rfl rfl rfl)) (par_cons (pd_var (pv 8)) par_nil))))))))) (pb_of (pd_op do_add (pb_of (pd_repL (par_cons pd_str par_nil))) (pb_of (pd_repL (par_cons (pd_lst (par_cons pd_non par_nil)) par_nil))))) (nomark _))))))))))))) (fun ds Kd l h => ?_)
  obtain ⟨rfl, q⟩ := h
  have z0 : 0 ≤ sizeLine := by decide
  have z1 : 1 ≤ sizeLine := by decide
  have z2 : 2 ≤ sizeLine := by decide
  have z3 : 3 ≤ sizeLine := by decide
  have z4 : 4 ≤ sizeLine := by decide
  have z5 : 5 ≤ sizeLine := by decide
  refine ⟨z3, z2, z4, z2, z1, List.cons_ne_nil _ _, by decide, by decide, by decide, ?_⟩
  refine compMapD (lv := none) (f := fun d => PyData.tuple [d, .tuple (List.replicate 4 [slotB]).flatten, movesB]) True.intro (by rfl) _ [] _ (by decide) (fun d hd Ky h => ⟨z1, List.cons_ne_nil _ _, by decide, by decide, by decide, z3, h⟩) ?_
  refine ⟨z1, List.cons_ne_nil _ _, by decide, by decide, by decide, z5, z2, z1, z3, ?_⟩
  refine ⟨z1, z4, z0, z2, z2, z1, z2, z0, z0, z2, z4, ?_⟩
  refine ⟨⟨_, rfl⟩, z1, List.cons_ne_nil _ _, by decide, by decide, by decide, z4, z3, z1, z2, z5, ?_⟩
  refine ⟨z1, z0, z2, z0, z0, z2, z1, z3, z1, z2, ?_⟩
  refine ⟨z0, z0, z2, z1, z3, z1, z2, z3, ?_⟩
  refine ⟨(show 5 + 3 ≤ sizeLine by decide), ?_⟩
  refine ⟨z0, z2, z2, by decide +kernel, by decide, by decide, z2, z3, ?_⟩
  refine ⟨(show 8 + 3 ≤ sizeLine by decide), ?_⟩
  refine ⟨z2, z1, z0, z2, z0, z0, z2, z0, z2, z0, z2, z3, z3, z1, z2, z3, ?_⟩
  refine ⟨(show 11 + 3 ≤ sizeLine by decide), ?_⟩
  refine compMapD (lv := none) (f := tellB) True.intro (by rfl) _ [] _ (by decide) (fun d hd Ky h => ?_) ?_
  · refine ⟨rfl, d, rfl, ?_, fun hg => ?_, fun hg => ?_⟩
    · exact List.all_eq_true.mp (by decide +kernel) d hd
    · refine (?_ : Ky (PyData.list [.none]) _)
      rw [tellB_t hg] at h
      exact h
    · refine gear_ke ?_
      rw [tellB_f hg] at h
      exact h
  refine ⟨by decide, by decide, by decide, z1, by decide, by decide, by decide, (show 11 + 3 ≤ sizeLine by decide), ?_⟩
  refine ⟨by decide +kernel, by decide +kernel, ?_⟩
  exact ret_true (by decide +kernel) q
end
end L2.Pr

set_option Elab.async false
set_option linter.all false
set_option maxRecDepth 100000
set_option maxHeartbeats 8000000
/-! k03: drawn gears: found boxes, and how long they are shown -/
namespace L2.Pr
open PySem PySem.Spec PyProof.Rows L2.Sl L2.Dl
theorem find_map {bs : List Bx} (nd : (bs.map (·.name)).Nodup) {b : Bx} (hb : b ∈ bs) : (bs.map bxD).find? (fun x => eqS (boxName x) (.str b.name)) = some (bxD b) := by
  induction bs with
  | nil => cases hb
  | cons c r ih =>
    rw [List.map_cons] at nd
    obtain ⟨n1, n2⟩ := List.nodup_cons.mp nd
    rw [List.map_cons]
    rcases List.mem_cons.mp hb with rfl | hb
    · rw [List.find?_cons_of_pos]
      exact (decide_eq_true rfl : decide (b.name = b.name) = true)
    · rw [List.find?_cons_of_neg]
      · exact ih n2 hb
      · have ne : c.name ≠ b.name := fun z => n1 (by rw [z]; exact List.mem_map.mpr ⟨b, hb, rfl⟩)
        show ¬ decide (c.name = b.name) = true
        rw [decide_eq_false ne]
        decide
theorem find_gear {g : Gr} (ok : okG g) {b : Bx} (hb : b ∈ g.2) : findBox (grD g) (.str b.name) = some (bxD b) := by
  unfold findBox
  rw [if_pos (okN_name (ok.bx b hb).nm)]
  exact find_map ok.bnd hb
structure TB (n b : Nat) (d : D) : Prop where
  te : TE n d
  bk : d.bulk ≤ b
theorem TB.up {n b n2 b2 : Nat} {d : D} (h : TB n b d) (h1 : n ≤ n2) (h2 : b ≤ b2) : TB n2 b2 d := ⟨h.te.up h1, Nat.le_trans h.bk h2⟩
theorem tb_str {z : Str} {b : Nat} (h : okC z) (l : z.length ≤ b) : TB 0 b (.str z) := ⟨⟨by simp [PyData.showable], rfl, by simp [PyData.depth], by
  simp only [PyData.leavesShort, List.all_eq_true, decide_eq_true_eq]
  exact fun c hc => Nat.lt_of_lt_of_le (h c hc) (by decide)⟩, by simp only [PyData.bulk]; exact l⟩
theorem tb_int {i : Int} (h : decide (i.natAbs.log2 < 1920) = true) (l : decide ((PyData.shown (.int i)).length ≤ 40) = true) : TB 0 0 (.int i) := ⟨⟨by simpa only [PyData.showable] using h, rfl, by simp [PyData.depth], by simpa only [PyData.leavesShort] using l⟩, by simp [PyData.bulk]⟩
theorem tb_bulk {b : Nat} : ∀ {ds : List D}, (∀ d ∈ ds, d.bulk ≤ b) → PyData.bulkAll ds ≤ ds.length * (b + 1)
  | [], _ => by simp [PyData.bulkAll]
  | d :: ds, h => by
    have h1 := h d List.mem_cons_self
    have h2 := tb_bulk fun x hx => h x (List.mem_cons_of_mem _ hx)
    simp only [PyData.bulkAll, List.length_cons, Nat.add_mul]
    omega
theorem tb_tup {n b m : Nat} {ds : List D} (h : ∀ d ∈ ds, TB n b d) (l : ds.length ≤ m) : TB (n + 1) (m * (b + 1)) (.tuple ds) :=
  ⟨te_tup fun d hd => (h d hd).te, by
    simp only [PyData.bulk]
    exact Nat.le_trans (tb_bulk fun d hd => (h d hd).bk) (Nat.mul_le_mul_right _ l)⟩
theorem tb_2 {n b : Nat} {x y : D} (h1 : TB n b x) (h2 : TB n b y) : ∀ d ∈ [x, y], TB n b d := fun d hd => by
  simp only [List.mem_cons, List.not_mem_nil, or_false] at hd
  rcases hd with rfl | rfl
  · exact h1
  · exact h2
theorem tb_3 {n b : Nat} {x y z : D} (h1 : TB n b x) (h2 : TB n b y) (h3 : TB n b z) : ∀ d ∈ [x, y, z], TB n b d := fun d hd => by
  simp only [List.mem_cons, List.not_mem_nil, or_false] at hd
  rcases hd with rfl | rfl | rfl
  · exact h1
  · exact h2
  · exact h3
theorem tb_list {n b m : Nat} {ds : List D} (h : ∀ d ∈ ds, TB n b d) (l : ds.length ≤ m) : TB (n + 1) (m * (b + 1)) (.list ds) :=
  ⟨te_list fun d hd => (h d hd).te, by
    simp only [PyData.bulk]
    exact Nat.le_trans (tb_bulk fun d hd => (h d hd).bk) (Nat.mul_le_mul_right _ l)⟩
def okR (n : Nat) (z : Mv) : Prop := z.1.length = n ∧ (∀ k ∈ z.1, k < n) ∧ (z.2 = 1 ∨ z.2 = -1)
theorem okR_ord {hs : List Seat} {mv : Mv} (h : okMv hs mv) : okR hs.length mv := ⟨by rw [h.1.1.length_eq, List.length_range], fun k hk => List.mem_range.mp (h.1.1.mem_iff.mp hk), h.2⟩
theorem tb_name {z : Str} (h : okN z) : TB 0 8 (.str z) := tb_str (fun c hc => by
  have := h.2.2 c hc
  unfold letter at this
  exact Nat.lt_of_lt_of_le (show c < 1000 by omega) (by decide)) h.2.1
theorem tb_seat {h : Seat} (o : okS h) : TB 1 18 (slD h) := tb_tup (n := 0) (b := 8) (m := 2) (tb_2 (tb_name o.1) (by rcases o.2 with e | e <;> rw [e] <;> exact tb_str (okC_of _) (by decide +kernel))) (Nat.le_refl _)
theorem tb_seats {hs : List Seat} (o : ∀ h ∈ hs, okS h) (l : hs.length ≤ 4) : TB 2 76 (.tuple (slsD hs)) := tb_tup (n := 1) (b := 18) (m := 4) (fun d hd => by
  obtain ⟨h, hh, rfl⟩ := List.mem_map.mp hd
  exact tb_seat (o h hh)) (by rw [slsD, List.length_map]; exact l)
theorem tb_nat : ∀ {k : Nat}, k < 4 → TB 0 0 (.int (k : Int))
  | 0, _ => tb_int (by decide +kernel) (by decide +kernel)
  | 1, _ => tb_int (by decide +kernel) (by decide +kernel)
  | 2, _ => tb_int (by decide +kernel) (by decide +kernel)
  | 3, _ => tb_int (by decide +kernel) (by decide +kernel)
  | k + 4, h => absurd h (by omega)
theorem tb_sign {s : Int} (h : s = 1 ∨ s = -1) : TB 0 0 (.int s) := by
  rcases h with rfl | rfl <;> exact tb_int (by decide +kernel) (by decide +kernel)
theorem tb_mv {n : Nat} {z : Mv} (hn : n ≤ 4) (o : okR n z) : TB 2 10 (mvD z) := tb_tup (n := 1) (b := 4) (m := 2) (tb_2 (tb_tup (n := 0) (b := 0) (m := 4) (fun d hd => by
  obtain ⟨k, hk, rfl⟩ := List.mem_map.mp hd
  exact tb_nat (Nat.lt_of_lt_of_le (o.2.1 k hk) hn)) (by rw [List.length_map, o.1]; exact hn)) ((tb_sign o.2.2).up (by decide) (by decide))) (Nat.le_refl _)
theorem tb_mvs {n m : Nat} {zs : List Mv} (hn : n ≤ 4) (o : ∀ z ∈ zs, okR n z) (l : zs.length ≤ m) : TB 3 (m * 11) (.tuple (zs.map mvD)) := tb_tup (n := 2) (b := 10) (m := m) (fun d hd => by
  obtain ⟨z, hz, rfl⟩ := List.mem_map.mp hd
  exact tb_mv hn (o z hz)) (by rw [List.length_map]; exact l)
theorem tb_box {sp : List Str} {b : Bx} (o : okB sp b) : TB 4 231 (bxD b) := tb_tup (n := 3) (b := 76) (m := 3) (tb_3 ((tb_name o.nm).up (by decide) (by decide)) ((tb_seats (fun h hh => (o.sl h hh).2) o.l4).up (by decide) (by decide)) ((tb_mvs o.l4 (fun z hz => okR_ord (o.mv z hz)) o.l3).up (by decide) (by decide))) (Nat.le_refl _)
theorem tb_boxes {g : Gr} (ok : okG g) : ∀ d ∈ g.2.map bxD, TB 4 231 d := fun d hd => by
  obtain ⟨b, hb, rfl⟩ := List.mem_map.mp hd
  exact tb_box (ok.bx b hb)
theorem tb_spaces {g : Gr} (ok : okG g) : TB 1 27 (.tuple (sD g.1)) := tb_tup (n := 0) (b := 8) (m := 3) (fun d hd => by
  obtain ⟨z, hz, rfl⟩ := List.mem_map.mp hd
  exact tb_name (ok.nm z hz)) (by rw [sD, List.length_map]; exact ok.s3)
theorem tb_bxs {g : Gr} (ok : okG g) : TB 5 1856 (.tuple (g.2.map bxD)) := tb_tup (m := 8) (tb_boxes ok) (by rw [List.length_map]; exact ok.b8)
theorem tb_gear {g : Gr} (ok : okG g) : TB 6 3714 (grD g) := tb_tup (n := 5) (b := 1856) (m := 2) (tb_2 ((tb_spaces ok).up (by decide) (by decide)) (tb_bxs ok)) (Nat.le_refl _)
end L2.Pr

set_option Elab.async false
set_option linter.all false
set_option maxRecDepth 100000
set_option maxHeartbeats 16000000
set_option pp.maxSteps 600
/-! k03: the law -/
namespace L2.Pr
open PySem PySem.Spec PyProof.Rows L2.Sl L2.Dl
def spLaw (K : PySem.W.Frag) (T : List (Addr × Str)) : Sp := fun vs H Q _ => ∃ (a : Addr) (ns : List Int), vs = [.ref a] ∧ SqL K H a (ns.map V.int) ∧ ns.length ≤ 63 ∧ LamX.Tabs T H ∧ ∀ H2, Q (.bl true) H2
/-- where the thing of the draws stands, and the tables -/
theorem drF_on {w : World} {T : List (Addr × Str)} {l : Bool} {H : Hp} {m cl : Addr} {n : Nat} (D : Drw H m cl n) (t : LamX.Tabs T H) : (drF w T l).IN H (m :: cl :: T.map (·.1)) ∧ (drF w T l).DR H (.ref m) n (m :: cl :: T.map (·.1)) := by
  obtain ⟨s', tt, k, cs, h1, h2, r⟩ := id D
  refine ⟨⟨fun r hr => List.mem_cons_of_mem _ (List.mem_cons_of_mem _ (List.mem_map.mpr ⟨r, hr, rfl⟩)), t, fun a ha => ?_⟩, m, cl, rfl, rfl, D, fun r hr => ?_⟩
  · rcases List.mem_cons.mp ha with rfl | ha
    · exact .inl ⟨_, h1, by intro _ z; cases z⟩
    · rcases List.mem_cons.mp ha with rfl | ha
      · exact .inl ⟨_, h2, by intro _ z; cases z⟩
      · exact .inr ha
  · obtain ⟨ps, e, _⟩ := t r hr
    rw [e]
    simp
theorem drw_extN {H H' : Hp} {m cl : Addr} {n : Nat} (D : Drw H m cl n) (e : LamX.ExtN H H') : Drw H' m cl n := by
  obtain ⟨s', tt, k, cs, h1, h2, r⟩ := D
  exact ⟨s', tt, k, cs, e _ _ h1 (by intro _ z; cases z), e _ _ h2 (by intro _ z; cases z), r⟩
theorem seq_extN {K : PySem.W.Frag} {H H' : Hp} {a : Addr} {xs : List V} (e : LamX.ExtN H H') (h : SqL K H a xs) : SqL K H' a xs := by
  rcases h with (h | ⟨o, h⟩) | h
  · exact .inl (.inl (e _ _ h (by intro _ z; cases z)))
  · exact .inl (.inr ⟨o, e _ _ h (by intro _ z; cases z)⟩)
  · exact .inr h
theorem pds_is {fam : Fam} {X : Cx} {E : XK} {b : List Stmt} {t : TDS} (h : PDss fam X E b t) : PDss fam X E b t := h
theorem comp_invD {lv : Option (Nat × List D)} {vs : List Nat} {g : TGd} {tt : TTt} {te : TD} (Inv : Nat → List D → Env' → Prop) {k : List D → Env' → Prop} (xs : List D) (acc : List D) (Γ : Env')
    (st : ∀ (j : Nat) (x : D) (acc : List D) (Γ : Env'), xs[j]? = some x → Inv (0 + j) acc Γ → lentC lv Γ ∧ plainE Γ vs = true ∧ ∀ (Ky : D → Env' → Prop) (Kn : Env' → Prop), (∀ y Γ', Inv (0 + j + 1) (acc ++ [y]) Γ' → Ky y Γ') → (∀ Γ', Inv (0 + j + 1) acc Γ' → Kn Γ') →
      g x (wipeE Γ vs) fun Γ1 => tt Γ1 (fun b Γ2 => bw b (te Γ2 (fun s Γ3 => match s.d? with
        | some y => Ky y (backE Γ Γ3 vs)
        | none => False) nE) (Kn (backE Γ Γ2 vs))) nE)
    (fin : ∀ acc Γ, Inv (0 + xs.length) acc Γ → lentC lv Γ ∧ k acc (unlend lv Γ)) (sz : ∀ n acc Γ, Inv n acc Γ → n < 0 + xs.length → acc.length < sizeLine) (h : Inv 0 acc Γ) : compD lv vs g tt te xs acc Γ k := by
  have z := comp_inv (e := fun d : D => d) Inv xs 0 acc Γ st fin sz h
  rwa [List.map_id'] at z
def bodyOf : List Stmt → List Stmt
  | _ :: _ :: .For _ _ b _ _ :: _ => b
  | _ => []
/-- a block by data, begun where only the thing of the draws is known of -/
theorem iv_start {w : World} {K : PySem.W.Frag} {T : List (Addr × Str)} {H : Hp} {σ : St} {m cl : Addr} {n r : Nat} (D : Drw H m cl n) (t : LamX.Tabs T H) (e : σ[1]? = some (some (.ref m))) (l : σ.length = r + 2) :
    IV (drF w T true) K ⟨noTab H, fun _ => none, m :: cl :: T.map (·.1)⟩ (m :: cl :: T.map (·.1)) σ H (fun _ => none) (none :: some (.drw n) :: List.replicate r none) := by
  obtain ⟨inn, dr⟩ := drF_on (w := w) (l := true) D t
  have at_ : ∀ {i : Nat} {s : Slot}, (none :: some (Slot.drw n) :: List.replicate r none)[i]? = some (some s) → i = 1 ∧ s = .drw n := fun {i s} z => by
    match i, z with
    | 0, z => cases z
    | 1, z =>
      cases z
      exact ⟨rfl, rfl⟩
    | i + 2, z =>
      have z : (List.replicate r (none : Option Slot))[i]? = some (some s) := z
      rw [List.getElem?_replicate] at z
      split at z <;> cases z
  refine ⟨(fun _ _ z => nomatch z), fun a o e _ => (noTab_at e).1, (fun _ _ z => nomatch z), Same.refl _, ?_, fun i s z => ?_, fun i j _ oi _ => ?_, fun _ z => z, fun a m => ⟨(drF w T true).trk dr a m, rfl, .inr m⟩, fun i j n m ei ej => ?_, inn, (fun _ _ z => nomatch z), fun _ => noTab_FD⟩
  · rw [l]
    simp
  · obtain ⟨rfl, rfl⟩ := at_ z
    exact ⟨_, e, dr⟩
  · obtain ⟨s, z, o⟩ := oi
    obtain ⟨_, rfl⟩ := at_ z
    cases o
  · rw [(at_ ei).1, (at_ ej).1]
section
variable {P : Program} {w : World} {K : PySem.W.Frag} {mg : Str → Option Value} {base : Heap} {k : Nat}
theorem ok_law {c1 c2 P1 P2 : Addr} (T : Txt K mg) (sk : SaidKit T) (ne : P1 ≠ P2) (F1 : FunC K "_law_right" "_law_right" s_law_right T.f_law_right T.d_law_right c1) (TB1 : LamX.TabB base mg c1 P1) (F2 : FunC K "_law_bounds_right" "_law_bounds_right" s_law_bounds_right T.f_law_bounds_right T.d_law_bounds_right c2) (TB2 : LamX.TabB base mg c2 P2) :
    FnG P w K mg base CX0 (k + 21) T.f_law T.d_law ["script"] (spLaw K [(P1, qn_right), (P2, qn_bounds)]) := by
  refine L2.Sl.okG T.F_law sc_law (fun vs H Q E h => ?_) (fun cdv A outer s H vs Q E hgu hr h => ?_)
  · obtain ⟨a, ns, rfl, _⟩ := h
    rfl
  · obtain ⟨a, ns, rfl, hS, hlen, hT, q⟩ := h
    have LT : LamFam (drF w [(P1, qn_right), (P2, qn_bounds)] true) [(P1, qn_right), (P2, qn_bounds)] := drF_lam _
    obtain ⟨tb, pb, hb⟩ := pds_is (fam := drF w [(P1, qn_right), (P2, qn_bounds)] true) (X := (cxOf CX0 P w K mg base N_law "law" (defScope s_law) T.f_law cdv A outer s H E).nox) (E := E0) (b := bodyOf (defBody s_law)) (pds_cons (pd_set (i := 3) sc_law.nd rfl (.inr rfl) (pd_callM (ok_law_gear (Tb := [(P1, qn_right), (P2, qn_bounds)]) (l := true) (k := k + 16) T) hr (by rfl) T.g_law_gear T.F_law_gear.kp T.b_law_gear passQ (pv 1) par_nil))
        (pds_cons (pd_setLc (i := 4) (by rfl) sc_law.nd rfl rfl (sw_true rfl rfl rfl (by decide +kernel)) (pit_range1 (by rfl) T.n_range (par_cons pd_int par_nil)) (blkOk_by (own := [("k", 5)]) (N := N_law) (sc := defScope s_law) (by decide +kernel)) (fun _ _ _ _ _ => (pgt_name (pg_name (i := 5) sc_law.nd rfl (.inl rfl)))) (fun _ _ _ _ _ => ptd_nil) (fun _ _ _ _ _ => (pd_callM (ok_law_bent (Tb := [(P1, qn_right), (P2, qn_bounds)]) (l := true) (k := k + 7) T 8) hr (by rfl) T.g_law_bent T.F_law_bent.kp T.b_law_bent passL (pv 1) (par_cons (pd_var (pv 3)) par_nil))))
        (pds_cons (pd_for PassesOwn.never rfl (pit_seq (pb_of (pd_op do_add (pb_of (pd_op do_add (pb_of (pd_op do_add (pb_of (pd_lst (par_cons (pd_var (pv 3)) par_nil))) (pb_var (pv 4)))) (pb_of (pd_lc (by rfl) sc_law.nd (pit_seq (pb_of (pd_slice (pb_var (pv 4)) pot_none (pot_some pd_int)))) (blkOk_by (own := [("one", 7)]) (N := N_law) (sc := defScope s_law) (by decide +kernel)) (fun _ _ _ _ _ => (pgt_name (pg_name (i := 7) sc_law.nd rfl (.inl rfl)))) (fun _ _ _ _ _ => ptd_nil) (fun _ _ _ _ _ => (pd_callM (ok_law_bent (Tb := [(P1, qn_right), (P2, qn_bounds)]) (l := true) (k := k + 7) T 8) hr (by rfl) T.g_law_bent T.F_law_bent.kp T.b_law_bent passL (pv 1) (par_cons (pd_var (pv 7)) par_nil))))))) (pb_of (pd_lst (par_cons (pd_var (pv 3)) par_nil)))))) (pgt_name (pg_name (i := 6) sc_law.nd rfl (.inl rfl)))
          (pds_one (pd_if (pt_notD (pt_valD (pd_callLG LT (ok_law_right (k := k + 11) T sk ne F1 TB1) hgu hr (by rfl) T.g_law_right T.F_law_right.kp T.b_law_right pass0 (par_cons (pd_var (pv 6)) par_nil))))
            (pds_one (pd_ret pd_bl))
            pds_nil)))
        (pds_cons (pd_if (pt_notD (pt_valD (pd_call (ok_law_is_gear (k := k + 16) T) hr (by rfl) T.g_law_is_gear T.F_law_is_gear.kp T.b_law_is_gear passQ (par_cons (pd_var (pv 3)) par_nil))))
          (pds_one (pd_ret pd_bl))
          pds_nil)
        (pds_one (pd_for PassesOwn.never rfl (pit_seq (pb_of (pd_ix (pb_var (pv 3)) (pb_of pd_int) (fun _ _ => rfl)))) (pgt_tup (n := 3) rfl (pgts_cons (pgt_name (pg_name (i := 8) sc_law.nd rfl (.inl rfl))) (pgts_cons (pgt_name (pg_name (i := 9) sc_law.nd rfl (.inl rfl))) (pgts_cons (pgt_name (pg_name (i := 10) sc_law.nd rfl (.inl rfl))) pgts_nil))))
          (pds_one (pd_if (pt_cmpD (do_ne hr.units) (pb_of (pd_callB (dc_reprE hgu hr) (by rfl) T.n_repr (by decide +kernel) (pb_of (pd_lst (par_cons (pd_call (ok_slots (k := k + 14) T) hr (by rfl) T.g_slots T.F_slots.kp T.b_slots passQ (par_cons (pd_var (pv 3)) (par_cons (pd_var (pv 8)) par_nil))) (par_cons (pd_callSw (ok_slots (k := k + 14) T) hr (by rfl) T.g_slots T.F_slots.kp (kbnSw T.F_slots (fun _ _ _ _ _ _ _ _ => rfl)) passQ (pkr_cons (pd_var (pv 8)) (pkr_cons (pd_var (pv 3)) pkr_nil))) par_nil)))))) (pb_of (pd_callB (dc_reprE hgu hr) (by rfl) T.n_repr (by decide +kernel) (pb_of (pd_lst (par_cons (pd_var (pv 9)) (par_cons (pd_var (pv 9)) par_nil)))))) (nomark _))
            (pds_one (pd_ret pd_bl))
            pds_nil))))))))
    refine ⟨_, (pss_cons (ps_set (i := 1) sc_law.nd rfl (.inr rfl) (pe_call (ok_st (k := k + 19) T.F_law_start T.n_len) hr (by rfl) T.g_law_start T.F_law_start.kp T.b_law_start .nil pass0 (pa_cons (pv 0) pa_nil)))
      (pss_cons (ps_if (pt_not (pt_val (pe_callG0 (ok_law_bounds_right (k := k + 11) T sk ne F2 TB2) hgu hr (by rfl) T.g_law_bounds_right T.F_law_bounds_right.kp T.b_law_bounds_right .nil pass0)))
          (pss_one (ps_ret pe_bl))
          pss_nil)
      (pss_cons (ps_for PassesOwn.never rfl (pi_range1 (by rfl) T.n_range (pa_cons (pe_op op_add pe_int (pe_callB (call_min2 rfl) (by rfl) T.n_min (by decide +kernel) (pa_cons pe_int (pa_cons (pe_callB call_len_seq (by rfl) T.n_len (by decide +kernel) (pa_cons (pv 0) pa_nil)) pa_nil)))) pa_nil)) (pg_name (i := 2) sc_law.nd rfl (.inl rfl)) pb)
      (pss_one (ps_ret pe_bl))))), ?_⟩
    refine ⟨_, rfl, a, ns, rfl, hS, hlen, fun H1 m cl S1 nm nc ne1 D1 => ?_⟩
    have T1 := LamX.Tabs.ext hT S1
    refine ⟨fun _ => none, [], fun s => s = .imm (.bool true), rfl, (fun _ _ z => nomatch z), (fun _ _ z => nomatch z), T1, .nil, ⟨rfl, rfl⟩, fun s v H2 F2 hk eN T2 _ _ _ _ _ rl => ?_⟩
    subst hk
    have rl : Dq K F2 v (.bool true) := rl
    cases rl
    have D2 := drw_extN D1 eN
    have hS2 := seq_extN eN (S1.seq hS)
    refine ⟨_, rfl, iteF ?_⟩
    obtain ⟨n, hn⟩ : ∃ n : Nat, (3 : Int) + (if ((ns.map V.int).length : Int) < 4 then ((ns.map V.int).length : Int) else 4) = (n : Int) := ⟨(3 + (if ((ns.map V.int).length : Int) < 4 then ((ns.map V.int).length : Int) else 4)).toNat, by split <;> omega⟩
    have hn8 : n ≤ 8 := by
      split at hn <;> omega
    refine ⟨_, rfl, a, _, rfl, .inl hS2, ⟨_, _, rfl, _, _, rfl, rfl, ?_⟩⟩
    refine ⟨n, congrArg (fun z : Int => [V.int z]) hn, by omega, by omega, for_range (lo := 0) (n := n) (fun j σ H2 => σ.length = 11 ∧ ∃ n' : Nat, σ[1]? = some (some (.ref m)) ∧ Drw H2 m cl n' ∧ LamX.Tabs [(P1, qn_right), (P2, qn_bounds)] H2 ∧ n' ≤ 2000 * j)
      ⟨rfl, 0, rfl, D2, T2, by omega⟩ (fun j σ H3 hj hP => ?_) (fun σ H3 hP => ?_)⟩
    · obtain ⟨sl, n', e1, D3, T3, ln⟩ := hP
      refine hb _ _ _ H3 _ _ { nx := fun Γ => Γ.length = 11 ∧ ∃ N', Γ[1]? = some (some (.drw N')) ∧ N' ≤ n' + 2000, rt := fun _ _ => False, er := nE } _ (iv_start (r := 9) D3 T3 (by rw [List.getElem?_set_ne (by decide)]; exact e1) (by rw [List.length_set]; exact sl)) ?_ xw_nE ⟨fun Γ σ H' F' hk S I => ?_, (fun _ _ _ _ _ _ z => z.elim), (fun _ _ _ _ z => z.elim), (fun _ _ _ _ z => z.elim)⟩
      · refine ⟨⟨n', rfl⟩, rfl, rfl, by omega, fun g N1 okg hN1 => ?_⟩
        have tg := tb_gear okg
        have sm : smal (grD g) = true := smal_bulk _ (Nat.le_trans tg.bk (by decide))
        refine ⟨⟨by decide, by decide⟩, ?_⟩
        show compD none [5] _ dYes _ ((List.range 8).map fun k : Nat => PyData.int (0 + (k : Int))) [] _ _
        refine comp_inv (lv := none) (fun i acc Γ => ∃ n3 : Nat, n3 ≤ N1 + 36 * i ∧ acc.length = i ∧ (∀ x ∈ acc, TE 8 x ∧ x.bulk ≤ 7528) ∧ Γ = [none, some (.drw n3), none, some (.imm (grD g)), none, none, none, none, none, none, none]) (List.range 8) 0 [] _ (fun i x acc Γ ex hK => ?_) (fun acc Γ hK => ⟨True.intro, ?_⟩) (fun i acc Γ hK l => ?_) ⟨N1, by omega, rfl, (fun _ h => nomatch h), rfl⟩
        · obtain ⟨n3, ln3, la, ta, rfl⟩ := hK
          have hi : i < 8 := by
            have := (List.getElem?_eq_some_iff.mp ex).1
            rwa [List.length_range] at this
          refine ⟨True.intro, rfl, fun Ky Kn hy hn => ?_⟩
          refine ⟨⟨_, rfl⟩, rfl, grD g, 6, 3714, rfl, by decide, tg.te, tg.bk, by decide, by omega, fun x N' tx bx lN => hy _ _ ⟨N', by omega, by rw [List.length_append, la]; rfl, fun y hy => ?_, rfl⟩⟩
          rcases List.mem_append.mp hy with h | h
          · exact ta y h
          · rw [List.mem_singleton.mp h]
            exact ⟨tx, bx⟩
        · obtain ⟨n3, ln3, la, ta, rfl⟩ := hK
          rw [Nat.zero_add, List.length_range] at la ln3
          refine ⟨(show 1 ≤ sizeLine by decide), Nat.le_trans (show 1 + acc.length ≤ 9 by omega) (by decide), ?_⟩
          have ec : Dl.cutD acc none (some 4) = acc.take 4 := cut_to acc 4
          have lc : (Dl.cutD acc none (some 4)).length ≤ 4 := by rw [ec, List.length_take]; omega
          refine comp_invD (lv := none) (fun i acc2 Γ => ∃ n4 : Nat, n4 ≤ n3 + 36 * i ∧ acc2.length = i ∧ (∀ x ∈ acc2, TE 10 x ∧ x.bulk ≤ 15156) ∧ Γ = [none, some (.drw n4), none, some (.imm (grD g)), some (.own (.list acc)), none, none, none, none, none, none]) _ [] _ (fun i x acc2 Γ ex hK => ?_) (fun acc2 Γ hK => ⟨True.intro, ?_⟩) (fun i acc2 Γ hK l => ?_) ⟨n3, by omega, rfl, (fun _ h => nomatch h), rfl⟩
          · obtain ⟨n4, ln4, la2, ta2, rfl⟩ := hK
            have hi := (List.getElem?_eq_some_iff.mp ex).1
            have hx : x ∈ acc := by
              have m := List.mem_of_getElem? ex
              rw [ec] at m
              exact List.mem_of_mem_take m
            refine ⟨True.intro, rfl, fun Ky Kn hy hn => ?_⟩
            refine ⟨⟨_, rfl⟩, rfl, x, 8, 7528, rfl, by decide, (ta x hx).1, (ta x hx).2, by decide, by omega, fun z N' tx bx lN => hy _ _ ⟨N', by omega, by rw [List.length_append, la2]; rfl, fun y hy => ?_, rfl⟩⟩
            rcases List.mem_append.mp hy with h | h
            · exact ta2 y h
            · rw [List.mem_singleton.mp h]
              exact ⟨tx, bx⟩
          · obtain ⟨n4, ln4, la2, ta2, rfl⟩ := hK
            rw [Nat.zero_add] at la2 ln4
            have s14 : 14 ≤ sizeLine := by decide
            refine ⟨?_, (show 1 ≤ sizeLine by decide), ?_, ?_⟩
            · rw [List.length_append]
              show 1 + acc.length + acc2.length ≤ _
              omega
            · rw [List.length_append, List.length_append]
              show 1 + acc.length + acc2.length + 1 ≤ _
              omega
            have ts : ∀ x ∈ [grD g] ++ acc ++ acc2 ++ [grD g], TE 10 x ∧ x.bulk ≤ 15156 := fun x hx => by
              rcases List.mem_append.mp hx with hx | hx
              · rcases List.mem_append.mp hx with hx | hx
                · rcases List.mem_append.mp hx with hx | hx
                  · rw [List.mem_singleton.mp hx]
                    exact ⟨tg.te.up (by decide), Nat.le_trans tg.bk (by decide)⟩
                  · exact ⟨(ta x hx).1.up (by decide), Nat.le_trans (ta x hx).2 (by decide)⟩
                · exact ta2 x hx
              · rw [List.mem_singleton.mp hx]
                exact ⟨tg.te.up (by decide), Nat.le_trans tg.bk (by decide)⟩
            refine ⟨rfl, for_invD (fun i Γ => ∃ s6 : Option Dl.Slot, Γ = [none, some (.drw n4), none, some (.imm (grD g)), some (.own (.list acc)), none, s6, none, none, none, none]) _ 0 _ (fun i x Γ ex hK nx hnx => ?_) (fun Γ hK => ?_) ⟨none, rfl⟩⟩
            · obtain ⟨s6, rfl⟩ := hK
              have hx := ts x (List.mem_of_getElem? ex)
              exact ⟨rfl, x, 10, 15156, rfl, hx.1, hx.2, by decide, by decide, hnx _ ⟨_, rfl⟩⟩
            · obtain ⟨s6, rfl⟩ := hK
              refine ⟨rfl, grD g, rfl, sm, ?_⟩
              refine bw_of (b := !isGear (grD g)) (fun h => ?_) (fun _ => ?_)
              · rw [gear_ok okg] at h
                cases h
              refine ⟨_, rfl, ?_⟩
              refine ⟨rfl, for_inv (e := bxD) (fun i Γ => ∃ s6 s8 s9 s10 : Option Dl.Slot, Γ = [none, some (.drw n4), none, some (.imm (grD g)), some (.own (.list acc)), none, s6, none, s8, s9, s10]) g.2 0 _ (fun i b Γ ex hK nx hnx => ?_) (fun Γ hK => ?_) ⟨s6, none, none, none, rfl⟩⟩
              · obtain ⟨s6, s8, s9, s10, rfl⟩ := hK
                have hb := List.mem_of_getElem? ex
                have smn : smal (.str b.name) = true := smal_bulk _ (Nat.le_trans (tb_name (okg.bx b hb).nm).bk (by decide))
                have th := (tb_seats (fun h hh => ((okg.bx b hb).sl h hh).2) (okg.bx b hb).l4)
                have no : ∀ {Z : Prop}, isGear (grD g) = false → Z := fun {Z} z => by
                  rw [gear_ok okg] at z
                  cases z
                have fb := find_gear okg hb
                have tl : tellsE (.list [.tuple (slsD b.held), .tuple (slsD b.held)]) := (tb_list (m := 2) (tb_2 th th) (Nat.le_refl _)).te.tells (tb_list (m := 2) (tb_2 th th) (Nat.le_refl _)).bk (by decide) (by decide)
                refine ⟨rfl, ?_⟩
                refine ⟨rfl, grD g, .str b.name, rfl, sm, smn, no, fun _ => ⟨fun x e => ?_, fun e => ?_⟩⟩
                · rw [fb] at e
                  cases e
                  refine ⟨grD g, .str b.name, rfl, sm, smn, no, fun _ => ⟨fun x e => ?_, fun e => ?_⟩⟩
                  · rw [fb] at e
                    cases e
                    refine ⟨(show 2 ≤ sizeLine by decide), tl, (show 2 ≤ sizeLine by decide), tl, ?_⟩
                    refine bw_of (b := !decide ((PyData.list [.tuple (slsD b.held), .tuple (slsD b.held)]).shown = (PyData.list [.tuple (slsD b.held), .tuple (slsD b.held)]).shown)) (fun h => ?_) (fun _ => ?_)
                    · rw [decide_eq_true rfl] at h
                      cases h
                    · exact hnx _ ⟨_, _, _, _, rfl⟩
                  · rw [fb] at e
                    cases e
                · rw [fb] at e
                  cases e
              · obtain ⟨s6, s8, s9, s10, rfl⟩ := hK
                exact ⟨rfl, n4, rfl, by omega⟩
          · obtain ⟨n4, ln4, la2, ta2, rfl⟩ := hK
            exact Nat.lt_of_lt_of_le (show acc2.length < 4 by omega) (by decide)
        · obtain ⟨n3, ln3, la, ta, rfl⟩ := hK
          rw [Nat.zero_add, List.length_range] at l
          exact Nat.lt_of_lt_of_le (show acc.length < 8 by omega) (by decide)
      · obtain ⟨lΓ, N', eN', lN⟩ := hk
        obtain ⟨v, ev, dr⟩ := I.var 1 _ eN'
        obtain ⟨m2, cl2, e1, e2, D4, _⟩ := dr
        obtain rfl : m = m2 := (List.cons.inj e2).1
        obtain rfl : cl = cl2 := (List.cons.inj (List.cons.inj e2).2).1
        subst e1
        exact ⟨I.len.trans lΓ, N', ev, D4, I.inv.2.1, by omega⟩
    · exact q _
end
end L2.Pr

set_option Elab.async false
set_option linter.all false
set_option maxRecDepth 100000
set_option maxHeartbeats 20000000
/-! k03: what the boot says-/
namespace L2.Pr
open PySem PySem.W PySem.Spec PyProof.Rows L2.Sl L2.Dl

def allB : List Bool → Bool
  | [] => true
  | b :: r => b && allB r
theorem all_at : ∀ {l : List Bool}, allB l = true → ∀ (i : Nat) {b : Bool}, l[i]? = some b → b = true
  | [], _, i, b, e => by simp at e
  | x :: r, h, 0, b, e => by
    have e : x = b := Option.some.inj e
    rw [← e]
    exact (two h).1
  | x :: r, h, i + 1, b, e => all_at (two h).2 i (b := b) e
def strsB : List Value → List Str → Bool
  | [], [] => true
  | .str y _ :: r, z :: zs => decide (y = z) && strsB r zs
  | _, _ => false
/-- the global x is a tuple of texts -/
def tupB (K : Frag) (x : Str) (zs : List Str) : Bool := match K.lookup (He.ga K x) with
  | some o => decide (o.cls = .type "tuple") && (match o.data with
    | .seq its _ => decide (its.size ≤ 100) && strsB its.toList zs
    | _ => false)
  | none => false
theorem strs_vals : ∀ {us : List Value} {zs : List Str}, strsB us zs = true → Vals (zs.map V.str) us
  | [], [], _ => .nil
  | [], _ :: _, h => by simp [strsB] at h
  | u :: us, [], h => by cases u <;> simp [strsB] at h
  | u :: us, z :: zs, h => by
    cases u with
    | str y t =>
      obtain ⟨e, r⟩ := two (show (decide (y = z) && strsB us zs) = true from h)
      have e := of_decide_eq_true e
      subst e
      exact .cons ⟨t, rfl⟩ (strs_vals r)
    | _ => simp [strsB] at h
theorem strs_dqs {K : Frag} {F : Hp} : ∀ zs : List Str, Dqs K F (zs.map V.str) (zs.map PyData.str)
  | [] => .nil
  | z :: zs => .cons (.str z) (strs_dqs zs)
theorem tup_of {K : Frag} {x : Str} {zs : List Str} (h : tupB K x zs = true) : TupK K (He.ga K x) (zs.map PyData.str) := fun F => by
  unfold tupB at h
  split at h
  · rename_i o e
    obtain ⟨hc, h⟩ := two h
    split at h
    · rename_i its n ed
      obtain ⟨hs, hv⟩ := two h
      exact .tup (.inr ⟨o, its, n, e, of_decide_eq_true hc, ed, Nat.le_trans (of_decide_eq_true hs) (by decide), strs_vals hv⟩) (strs_dqs zs)
    · cases h
  · cases h
def fns1 : List He.DefD := [dTop "is_whole" s_is_whole, dTop "is_name" s_is_name, dTop "is_row" s_is_row, dTop "rises" s_rises, dTop "need_gear" s_need_gear, dTop "slots" s_slots, dTop "moved" s_moved, dTop "found_box" s_found_box, dTop "is_slot" s_is_slot, dTop "is_move" s_is_move, dTop "_need_box" s_need_box, dTop "_law_start" s_law_start, dTop "_law_draw" s_law_draw, dTop "_law_pick" s_law_pick, dTop "_law_names" s_law_names, dTop "_law_order" s_law_order, dTop "_law_gear" s_law_gear, dTop "_law_odd" s_law_odd, dTop "_law_bent" s_law_bent, dTop "_law_is_row" s_law_is_row, dTop "_law_is_name" s_law_is_name, dTop "_law_rises" s_law_rises, dTop "_law_is_whole" s_law_is_whole, dTop "_law_is_move" s_law_is_move, dTop "_law_is_box" s_law_is_box, dTop "_law_is_gear" s_law_is_gear, dTop "_law_said" s_law_said, dTop "_law_right" s_law_right, dTop "_law_bounds_right" s_law_bounds_right, dTop "law" s_law]
def fns2 : List He.DefD := [dIni "BadGear" "BadGear.__init__" in_BadGear, dIni "BadTerm" "BadTerm.__init__" in_BadTerm, dIni "BadSum" "BadSum.__init__" in_BadSum, dIni "BadSizes" "BadSizes.__init__" in_BadSizes, dIni "BadArrays" "BadArrays.__init__" in_BadArrays, dIni "BadNumber" "BadNumber.__init__" in_BadNumber, dIni "BadName" "BadName.__init__" in_BadName, dIni "BadPlan" "BadPlan.__init__" in_BadPlan, dIni "BadDefinition" "BadDefinition.__init__" in_BadDefinition, dIni "BadDeed" "BadDeed.__init__" in_BadDeed, dIni "BadStep" "BadStep.__init__" in_BadStep, dIni "BadLine" "BadLine.__init__" in_BadLine, dIni "NoBox" "NoBox.__init__" in_NoBox]
def fns : List He.DefD := fns1 ++ fns2
def fas1 : List He.Fa := [.glo "is_whole", .glo "is_name", .glo "is_row", .glo "rises", .glo "need_gear", .glo "slots", .glo "moved", .glo "found_box", .glo "is_slot", .glo "is_move", .glo "_need_box", .glo "_law_start", .glo "_law_draw", .glo "_law_pick", .glo "_law_names", .glo "_law_order", .glo "_law_gear", .glo "_law_odd", .glo "_law_bent", .glo "_law_is_row", .glo "_law_is_name", .glo "_law_rises", .glo "_law_is_whole", .glo "_law_is_move", .glo "_law_is_box", .glo "_law_is_gear", .glo "_law_said", .glo "_law_right", .glo "_law_bounds_right", .glo "law"]
def fas2 : List He.Fa := [.glo "Refused", .glo "Barred", .glo "Beyond", .glo "BadGear", .glo "BadTerm", .glo "BadSum", .glo "BadSizes", .glo "BadArrays", .glo "BadNumber", .glo "BadName", .glo "BadPlan", .glo "BadDefinition", .glo "BadDeed", .glo "BadStep", .glo "BadLine", .glo "NoBox", .glo "_SIDES"]
def fas3 : List He.Fa := [.free "ArithmeticError", .free "LookupError", .free "ValueError", .free "all", .free "bool", .free "int", .free "isinstance", .free "len", .free "list", .free "min", .free "range", .free "repr", .free "set", .free "sorted", .free "str", .free "tuple", .free "type", .free "zip", .int "_LONGEST" 8, .str "_LETTERS" "abcdefghijklmnopqrstuvwxyz", .int "_MOST_SPACES" 3, .int "_MOST_BOXES" 8, .int "_MOST_SLOTS" 4, .int "_MOST_MOVES" 3]
def fas : List He.Fa := fas1 ++ (fas2 ++ fas3)
def tfs : List He.Defn := [("_law_right", none), ("_law_bounds_right", none)]
def exs1 (K : Frag) : List Bool := [descB K,
  ecB K "BadGear" .val ["why"],
  ecB K "BadTerm" .val ["why"],
  ecB K "BadSum" .val ["why"],
  ecB K "BadSizes" .val ["why"],
  ecB K "BadArrays" .val ["why"],
  ecB K "BadNumber" .val ["why"],
  ecB K "BadName" .val ["why"],
  ecB K "BadPlan" .val ["why"],
  ecB K "BadDefinition" .val ["why"],
  ecB K "BadDeed" .val ["why"],
  ecB K "BadStep" .val ["number"],
  ecB K "BadLine" .val ["line"],
  ecB K "NoBox" .look ["name"],
  tupB K "_SIDES" ["up", "down"]]
def exs2 (K : Frag) : List Bool := [decide (PySem.W.exmAny K (.ref (He.ga K "BadGear")) [.ref (He.ga K "Refused"), .ref (He.ga K "Barred"), .ref (He.ga K "Beyond")] = some true),
  decide (PySem.W.kitAny K (.ref (He.ga K "BadGear")) [.ref (He.ga K "BadArrays"), .ref (He.ga K "BadDeed"), .ref (He.ga K "BadDefinition"), .ref (He.ga K "BadLine"), .ref (He.ga K "BadName"), .ref (He.ga K "BadNumber"), .ref (He.ga K "BadPlan"), .ref (He.ga K "BadSizes")] = some false),
  decide (PySem.W.kitAny K (.ref (He.ga K "BadGear")) [.ref (He.ga K "BadStep"), .ref (He.ga K "BadSum"), .ref (He.ga K "BadTerm"), .ref (He.ga K "Barred"), .ref (He.ga K "Beyond")] = some false),
  decide (PySem.W.kitOne K (.ref (He.ga K "BadGear")) (.ref (He.ga K "BadGear")) = some true),
  decide (PySem.W.kitOne K (.ref (He.ga K "BadGear")) (.type "ValueError") = some true),
  decide ((He.cT K ("_law_right", none)).2 ≠ (He.cT K ("_law_bounds_right", none)).2)]
def exs (K : Frag) : Bool := allB (exs1 K) && allB (exs2 K)
abbrev p_law_right : Str × Option Str := ("_law_right", none)
abbrev p_law_bounds_right : Str × Option Str := ("_law_bounds_right", none)
theorem facts {P : Program} {w : World} {h : Heap} {K : Frag} {mg : Str → Option Value} {fa : Addr} (X : K.In h) (G : h.Ns mainGlobals mg) (hfa : mg "law" = some (.ref fa)) (c : He.SaysX fas fns [] tfs exs w h K) :
    ∃ (T : Txt K mg) (sk : SaidKit T), T.f_law = fa ∧ FunC K "_law_right" "_law_right" s_law_right T.f_law_right T.d_law_right (He.codeOf K ("_law_right", none)) ∧ FunC K "_law_bounds_right" "_law_bounds_right" s_law_bounds_right T.f_law_bounds_right T.d_law_bounds_right (He.codeOf K ("_law_bounds_right", none)) ∧ (He.cT K ("_law_right", none)).2 ≠ (He.cT K ("_law_bounds_right", none)).2 := by
  obtain ⟨m1, m2⟩ := two c.more
  obtain ⟨d_is_whole, F_is_whole⟩ := says_def c 0 (x := "is_whole") (s := s_is_whole)
  have b_is_whole : Binds K d_is_whole ["thing", "least", "most"] [] := F_is_whole.fun.binds fun _ _ _ _ _ _ us hl => match us, hl with | [_, _, _], _ => rfl
  obtain ⟨d_is_name, F_is_name⟩ := says_def c 1 (x := "is_name") (s := s_is_name)
  have b_is_name : Binds K d_is_name ["thing"] [] := F_is_name.fun.binds fun _ _ _ _ _ _ us hl => match us, hl with | [_], _ => rfl
  obtain ⟨d_is_row, F_is_row⟩ := says_def c 2 (x := "is_row") (s := s_is_row)
  have b_is_row : Binds K d_is_row ["thing", "least", "most"] [] := F_is_row.fun.binds fun _ _ _ _ _ _ us hl => match us, hl with | [_, _, _], _ => rfl
  obtain ⟨d_rises, F_rises⟩ := says_def c 3 (x := "rises") (s := s_rises)
  have b_rises : Binds K d_rises ["row"] [] := F_rises.fun.binds fun _ _ _ _ _ _ us hl => match us, hl with | [_], _ => rfl
  obtain ⟨d_need_gear, F_need_gear⟩ := says_def c 4 (x := "need_gear") (s := s_need_gear)
  have b_need_gear : Binds K d_need_gear ["gear"] [] := F_need_gear.fun.binds fun _ _ _ _ _ _ us hl => match us, hl with | [_], _ => rfl
  obtain ⟨d_slots, F_slots⟩ := says_def c 5 (x := "slots") (s := s_slots)
  have b_slots : Binds K d_slots ["gear", "box"] [] := F_slots.fun.binds fun _ _ _ _ _ _ us hl => match us, hl with | [_, _], _ => rfl
  obtain ⟨d_moved, F_moved⟩ := says_def c 6 (x := "moved") (s := s_moved)
  have b_moved : Binds K d_moved ["row", "order"] [] := F_moved.fun.binds fun _ _ _ _ _ _ us hl => match us, hl with | [_, _], _ => rfl
  obtain ⟨d_found_box, F_found_box⟩ := says_def c 7 (x := "found_box") (s := s_found_box)
  have b_found_box : Binds K d_found_box ["gear", "box"] [] := F_found_box.fun.binds fun _ _ _ _ _ _ us hl => match us, hl with | [_, _], _ => rfl
  obtain ⟨d_is_slot, F_is_slot⟩ := says_def c 8 (x := "is_slot") (s := s_is_slot)
  have b_is_slot : Binds K d_is_slot ["spaces", "thing"] [] := F_is_slot.fun.binds fun _ _ _ _ _ _ us hl => match us, hl with | [_, _], _ => rfl
  obtain ⟨d_is_move, F_is_move⟩ := says_def c 9 (x := "is_move") (s := s_is_move)
  have b_is_move : Binds K d_is_move ["many", "thing"] [] := F_is_move.fun.binds fun _ _ _ _ _ _ us hl => match us, hl with | [_, _], _ => rfl
  obtain ⟨d_need_box, F_need_box⟩ := says_def c 10 (x := "_need_box") (s := s_need_box)
  have b_need_box : Binds K d_need_box ["spaces", "box"] [] := F_need_box.fun.binds fun _ _ _ _ _ _ us hl => match us, hl with | [_, _], _ => rfl
  obtain ⟨d_law_start, F_law_start⟩ := says_def c 11 (x := "_law_start") (s := s_law_start)
  have b_law_start : Binds K d_law_start ["script"] [] := F_law_start.fun.binds fun _ _ _ _ _ _ us hl => match us, hl with | [_], _ => rfl
  obtain ⟨d_law_draw, F_law_draw⟩ := says_def c 12 (x := "_law_draw") (s := s_law_draw)
  have b_law_draw : Binds K d_law_draw ["d", "many"] [] := F_law_draw.fun.binds fun _ _ _ _ _ _ us hl => match us, hl with | [_, _], _ => rfl
  obtain ⟨d_law_pick, F_law_pick⟩ := says_def c 13 (x := "_law_pick") (s := s_law_pick)
  have b_law_pick : Binds K d_law_pick ["d", "some"] [] := F_law_pick.fun.binds fun _ _ _ _ _ _ us hl => match us, hl with | [_, _], _ => rfl
  obtain ⟨d_law_names, F_law_names⟩ := says_def c 14 (x := "_law_names") (s := s_law_names)
  have b_law_names : Binds K d_law_names ["d", "many"] [] := F_law_names.fun.binds fun _ _ _ _ _ _ us hl => match us, hl with | [_, _], _ => rfl
  obtain ⟨d_law_order, F_law_order⟩ := says_def c 15 (x := "_law_order") (s := s_law_order)
  have b_law_order : Binds K d_law_order ["d", "held"] [] := F_law_order.fun.binds fun _ _ _ _ _ _ us hl => match us, hl with | [_, _], _ => rfl
  obtain ⟨d_law_gear, F_law_gear⟩ := says_def c 16 (x := "_law_gear") (s := s_law_gear)
  have b_law_gear : Binds K d_law_gear ["d"] [] := F_law_gear.fun.binds fun _ _ _ _ _ _ us hl => match us, hl with | [_], _ => rfl
  obtain ⟨d_law_odd, F_law_odd⟩ := says_def c 17 (x := "_law_odd") (s := s_law_odd)
  have b_law_odd : Binds K d_law_odd ["d"] [] := F_law_odd.fun.binds fun _ _ _ _ _ _ us hl => match us, hl with | [_], _ => rfl
  obtain ⟨d_law_bent, F_law_bent⟩ := says_def c 18 (x := "_law_bent") (s := s_law_bent)
  have b_law_bent : Binds K d_law_bent ["d", "thing"] [] := F_law_bent.fun.binds fun _ _ _ _ _ _ us hl => match us, hl with | [_, _], _ => rfl
  obtain ⟨d_law_is_row, F_law_is_row⟩ := says_def c 19 (x := "_law_is_row") (s := s_law_is_row)
  have b_law_is_row : Binds K d_law_is_row ["thing", "least", "most"] [] := F_law_is_row.fun.binds fun _ _ _ _ _ _ us hl => match us, hl with | [_, _, _], _ => rfl
  obtain ⟨d_law_is_name, F_law_is_name⟩ := says_def c 20 (x := "_law_is_name") (s := s_law_is_name)
  have b_law_is_name : Binds K d_law_is_name ["thing"] [] := F_law_is_name.fun.binds fun _ _ _ _ _ _ us hl => match us, hl with | [_], _ => rfl
  obtain ⟨d_law_rises, F_law_rises⟩ := says_def c 21 (x := "_law_rises") (s := s_law_rises)
  have b_law_rises : Binds K d_law_rises ["names"] [] := F_law_rises.fun.binds fun _ _ _ _ _ _ us hl => match us, hl with | [_], _ => rfl
  obtain ⟨d_law_is_whole, F_law_is_whole⟩ := says_def c 22 (x := "_law_is_whole") (s := s_law_is_whole)
  have b_law_is_whole : Binds K d_law_is_whole ["thing"] [] := F_law_is_whole.fun.binds fun _ _ _ _ _ _ us hl => match us, hl with | [_], _ => rfl
  obtain ⟨d_law_is_move, F_law_is_move⟩ := says_def c 23 (x := "_law_is_move") (s := s_law_is_move)
  have b_law_is_move : Binds K d_law_is_move ["held", "thing"] [] := F_law_is_move.fun.binds fun _ _ _ _ _ _ us hl => match us, hl with | [_, _], _ => rfl
  obtain ⟨d_law_is_box, F_law_is_box⟩ := says_def c 24 (x := "_law_is_box") (s := s_law_is_box)
  have b_law_is_box : Binds K d_law_is_box ["spaces", "thing"] [] := F_law_is_box.fun.binds fun _ _ _ _ _ _ us hl => match us, hl with | [_, _], _ => rfl
  obtain ⟨d_law_is_gear, F_law_is_gear⟩ := says_def c 25 (x := "_law_is_gear") (s := s_law_is_gear)
  have b_law_is_gear : Binds K d_law_is_gear ["thing"] [] := F_law_is_gear.fun.binds fun _ _ _ _ _ _ us hl => match us, hl with | [_], _ => rfl
  obtain ⟨d_law_said, F_law_said⟩ := says_def c 26 (x := "_law_said") (s := s_law_said)
  have b_law_said : Binds K d_law_said ["deed"] [] := F_law_said.fun.binds fun _ _ _ _ _ _ us hl => match us, hl with | [_], _ => rfl
  obtain ⟨d_law_right, F_law_right⟩ := says_def c 27 (x := "_law_right") (s := s_law_right)
  have b_law_right : Binds K d_law_right ["thing"] [] := F_law_right.fun.binds fun _ _ _ _ _ _ us hl => match us, hl with | [_], _ => rfl
  obtain ⟨d_law_bounds_right, F_law_bounds_right⟩ := says_def c 28 (x := "_law_bounds_right") (s := s_law_bounds_right)
  have b_law_bounds_right : Binds K d_law_bounds_right [] [] := F_law_bounds_right.fun.binds fun _ _ _ _ _ _ us hl => match us, hl with | [], _ => rfl
  obtain ⟨d_law, F_law⟩ := says_def c 29 (x := "law") (s := s_law)
  have b_law : Binds K d_law ["script"] [] := F_law.fun.binds fun _ _ _ _ _ _ us hl => match us, hl with | [_], _ => rfl
  obtain ⟨dI_BadGear, FI_BadGear⟩ := says_ini c 30 (x := "BadGear") (q := "BadGear.__init__") (s := in_BadGear)
  obtain ⟨e_BadGear, x_BadGear⟩ := ec_of (all_at m1 1 (b := ecB K "BadGear" .val ["why"]) rfl) (all_at m1 0 (b := descB K) rfl) FI_BadGear
  obtain ⟨dI_BadTerm, FI_BadTerm⟩ := says_ini c 31 (x := "BadTerm") (q := "BadTerm.__init__") (s := in_BadTerm)
  obtain ⟨e_BadTerm, x_BadTerm⟩ := ec_of (all_at m1 2 (b := ecB K "BadTerm" .val ["why"]) rfl) (all_at m1 0 (b := descB K) rfl) FI_BadTerm
  obtain ⟨dI_BadSum, FI_BadSum⟩ := says_ini c 32 (x := "BadSum") (q := "BadSum.__init__") (s := in_BadSum)
  obtain ⟨e_BadSum, x_BadSum⟩ := ec_of (all_at m1 3 (b := ecB K "BadSum" .val ["why"]) rfl) (all_at m1 0 (b := descB K) rfl) FI_BadSum
  obtain ⟨dI_BadSizes, FI_BadSizes⟩ := says_ini c 33 (x := "BadSizes") (q := "BadSizes.__init__") (s := in_BadSizes)
  obtain ⟨e_BadSizes, x_BadSizes⟩ := ec_of (all_at m1 4 (b := ecB K "BadSizes" .val ["why"]) rfl) (all_at m1 0 (b := descB K) rfl) FI_BadSizes
  obtain ⟨dI_BadArrays, FI_BadArrays⟩ := says_ini c 34 (x := "BadArrays") (q := "BadArrays.__init__") (s := in_BadArrays)
  obtain ⟨e_BadArrays, x_BadArrays⟩ := ec_of (all_at m1 5 (b := ecB K "BadArrays" .val ["why"]) rfl) (all_at m1 0 (b := descB K) rfl) FI_BadArrays
  obtain ⟨dI_BadNumber, FI_BadNumber⟩ := says_ini c 35 (x := "BadNumber") (q := "BadNumber.__init__") (s := in_BadNumber)
  obtain ⟨e_BadNumber, x_BadNumber⟩ := ec_of (all_at m1 6 (b := ecB K "BadNumber" .val ["why"]) rfl) (all_at m1 0 (b := descB K) rfl) FI_BadNumber
  obtain ⟨dI_BadName, FI_BadName⟩ := says_ini c 36 (x := "BadName") (q := "BadName.__init__") (s := in_BadName)
  obtain ⟨e_BadName, x_BadName⟩ := ec_of (all_at m1 7 (b := ecB K "BadName" .val ["why"]) rfl) (all_at m1 0 (b := descB K) rfl) FI_BadName
  obtain ⟨dI_BadPlan, FI_BadPlan⟩ := says_ini c 37 (x := "BadPlan") (q := "BadPlan.__init__") (s := in_BadPlan)
  obtain ⟨e_BadPlan, x_BadPlan⟩ := ec_of (all_at m1 8 (b := ecB K "BadPlan" .val ["why"]) rfl) (all_at m1 0 (b := descB K) rfl) FI_BadPlan
  obtain ⟨dI_BadDefinition, FI_BadDefinition⟩ := says_ini c 38 (x := "BadDefinition") (q := "BadDefinition.__init__") (s := in_BadDefinition)
  obtain ⟨e_BadDefinition, x_BadDefinition⟩ := ec_of (all_at m1 9 (b := ecB K "BadDefinition" .val ["why"]) rfl) (all_at m1 0 (b := descB K) rfl) FI_BadDefinition
  obtain ⟨dI_BadDeed, FI_BadDeed⟩ := says_ini c 39 (x := "BadDeed") (q := "BadDeed.__init__") (s := in_BadDeed)
  obtain ⟨e_BadDeed, x_BadDeed⟩ := ec_of (all_at m1 10 (b := ecB K "BadDeed" .val ["why"]) rfl) (all_at m1 0 (b := descB K) rfl) FI_BadDeed
  obtain ⟨dI_BadStep, FI_BadStep⟩ := says_ini c 40 (x := "BadStep") (q := "BadStep.__init__") (s := in_BadStep)
  obtain ⟨e_BadStep, x_BadStep⟩ := ec_of (all_at m1 11 (b := ecB K "BadStep" .val ["number"]) rfl) (all_at m1 0 (b := descB K) rfl) FI_BadStep
  obtain ⟨dI_BadLine, FI_BadLine⟩ := says_ini c 41 (x := "BadLine") (q := "BadLine.__init__") (s := in_BadLine)
  obtain ⟨e_BadLine, x_BadLine⟩ := ec_of (all_at m1 12 (b := ecB K "BadLine" .val ["line"]) rfl) (all_at m1 0 (b := descB K) rfl) FI_BadLine
  obtain ⟨dI_NoBox, FI_NoBox⟩ := says_ini c 42 (x := "NoBox") (q := "NoBox.__init__") (s := in_NoBox)
  obtain ⟨e_NoBox, x_NoBox⟩ := ec_of (all_at m1 13 (b := ecB K "NoBox" .look ["name"]) rfl) (all_at m1 0 (b := descB K) rfl) FI_NoBox
  obtain ⟨t_LONGEST, k_LONGEST⟩ := says_int X G c 65 (x := "_LONGEST") (n := 8)
  obtain ⟨t_LETTERS, k_LETTERS⟩ := says_str X G c 66 (x := "_LETTERS") (z := "abcdefghijklmnopqrstuvwxyz")
  obtain ⟨t_MOST_SPACES, k_MOST_SPACES⟩ := says_int X G c 67 (x := "_MOST_SPACES") (n := 3)
  obtain ⟨t_MOST_BOXES, k_MOST_BOXES⟩ := says_int X G c 68 (x := "_MOST_BOXES") (n := 8)
  obtain ⟨t_MOST_SLOTS, k_MOST_SLOTS⟩ := says_int X G c 69 (x := "_MOST_SLOTS") (n := 4)
  obtain ⟨t_MOST_MOVES, k_MOST_MOVES⟩ := says_int X G c 70 (x := "_MOST_MOVES") (n := 3)
  have gl : mg "law" = some (.ref (He.ga K "law")) := says_glo X G c 29
  have e := hfa.symm.trans gl
  cases e
  refine ⟨{ f_is_whole := He.ga K "is_whole", d_is_whole := d_is_whole, F_is_whole := F_is_whole.fun, b_is_whole := b_is_whole, g_is_whole := says_glo X G c 0, f_is_name := He.ga K "is_name", d_is_name := d_is_name, F_is_name := F_is_name.fun, b_is_name := b_is_name, g_is_name := says_glo X G c 1, f_is_row := He.ga K "is_row", d_is_row := d_is_row, F_is_row := F_is_row.fun, b_is_row := b_is_row, g_is_row := says_glo X G c 2, f_rises := He.ga K "rises", d_rises := d_rises, F_rises := F_rises.fun, b_rises := b_rises, g_rises := says_glo X G c 3, f_need_gear := He.ga K "need_gear", d_need_gear := d_need_gear, F_need_gear := F_need_gear.fun, b_need_gear := b_need_gear, g_need_gear := says_glo X G c 4, f_slots := He.ga K "slots", d_slots := d_slots, F_slots := F_slots.fun, b_slots := b_slots, g_slots := says_glo X G c 5, f_moved := He.ga K "moved", d_moved := d_moved, F_moved := F_moved.fun, b_moved := b_moved, g_moved := says_glo X G c 6, f_found_box := He.ga K "found_box", d_found_box := d_found_box, F_found_box := F_found_box.fun, b_found_box := b_found_box, g_found_box := says_glo X G c 7, f_is_slot := He.ga K "is_slot", d_is_slot := d_is_slot, F_is_slot := F_is_slot.fun, b_is_slot := b_is_slot, g_is_slot := says_glo X G c 8, f_is_move := He.ga K "is_move", d_is_move := d_is_move, F_is_move := F_is_move.fun, b_is_move := b_is_move, g_is_move := says_glo X G c 9, f_need_box := He.ga K "_need_box", d_need_box := d_need_box, F_need_box := F_need_box.fun, b_need_box := b_need_box, g_need_box := says_glo X G c 10, f_law_start := He.ga K "_law_start", d_law_start := d_law_start, F_law_start := F_law_start.fun, b_law_start := b_law_start, g_law_start := says_glo X G c 11, f_law_draw := He.ga K "_law_draw", d_law_draw := d_law_draw, F_law_draw := F_law_draw.fun, b_law_draw := b_law_draw, g_law_draw := says_glo X G c 12, f_law_pick := He.ga K "_law_pick", d_law_pick := d_law_pick, F_law_pick := F_law_pick.fun, b_law_pick := b_law_pick, g_law_pick := says_glo X G c 13, f_law_names := He.ga K "_law_names", d_law_names := d_law_names, F_law_names := F_law_names.fun, b_law_names := b_law_names, g_law_names := says_glo X G c 14, f_law_order := He.ga K "_law_order", d_law_order := d_law_order, F_law_order := F_law_order.fun, b_law_order := b_law_order, g_law_order := says_glo X G c 15, f_law_gear := He.ga K "_law_gear", d_law_gear := d_law_gear, F_law_gear := F_law_gear.fun, b_law_gear := b_law_gear, g_law_gear := says_glo X G c 16, f_law_odd := He.ga K "_law_odd", d_law_odd := d_law_odd, F_law_odd := F_law_odd.fun, b_law_odd := b_law_odd, g_law_odd := says_glo X G c 17, f_law_bent := He.ga K "_law_bent", d_law_bent := d_law_bent, F_law_bent := F_law_bent.fun, b_law_bent := b_law_bent, g_law_bent := says_glo X G c 18, f_law_is_row := He.ga K "_law_is_row", d_law_is_row := d_law_is_row, F_law_is_row := F_law_is_row.fun, b_law_is_row := b_law_is_row, g_law_is_row := says_glo X G c 19, f_law_is_name := He.ga K "_law_is_name", d_law_is_name := d_law_is_name, F_law_is_name := F_law_is_name.fun, b_law_is_name := b_law_is_name, g_law_is_name := says_glo X G c 20, f_law_rises := He.ga K "_law_rises", d_law_rises := d_law_rises, F_law_rises := F_law_rises.fun, b_law_rises := b_law_rises, g_law_rises := says_glo X G c 21, f_law_is_whole := He.ga K "_law_is_whole", d_law_is_whole := d_law_is_whole, F_law_is_whole := F_law_is_whole.fun, b_law_is_whole := b_law_is_whole, g_law_is_whole := says_glo X G c 22, f_law_is_move := He.ga K "_law_is_move", d_law_is_move := d_law_is_move, F_law_is_move := F_law_is_move.fun, b_law_is_move := b_law_is_move, g_law_is_move := says_glo X G c 23, f_law_is_box := He.ga K "_law_is_box", d_law_is_box := d_law_is_box, F_law_is_box := F_law_is_box.fun, b_law_is_box := b_law_is_box, g_law_is_box := says_glo X G c 24, f_law_is_gear := He.ga K "_law_is_gear", d_law_is_gear := d_law_is_gear, F_law_is_gear := F_law_is_gear.fun, b_law_is_gear := b_law_is_gear, g_law_is_gear := says_glo X G c 25, f_law_said := He.ga K "_law_said", d_law_said := d_law_said, F_law_said := F_law_said.fun, b_law_said := b_law_said, g_law_said := says_glo X G c 26, f_law_right := He.ga K "_law_right", d_law_right := d_law_right, F_law_right := F_law_right.fun, b_law_right := b_law_right, g_law_right := says_glo X G c 27, f_law_bounds_right := He.ga K "_law_bounds_right", d_law_bounds_right := d_law_bounds_right, F_law_bounds_right := F_law_bounds_right.fun, b_law_bounds_right := b_law_bounds_right, g_law_bounds_right := says_glo X G c 28, f_law := He.ga K "law", d_law := d_law, F_law := F_law.fun, b_law := b_law, g_law := says_glo X G c 29, c_BadGear := He.ga K "BadGear", i_BadGear := He.ma K (He.ga K "BadGear") "__init__", e_BadGear := e_BadGear, g_BadGear := says_glo X G c 33, c_BadTerm := He.ga K "BadTerm", i_BadTerm := He.ma K (He.ga K "BadTerm") "__init__", e_BadTerm := e_BadTerm, g_BadTerm := says_glo X G c 34, c_BadSum := He.ga K "BadSum", i_BadSum := He.ma K (He.ga K "BadSum") "__init__", e_BadSum := e_BadSum, g_BadSum := says_glo X G c 35, c_BadSizes := He.ga K "BadSizes", i_BadSizes := He.ma K (He.ga K "BadSizes") "__init__", e_BadSizes := e_BadSizes, g_BadSizes := says_glo X G c 36, c_BadArrays := He.ga K "BadArrays", i_BadArrays := He.ma K (He.ga K "BadArrays") "__init__", e_BadArrays := e_BadArrays, g_BadArrays := says_glo X G c 37, c_BadNumber := He.ga K "BadNumber", i_BadNumber := He.ma K (He.ga K "BadNumber") "__init__", e_BadNumber := e_BadNumber, g_BadNumber := says_glo X G c 38, c_BadName := He.ga K "BadName", i_BadName := He.ma K (He.ga K "BadName") "__init__", e_BadName := e_BadName, g_BadName := says_glo X G c 39, c_BadPlan := He.ga K "BadPlan", i_BadPlan := He.ma K (He.ga K "BadPlan") "__init__", e_BadPlan := e_BadPlan, g_BadPlan := says_glo X G c 40, c_BadDefinition := He.ga K "BadDefinition", i_BadDefinition := He.ma K (He.ga K "BadDefinition") "__init__", e_BadDefinition := e_BadDefinition, g_BadDefinition := says_glo X G c 41, c_BadDeed := He.ga K "BadDeed", i_BadDeed := He.ma K (He.ga K "BadDeed") "__init__", e_BadDeed := e_BadDeed, g_BadDeed := says_glo X G c 42, c_BadStep := He.ga K "BadStep", i_BadStep := He.ma K (He.ga K "BadStep") "__init__", e_BadStep := e_BadStep, g_BadStep := says_glo X G c 43, c_BadLine := He.ga K "BadLine", i_BadLine := He.ma K (He.ga K "BadLine") "__init__", e_BadLine := e_BadLine, g_BadLine := says_glo X G c 44, c_NoBox := He.ga K "NoBox", i_NoBox := He.ma K (He.ga K "NoBox") "__init__", e_NoBox := e_NoBox, g_NoBox := says_glo X G c 45, a_SIDES := He.ga K "_SIDES", g_SIDES := says_glo X G c 46, h_SIDES := tup_of (all_at m1 14 (b := tupB K "_SIDES" ["up", "down"]) rfl), n_ArithmeticError := says_free X G c 47, n_LookupError := says_free X G c 48, n_ValueError := says_free X G c 49, n_all := says_free X G c 50, n_bool := says_free X G c 51, n_int := says_free X G c 52, n_isinstance := says_free X G c 53, n_len := says_free X G c 54, n_list := says_free X G c 55, n_min := says_free X G c 56, n_range := says_free X G c 57, n_repr := says_free X G c 58, n_set := says_free X G c 59, n_sorted := says_free X G c 60, n_str := says_free X G c 61, n_tuple := says_free X G c 62, n_type := says_free X G c 63, n_zip := says_free X G c 64, t_LONGEST := t_LONGEST, g_LONGEST := k_LONGEST, t_LETTERS := t_LETTERS, g_LETTERS := k_LETTERS, t_MOST_SPACES := t_MOST_SPACES, g_MOST_SPACES := k_MOST_SPACES, t_MOST_BOXES := t_MOST_BOXES, g_MOST_BOXES := k_MOST_BOXES, t_MOST_SLOTS := t_MOST_SLOTS, g_MOST_SLOTS := k_MOST_SLOTS, t_MOST_MOVES := t_MOST_MOVES, g_MOST_MOVES := k_MOST_MOVES }, { cR := He.ga K "Refused", cB := He.ga K "Barred", cY := He.ga K "Beyond", gR := says_glo X G c 30, gB := says_glo X G c 31, gY := says_glo X G c 32, xg := x_BadGear, fg := of_decide_eq_true (all_at m2 0 (b := decide (PySem.W.exmAny K (.ref (He.ga K "BadGear")) [.ref (He.ga K "Refused"), .ref (He.ga K "Barred"), .ref (He.ga K "Beyond")] = some true)) rfl), g8 := of_decide_eq_true (all_at m2 1 (b := decide (PySem.W.kitAny K (.ref (He.ga K "BadGear")) [.ref (He.ga K "BadArrays"), .ref (He.ga K "BadDeed"), .ref (He.ga K "BadDefinition"), .ref (He.ga K "BadLine"), .ref (He.ga K "BadName"), .ref (He.ga K "BadNumber"), .ref (He.ga K "BadPlan"), .ref (He.ga K "BadSizes")] = some false)) rfl), g5 := of_decide_eq_true (all_at m2 2 (b := decide (PySem.W.kitAny K (.ref (He.ga K "BadGear")) [.ref (He.ga K "BadStep"), .ref (He.ga K "BadSum"), .ref (He.ga K "BadTerm"), .ref (He.ga K "Barred"), .ref (He.ga K "Beyond")] = some false)) rfl), gg := of_decide_eq_true (all_at m2 3 (b := decide (PySem.W.kitOne K (.ref (He.ga K "BadGear")) (.ref (He.ga K "BadGear")) = some true)) rfl), gv := of_decide_eq_true (all_at m2 4 (b := decide (PySem.W.kitOne K (.ref (He.ga K "BadGear")) (.type "ValueError") = some true)) rfl) }, rfl, F_law_right, F_law_bounds_right, of_decide_eq_true (all_at m2 5 (b := decide ((He.cT K ("_law_right", none)).2 ≠ (He.cT K ("_law_bounds_right", none)).2)) rfl)⟩
end L2.Pr

set_option Elab.async false
set_option linter.all false
set_option maxRecDepth 100000
set_option maxHeartbeats 0
namespace L2.Pr
open PySem PySem.W PySem.Calls PyProof.Rows
abbrev RR : OpenRow := OpenLaw.row PySem.Challenge.rw_slotsure_k03_gears_looked_at
abbrev qv : Program := view RR.prog [56]
abbrev hk : Hook := He.hookX 6 fas fns [] tfs exs
def obX (s : SharedT) : He.AlX := He.obsX 6 fas fns [] tfs exs (HandSHeadRun.getT s)
theorem obX_eq (s : SharedT) : obX s = hk.obs s.abs := He.obsX_eq (HandSHeadRun.getT_eq s)
def names0 : List PySem.Str := ["Refused", "Barred", "Beyond", "BadGear", "BadTerm", "BadSum", "BadSizes", "BadArrays", "BadNumber", "BadName", "BadPlan", "BadDefinition", "BadDeed", "BadStep", "BadLine", "NoBox", "_LONGEST", "_LETTERS", "is_whole", "is_name"]
def names1 : List PySem.Str := ["is_row", "rises", "_MOST_SPACES", "_MOST_BOXES", "_MOST_SLOTS", "_MOST_MOVES", "_SIDES", "need_gear", "slots", "moved", "found_box", "is_slot", "is_move", "_need_box", "_law_start", "_law_draw", "_law_pick", "_law_names", "_law_order", "_law_gear"]
def names2 : List PySem.Str := ["_law_odd", "_law_bent", "_law_is_row", "_law_is_name", "_law_rises", "_law_is_whole", "_law_is_move", "_law_is_box", "_law_is_gear", "_law_said", "_law_right", "_law_bounds_right"]
def names : List PySem.Str := names0 ++ names1 ++ names2
theorem run (w : World) : HandSHeadRun.RunEq RR qv hk obX 9000 names w := by
  intro os
  kernel_rfl
end L2.Pr

set_option Elab.async false
set_option linter.all false
set_option maxRecDepth 100000
open PySem PySem.W PySem.Calls PyProof.Rows
set_option maxRecDepth 100000 in
set_option maxHeartbeats 20000000 in
theorem PySem.Challenge.cw_slotsure_k03_gears_looked_at_holds : PySem.Challenge.rw_slotsure_k03_gears_looked_at.Holds := by
  w_on; o_law
  refine HandSHeadRun.head_any (r := L2.Pr.RR) (q := L2.Pr.qv) (H := L2.Pr.hk) (ob := L2.Pr.obX) (M := 9000) (loose := L2.Pr.names) (d := HandSHeadRun.topDef L2.Pr.RR.prog 56) (kwd := []) L2.Pr.obX_eq
    (by kernel_rfl) (fun s => by kernel_rfl) L2.Pr.run (by kernel_rfl) (by kernel_rfl) (by kernel_rfl) (by rfl) (by first | assumption | decide +kernel) (by decide +kernel) ⟨rfl, rfl, rfl, rfl, rfl, by decide +kernel⟩ ?hw ?hc
  case hw => w_witness2
  case hc =>
    refine L2.Sl.walk_GT (l := PySem.Challenge.rw_slotsure_k03_gears_looked_at) (n := 63) (k := 21) (x := "script") (CX := fun _ => L2.CX0) rfl (by decide) (by kernel_rfl) ⟨rfl, by decide, by decide⟩ ?F (fun _ _ _ _ _ z => z)
    intro w mg fa h Y G hmg0
    obtain ⟨K, KX, c⟩ := Y
    have hmg : mg ("law" : PySem.Str) = some (.ref fa) := by
      have e : (HandSHeadRun.topDef L2.Pr.RR.prog 56).name = ("law" : PySem.Str) := by kernel_rfl
      rw [← e]
      exact hmg0
    obtain ⟨T, sk, el, F_law_right, F_law_bounds_right, ne⟩ := L2.Pr.facts (P := PySem.Challenge.rw_slotsure_k03_gears_looked_at.prog) (w := w) KX G hmg c
    subst el
    refine ⟨K, KX, T.d_law, [He.cT K L2.Pr.p_law_right, He.cT K L2.Pr.p_law_bounds_right], L2.Pr.spLaw K [((He.cT K L2.Pr.p_law_right).2, L2.Pr.qn_right), ((He.cT K L2.Pr.p_law_bounds_right).2, L2.Pr.qn_bounds)], fun p hp => ?_, fun s u => ?_, fun H a ns hl hT hS => ?_, fun base KB NB TB => L2.Pr.ok_law (k := 0) T sk ne F_law_right (TB (He.cT K L2.Pr.p_law_right) (by simp)) F_law_bounds_right (TB (He.cT K L2.Pr.p_law_bounds_right) (by simp))⟩
    · simp only [List.mem_cons, List.not_mem_nil, or_false] at hp
      rcases hp with rfl | rfl
      · exact L2.Sl.says_tab KX c L2.Pr.p_law_right (by decide)
      · exact L2.Sl.says_tab KX c L2.Pr.p_law_bounds_right (by decide)
    · obtain ⟨oc, od, kV, doc, pm, an, cdv, ct, osl, ed, lk, hcd⟩ := T.F_law.ex
      rw [ed]
      exact .of_eq rfl
    · refine ⟨a, ns, rfl, hS, hl, fun p hp => ?_, fun _ => rfl⟩
      simp only [List.mem_cons, List.not_mem_nil, or_false] at hp
      rcases hp with rfl | rfl
      · exact LamX.TabS.nil (hT _ (by simp))
      · exact LamX.TabS.nil (hT _ (by simp))
