import PyProof.Rows.All
import Wide.All
import OpenK.AllK
import Wide.FinOn
import HandS.ForExc
import HandS.TryMany
import HandS.ExcInit
import HandS.ExcIs
import HandS.IsInst
import HandS.ExcValue
import KE.KExcLine
import HandS.ExcCtx
import HandS.HotCalls
import HandS.FStrTup
import KE.KTryMore
import HandS.WordsExc
import HandS.Defaults
import HandS.Lambda
import HandS.EndTab
import HandS.HeadWalk
import HandS.HeadHook4
import HandS.HeadEnd
import HandS.Head2
import HandS.HeadHook2
import HandS.ForMost
import HandS.Wide
import HandS.Gcd
import HandS.Style
import KE.KxText
import HandS.Walk
import HandS.More
import PyProof.TypeEq
import PyProof.InstEq
import KE.KStateDown
import Lean
import HandS.Head0
import HandS.Head1
import HandS.Head3
import PySem.Challenge.RW_slotsure_k02_whole_fractions_and_names
set_option Elab.async false
set_option linter.all false
/-! Fractions in lowest terms: pairs of whole numbers, the second above 0, no common part. -/
namespace L2.Fr
def Low (a b : Int) : Prop := 0 < b ∧ Int.gcd a b = 1
theorem dvd_of {a b d : Int} (g : Int.gcd a b = 1) (h : b ∣ a * d) : b ∣ d := by
  have g2 : Int.gcd b a = 1 := by rw [Int.gcd_comm]; exact g
  have e1 := Int.gcd_eq_natAbs_left_iff_dvd.mpr h
  rw [Int.gcd_mul_right_right_of_gcd_eq_one g2] at e1
  exact Int.gcd_eq_natAbs_left_iff_dvd.mp e1
theorem low_unique {a b c d : Int} (h1 : Low a b) (h2 : Low c d) (e : a * d = c * b) : a = c ∧ b = d := by
  obtain ⟨b0, g1⟩ := h1
  obtain ⟨d0, g2⟩ := h2
  have k1 : b ∣ d := dvd_of g1 ⟨c, by rw [e, Int.mul_comm]⟩
  have k2 : d ∣ b := dvd_of g2 ⟨a, by rw [← e, Int.mul_comm]⟩
  have bd : b = d := by
    obtain ⟨x, hx⟩ := k1
    obtain ⟨y, hy⟩ := k2
    have x0 : 0 < x := by
      rcases Int.lt_trichotomy x 0 with z | z | z
      · have := Int.mul_neg_of_pos_of_neg b0 z
        omega
      · rw [z] at hx
        omega
      · exact z
    have y0 : 0 < y := by
      rcases Int.lt_trichotomy y 0 with z | z | z
      · have := Int.mul_neg_of_pos_of_neg d0 z
        omega
      · rw [z] at hy
        omega
      · exact z
    have l1 : b * 1 ≤ b * x := Int.mul_le_mul_of_nonneg_left (by omega) (by omega)
    have l2 : d * 1 ≤ d * y := Int.mul_le_mul_of_nonneg_left (by omega) (by omega)
    omega
  subst bd
  exact ⟨Int.eq_of_mul_eq_mul_right (by omega) e, rfl⟩
/-- what both are parted by -/
def parts (t u : Int) : Int := if u > 0 then (Int.gcd t u : Int) else 0 - (Int.gcd t u : Int)
def low (t u : Int) : Int × Int := (t / parts t u, u / parts t u)
theorem gcd_pos {t u : Int} (h : u ≠ 0) : 0 < (Int.gcd t u : Int) := by
  have z : Int.gcd t u ≠ 0 := fun z => h (Int.gcd_eq_zero_iff.mp z).2
  omega
theorem parts_ne {t u : Int} (h : u ≠ 0) : parts t u ≠ 0 := by
  have g := gcd_pos (t := t) h
  unfold parts
  split <;> omega
theorem parts_left (t u : Int) : parts t u ∣ t := by
  unfold parts
  split
  · exact Int.gcd_dvd_left ..
  · rw [Int.zero_sub]
    exact Int.neg_dvd.mpr (Int.gcd_dvd_left ..)
theorem parts_right (t u : Int) : parts t u ∣ u := by
  unfold parts
  split
  · exact Int.gcd_dvd_right ..
  · rw [Int.zero_sub]
    exact Int.neg_dvd.mpr (Int.gcd_dvd_right ..)
theorem low_fst (t u : Int) : (low t u).1 * parts t u = t := Int.ediv_mul_cancel (parts_left t u)
theorem low_snd (t u : Int) : (low t u).2 * parts t u = u := Int.ediv_mul_cancel (parts_right t u)
theorem low_low {t u : Int} (h : u ≠ 0) : Low (low t u).1 (low t u).2 := by
  have g := gcd_pos (t := t) h
  have e1 := low_fst t u
  have e2 := low_snd t u
  refine ⟨?_, ?_⟩
  · rcases Int.lt_trichotomy (low t u).2 0 with z | z | z
    · exfalso
      unfold parts at e2
      split at e2
      · have := Int.mul_neg_of_neg_of_pos z g
        omega
      · have := Int.mul_pos_of_neg_of_neg z (show 0 - (Int.gcd t u : Int) < 0 by omega)
        omega
    · rw [z] at e2
      omega
    · exact z
  · have k : Int.gcd t u = Int.gcd (low t u).1 (low t u).2 * (parts t u).natAbs := by
      rw [← Int.gcd_mul_right, e1, e2]
    have ka : (parts t u).natAbs = Int.gcd t u := by
      unfold parts
      split <;> omega
    rw [ka] at k
    have g3 : 0 < Int.gcd t u := by omega
    exact Nat.eq_of_mul_eq_mul_right g3 (by omega)
theorem low_eq {t u : Int} : (low t u).1 * u = t * (low t u).2 := by
  have e1 := low_fst t u
  have e2 := low_snd t u
  generalize (low t u).1 = a at e1 ⊢
  generalize (low t u).2 = b at e2 ⊢
  generalize parts t u = g at e1 e2
  rw [← e1, ← e2, Int.mul_assoc, Int.mul_comm g b, Int.mul_comm b g]
/-- both tell the same share -/
theorem low_iff {t u s v : Int} (hu : u ≠ 0) (hv : v ≠ 0) : low t u = low s v ↔ t * v = s * u := by
  have l1 := low_low (t := t) hu
  have l2 := low_low (t := s) hv
  have e1 := low_eq (t := t) (u := u)
  have e2 := low_eq (t := s) (u := v)
  constructor
  · intro z
    rw [← z] at e2 l2
    have p := l1.1
    generalize (low t u).1 = a at *
    generalize (low t u).2 = b at *
    -- a u = t b, a v = s b
    refine Int.eq_of_mul_eq_mul_right (show b ≠ 0 by omega) ?_
    calc t * v * b = t * b * v := by rw [Int.mul_assoc, Int.mul_comm v b, ← Int.mul_assoc]
      _ = a * u * v := by rw [e1]
      _ = a * v * u := by rw [Int.mul_assoc, Int.mul_comm u v, ← Int.mul_assoc]
      _ = s * b * u := by rw [e2]
      _ = s * u * b := by rw [Int.mul_assoc, Int.mul_comm b u, ← Int.mul_assoc]
  · intro z
    have k : (low t u).1 * (low s v).2 = (low s v).1 * (low t u).2 := by
      generalize (low t u).1 = a at *
      generalize (low t u).2 = b at *
      generalize (low s v).1 = c at *
      generalize (low s v).2 = d at *
      -- a u = t b, c v = s d, t v = s u
      refine Int.eq_of_mul_eq_mul_right (show u * v ≠ 0 from Int.mul_ne_zero hu hv) ?_
      calc a * d * (u * v) = (a * u) * (v * d) := by ac_rfl
        _ = (t * b) * (v * d) := by rw [e1]
        _ = (t * v) * (b * d) := by ac_rfl
        _ = (s * u) * (b * d) := by rw [z]
        _ = (s * d) * (b * u) := by ac_rfl
        _ = (c * v) * (b * u) := by rw [e2]
        _ = c * b * (u * v) := by ac_rfl
    obtain ⟨q1, q2⟩ := low_unique l1 l2 k
    exact Prod.ext q1 q2
theorem low_self {a b : Int} (h : Low a b) : low a b = (a, b) := by
  have b0 := h.1
  have l := low_low (t := a) (u := b) (by omega)
  obtain ⟨q1, q2⟩ := low_unique l h (low_eq (t := a) (u := b))
  exact Prod.ext q1 q2
/-! ### sums and products -/
def fadd (x y : Int × Int) : Int × Int := low (x.1 * y.2 + y.1 * x.2) (x.2 * y.2)
def fmul (x y : Int × Int) : Int × Int := low (x.1 * y.1) (x.2 * y.2)
abbrev LowP (x : Int × Int) : Prop := Low x.1 x.2
theorem LowP.ne {x : Int × Int} (h : LowP x) : x.2 ≠ 0 := by
  have := h.1
  omega
theorem fadd_low {x y : Int × Int} (hx : LowP x) (hy : LowP y) : LowP (fadd x y) := low_low (Int.mul_ne_zero hx.ne hy.ne)
theorem fmul_low {x y : Int × Int} (hx : LowP x) (hy : LowP y) : LowP (fmul x y) := low_low (Int.mul_ne_zero hx.ne hy.ne)
theorem fadd_comm (x y : Int × Int) : fadd x y = fadd y x := by
  unfold fadd
  rw [Int.add_comm, Int.mul_comm x.2 y.2]
theorem fmul_comm (x y : Int × Int) : fmul x y = fmul y x := by
  unfold fmul
  rw [Int.mul_comm x.1 y.1, Int.mul_comm x.2 y.2]
theorem fadd_eq {x y : Int × Int} : (fadd x y).1 * (x.2 * y.2) = (x.1 * y.2 + y.1 * x.2) * (fadd x y).2 := low_eq
theorem fmul_eq {x y : Int × Int} : (fmul x y).1 * (x.2 * y.2) = (x.1 * y.1) * (fmul x y).2 := low_eq
theorem fadd_nought {x : Int × Int} (h : LowP x) : fadd x (0, 1) = x := by
  unfold fadd
  show low (x.1 * 1 + 0 * x.2) (x.2 * 1) = x
  rw [Int.mul_one, Int.zero_mul, Int.add_zero, Int.mul_one]
  exact low_self h
theorem fmul_one {x : Int × Int} (h : LowP x) : fmul x (1, 1) = x := by
  unfold fmul
  show low (x.1 * 1) (x.2 * 1) = x
  rw [Int.mul_one, Int.mul_one]
  exact low_self h
theorem low_of {t u a b : Int} (hu : u ≠ 0) (hb : b ≠ 0) (e : t * b = a * u) : low t u = low a b := (low_iff hu hb).mpr e
theorem fadd_assoc {x y z : Int × Int} (hx : LowP x) (hy : LowP y) (hz : LowP z) : fadd (fadd x y) z = fadd x (fadd y z) := by
  have n1 := (fadd_low hx hy).ne
  have n2 := (fadd_low hy hz).ne
  have e1 := fadd_eq (x := x) (y := y)
  have e2 := fadd_eq (x := y) (y := z)
  have nx := hx.ne
  have ny := hy.ne
  have nz := hz.ne
  show low ((fadd x y).1 * z.2 + z.1 * (fadd x y).2) ((fadd x y).2 * z.2) = low (x.1 * (fadd y z).2 + (fadd y z).1 * x.2) (x.2 * (fadd y z).2)
  generalize (fadd x y).1 = p at *
  generalize (fadd x y).2 = q at *
  generalize (fadd y z).1 = r at *
  generalize (fadd y z).2 = s at *
  generalize x.1 = a at *
  generalize x.2 = b at *
  generalize y.1 = c at *
  generalize y.2 = d at *
  generalize z.1 = e at *
  generalize z.2 = f at *
  refine low_of (Int.mul_ne_zero n1 nz) (Int.mul_ne_zero nx n2) ?_
  -- p b d = (a d + c b) q ; r d f = (c f + e d) s ; goal (p f + e q) (b s) = (a s + r b) (q f)
  refine Int.eq_of_mul_eq_mul_right (show d ≠ 0 from ny) ?_
  have g1 : (p * f + e * q) * (b * s) * d = (p * (b * d)) * (f * s) + e * q * b * s * d := by
    rw [Int.add_mul, Int.add_mul]
    congr 1 <;> ac_rfl
  have g2 : (a * s + r * b) * (q * f) * d = (r * (d * f)) * (b * q) + a * s * q * f * d := by
    rw [Int.add_mul, Int.add_mul, Int.add_comm]
    congr 1 <;> ac_rfl
  rw [g1, g2, e1, e2, Int.add_mul, Int.add_mul, Int.add_mul, Int.add_mul]
  have k1 : a * d * q * (f * s) = a * s * q * f * d := by ac_rfl
  have k2 : c * b * q * (f * s) = c * f * s * (b * q) := by ac_rfl
  have k3 : e * q * b * s * d = e * d * s * (b * q) := by ac_rfl
  rw [k1, k2, k3]
  omega
theorem fmul_assoc {x y z : Int × Int} (hx : LowP x) (hy : LowP y) (hz : LowP z) : fmul (fmul x y) z = fmul x (fmul y z) := by
  have n1 := (fmul_low hx hy).ne
  have n2 := (fmul_low hy hz).ne
  have e1 := fmul_eq (x := x) (y := y)
  have e2 := fmul_eq (x := y) (y := z)
  have nx := hx.ne
  have ny := hy.ne
  have nz := hz.ne
  show low ((fmul x y).1 * z.1) ((fmul x y).2 * z.2) = low (x.1 * (fmul y z).1) (x.2 * (fmul y z).2)
  generalize (fmul x y).1 = p at *
  generalize (fmul x y).2 = q at *
  generalize (fmul y z).1 = r at *
  generalize (fmul y z).2 = s at *
  generalize x.1 = a at *
  generalize x.2 = b at *
  generalize y.1 = c at *
  generalize y.2 = d at *
  generalize z.1 = e at *
  generalize z.2 = f at *
  refine low_of (Int.mul_ne_zero n1 nz) (Int.mul_ne_zero nx n2) ?_
  -- p b d = a c q ; r d f = c e s ; goal p e b s = a r q f
  refine Int.eq_of_mul_eq_mul_right (show d ≠ 0 from ny) ?_
  have g1 : p * e * (b * s) * d = (p * (b * d)) * (e * s) := by ac_rfl
  have g2 : a * r * (q * f) * d = (r * (d * f)) * (a * q) := by ac_rfl
  rw [g1, g2, e1, e2]
  ac_rfl
theorem fmul_fadd {x y z : Int × Int} (hx : LowP x) (hy : LowP y) (hz : LowP z) : fmul x (fadd y z) = fadd (fmul x y) (fmul x z) := by
  have n1 := (fmul_low hx hy).ne
  have n2 := (fmul_low hx hz).ne
  have n3 := (fadd_low hy hz).ne
  have e1 := fmul_eq (x := x) (y := y)
  have e2 := fmul_eq (x := x) (y := z)
  have e3 := fadd_eq (x := y) (y := z)
  have nx := hx.ne
  have ny := hy.ne
  have nz := hz.ne
  show low (x.1 * (fadd y z).1) (x.2 * (fadd y z).2) = low ((fmul x y).1 * (fmul x z).2 + (fmul x z).1 * (fmul x y).2) ((fmul x y).2 * (fmul x z).2)
  generalize (fmul x y).1 = p at *
  generalize (fmul x y).2 = q at *
  generalize (fmul x z).1 = r at *
  generalize (fmul x z).2 = s at *
  generalize (fadd y z).1 = t at *
  generalize (fadd y z).2 = u at *
  generalize x.1 = a at *
  generalize x.2 = b at *
  generalize y.1 = c at *
  generalize y.2 = d at *
  generalize z.1 = e at *
  generalize z.2 = f at *
  refine low_of (Int.mul_ne_zero nx n3) (Int.mul_ne_zero n1 n2) ?_
  -- p b d = a c q ; r b f = a e s ; t d f = (c f + e d) u ; goal a t q s = (p s + r q) b u
  refine Int.eq_of_mul_eq_mul_right (show d * f ≠ 0 from Int.mul_ne_zero ny nz) ?_
  have g1 : a * t * (q * s) * (d * f) = (t * (d * f)) * (a * q * s) := by ac_rfl
  have g2 : (p * s + r * q) * (b * u) * (d * f) = (p * (b * d)) * (s * u * f) + (r * (b * f)) * (q * u * d) := by
    rw [Int.add_mul, Int.add_mul]
    congr 1 <;> ac_rfl
  rw [g1, g2, e1, e2, e3, Int.add_mul, Int.add_mul]
  congr 1 <;> ac_rfl
theorem fadd_neg {x : Int × Int} (hx : LowP x) : fadd x (fmul x (0 - 1, 1)) = (0, 1) := by
  have nx := hx.ne
  have l1 : LowP ((0 - 1 : Int), (1 : Int)) := ⟨by decide, by decide⟩
  have n1 := (fmul_low hx l1).ne
  have e1 := fmul_eq (x := x) (y := ((0 - 1 : Int), (1 : Int)))
  have one : LowP ((0 : Int), (1 : Int)) := ⟨by decide, by decide⟩
  show low (x.1 * (fmul x (0 - 1, 1)).2 + (fmul x (0 - 1, 1)).1 * x.2) (x.2 * (fmul x (0 - 1, 1)).2) = (0, 1)
  rw [← low_self one]
  have e2 : (fmul x (0 - 1, 1)).1 * (x.2 * 1) = x.1 * (0 - 1) * (fmul x (0 - 1, 1)).2 := e1
  generalize (fmul x (0 - 1, 1)).1 = p at *
  generalize (fmul x (0 - 1, 1)).2 = q at *
  refine low_of (Int.mul_ne_zero nx n1) (by decide) ?_
  rw [Int.mul_one] at e2
  rw [Int.mul_one, Int.zero_mul, e2, Int.mul_assoc, Int.zero_sub, Int.neg_mul, Int.one_mul, Int.mul_neg]
  omega
end L2.Fr

set_option Elab.async false
set_option linter.all false
set_option maxRecDepth 100000
set_option maxHeartbeats 4000000
namespace SlX
open PySem PySem.W PySem.Calls PyProof.Rows PySem.Spec
open Builtin Builtin.ObjectAttr
section
variable {prog : Program} {w : World} {A : Around} {E : Value → Shared → Prop} {R : Result → Shared → Prop} {hp : Heap} {g : Array GenState} {d : Drawn} {t : Nat} {os : OsState}
/-- the first attribute of an exception of an own class over any built-in base -/
theorem first_put {K : Frag} {B : String} {bmB : List Value} {name : Str} {tk : Tok} {v : Value} {x C : Addr} {fv : Array Value} (SF : StoreFacts B bmB "object.__setattr__" "object") (KX : K.In hp)
    (hx : hp.get? x = some { cls := .ref C, data := .fields fv }) (hov : excOver K C bmB = true) (hdi : hasDictIn K C = true) (hno : findIn K (.ref C) name = some none)
    (fin : ∀ h2 tk2 dx, (∀ b o, b ≠ x → hp.get? b = some o → h2.get? b = some o) → hp.objs.size ≤ dx → dx ≠ x → h2.get? x = some { cls := .ref C, dict := some dx, data := .fields fv } →
      h2.Ns1 dx (fun y => if y = name then some v else none) → R (.ok (.ret .none)) ⟨h2, g, d, tk2, os⟩) :
    codeAny (model prog w) A (.call (.builtin "object.__setattr__") ⟨[.ref x, .str name tk, v], []⟩) R ⟨hp, g, d, t, os⟩ := by
  obtain ⟨cd, hcd, hhd⟩ := any_some hdi
  have xsz : x ≠ hp.objs.size := Nat.ne_of_lt (Heap.lt_size hx)
  have clsL : Looks (model prog w) hp (classData C) cd := looks_clsIn KX hcd
  have tkr : takerIn K C name = some none := by
    unfold takerIn
    rw [hno]
    rfl
  refine osa_openX (ox := { cls := .ref C, data := .fields fv }) (od := none) (r := none) SF KX ⟨hx, rfl, rfl, trivial⟩ hov tkr fun bb => ?_
  dsimp only
  unfold storeInOwnDict ownDictForStores
  obtain ⟨nm, bs, mro, ns, qn, hdd, sn, sb, ab, col, del⟩ := cd
  dsimp only at hhd
  subst hhd
  repeat (first | with_reducible refine HandSPX.store_in_new ?_ ?_ | with_reducible refine wpAny_loadPart_at hx ?_ | with_reducible refine clsL.at ?_ | wp_step)
  · exact ⟨_, #[], _, (Heap.get?_update_ne _ _ _ _ xsz.symm).trans (Heap.get?_push_at rfl rfl), rfl, fun e he => absurd he (by simp), fun _ => rfl⟩
  · intro h2 tk2 hn2 sb2
    have hx1 : (hp.push { cls := .type "dict", data := .dict #[] }).get? x = some { cls := .ref C, data := .fields fv } := Heap.get?_push_of_some _ hx
    refine fin h2 tk2 hp.objs.size (fun b o hb ho => ?_) (Nat.le_refl _) xsz.symm ?_ hn2
    · have q1 := Heap.get?_push_of_some { cls := .type "dict", data := .dict #[] } ho
      exact (sb2.2 b (Nat.ne_of_lt (Heap.lt_size ho))).trans ((Heap.get?_update_ne _ _ _ _ hb).trans q1)
    · exact (sb2.2 x xsz).trans (Heap.get?_update_self _ hx1 rfl)
/-- a further one -/
theorem more_put {K : Frag} {B : String} {bmB : List Value} {name : Str} {tk : Tok} {v : Value} {x C dx : Addr} {fv : Array Value} {m0 : Str → Option Value} {nl : List Str} (SF : StoreFacts B bmB "object.__setattr__" "object") (KX : K.In hp)
    (hx : hp.get? x = some { cls := .ref C, dict := some dx, data := .fields fv }) (hns : hp.Ns1 dx m0) (hwn : Within m0 nl) (hz : nl.length ≤ 1000) (hov : excOver K C bmB = true) (hdi : hasDictIn K C = true) (hno : findIn K (.ref C) name = some none)
    (fin : ∀ h2 tk2, (∀ b o, b ≠ dx → hp.get? b = some o → h2.get? b = some o) → h2.Ns1 dx (fun y => if y = name then some v else m0 y) → R (.ok (.ret .none)) ⟨h2, g, d, tk2, os⟩) :
    codeAny (model prog w) A (.call (.builtin "object.__setattr__") ⟨[.ref x, .str name tk, v], []⟩) R ⟨hp, g, d, t, os⟩ := by
  obtain ⟨cd, hcd, hhd⟩ := any_some hdi
  obtain ⟨oD, esD, epD, hoD, hdD, _⟩ := hns.count hwn
  have clsL : Looks (model prog w) hp (classData C) cd := looks_clsIn KX hcd
  have tkr : takerIn K C name = some none := by
    unfold takerIn
    rw [hno]
    rfl
  refine osa_openX (ox := { cls := .ref C, dict := some dx, data := .fields fv }) (od := some oD) (r := none) SF KX ⟨hx, rfl, rfl, hoD⟩ hov tkr fun bb => ?_
  dsimp only
  unfold storeInOwnDict ownDictForStores
  obtain ⟨nm, bs, mro, ns, qn, hdd, sn, sb, ab, col, del⟩ := cd
  dsimp only at hhd
  subst hhd
  repeat (first | with_reducible refine OEX.store_in_old hns hwn hz ?_ | with_reducible refine wpAny_loadPart_at hx ?_ | with_reducible refine clsL.at ?_ | wp_step)
  intro h2 tk2 hn2 sb2
  exact fin h2 tk2 (fun b o hb ho => (sb2.2 b hb).trans ho) hn2
end
end SlX

set_option Elab.async false
set_option linter.all false
set_option maxRecDepth 100000
set_option maxHeartbeats 4000000
namespace SlX
open PySem PySem.W PySem.Calls
open Builtin Builtin.ObjectAttr
section
variable {M : Model} {prog : Program} {w : World} {A : Around} {E : Value → Shared → Prop} {R : Result → Shared → Prop} {h : Heap} {g : Array GenState} {d : Drawn} {t : Nat} {os : OsState}
variable {nm q : Str} {C N : Addr} {bs bm bmB : List Value} {hdct : Bool} {sn : List Str} {sub : List Value} {ab : Bool} {col : Option Bool} {dd : Option Addr} {k0 k1 k2 k3 k5 : Option Value} {B newId initId : String}
variable {rest : List Value} {kw : List (Str × Value)}
theorem look_new_kw (FB : ExcBaseFacts B newId initId bmB) (same : ∀ T : String, bm.contains (.type T) = bmB.contains (.type T)) {Q : Unit → Shared → Prop}
    (hC : h.get? C = some (excClassObj nm q C N bs bm hdct sn sub ab col dd k0 k1 k2 k3 k5 newId)) (fin : Q () ⟨h, g, d, t, os⟩) : wpAny M A (checkBuiltinCall newId ⟨.ref C :: rest, kw⟩) Q E ⟨h, g, d, t, os⟩ := by
  have isB : (Value.ref C :: bm).contains (.type B) = true := by
    rw [List.contains_cons, same, FB.hasB, Bool.or_true]
  have ns := FB.noStar
  simp only [checkBuiltinCall, FB.newKind, FB.newSplit, FB.newRow]
  repeat (first | refine wpAny_loadPart_at hC ?_ | (refine wpAny_isSubtype_exc hC ?_; rw [isB]) | refine wpAny_staticBase_exc hC ?_ | refine wpAny_madeBy_exc hC ?_ | simp only [bne_self_eq_false, Bool.false_eq_true, if_false] | wp_step)
  exact fin
theorem new_kw (FB : ExcBaseFacts B newId initId bmB) (same : ∀ T : String, bm.contains (.type T) = bmB.contains (.type T))
    (hC : h.get? C = some (excClassObj nm q C N bs bm hdct sn sub ab col dd k0 k1 k2 k3 k5 newId)) (sz : rest.length ≤ sizeLine)
    (fin : R (.ok (.ret (.ref (h.objs.size + 1)))) ⟨(h.push (W.kdv_tup rest)).push (HandSPX.excO C h.objs.size), g, d, t, os⟩) :
    codeAny (model prog w) A (.builtin newId ⟨.ref C :: rest, kw⟩) R ⟨h, g, d, t, os⟩ := by
  have en := FB.ends
  have isB : (Value.ref C :: bm).contains (.type B) = true := by
    rw [List.contains_cons, same, FB.hasB, Bool.or_true]
  have noA : (Value.ref C :: bm).contains (.type "AttributeError") = false := by
    rw [List.contains_cons, same, FB.noAttr]
    rfl
  have noN : (Value.ref C :: bm).contains (.type "NameError") = false := by
    rw [List.contains_cons, same, FB.noName]
    rfl
  refine codeAny_builtinAt FB.entry ?_
  unfold Builtin.«BaseException.__new__»
  refine wpAt_bind ?_
  show wpAt _ _ _ (stack >>= _) _ _ _
  refine wpAt_bind (wpAt_stack fun p below => wpAt_of_wpAny ?_)
  wp_walk
  refine wpAt_of_wpAny ?_
  rw [FB.owner]
  repeat (first | with_reducible refine wpAny_madeHere_exc FB.canon hC ?_ | with_reducible refine wpAny_loadPart_at hC ?_ | (with_reducible refine wpAny_isSubtype_exc hC ?_; first | rw [isB] | rw [noA] | rw [noN]) | wp_step)
  show R _ _
  rw [Heap.size_push]
  exact fin
theorem typeCall_kw (FB : ExcBaseFacts B newId initId bmB) (same : ∀ T : String, bm.contains (.type T) = bmB.contains (.type T)) {fI : Addr} {Q : Fin → Shared → Prop}
    (hC : h.get? C = some (excClassObj nm q C N bs bm hdct sn sub ab col dd k0 k1 k2 k3 k5 newId))
    (hi : W.Looks (model prog w) h (typeLookup (.ref C) "__init__") (some (.ref fI))) (hb : ∀ self, W.Looks (model prog w) h (bindSpecial (.ref fI) self) (.ref fI, [self])) (sz : rest.length ≤ sizeLine)
    (fin : codeAny (model prog w) A (.call (.ref fI) ⟨.ref (h.objs.size + 1) :: rest, kw⟩)
      (fun r s2 => match r with | .ok (.ret v) => v = .none ∧ Q (.done (.ret (.ref (h.objs.size + 1)))) s2 | .ok _ => False | .error e => E e s2)
      ⟨(h.push (W.kdv_tup rest)).push (HandSPX.excO C h.objs.size), g, d, t, os⟩) :
    wpAny (model prog w) A (Builtin.«type.__call__» ⟨.ref C :: rest, kw⟩) Q E ⟨h, g, d, t, os⟩ := by
  repeat (first | with_reducible refine wpAny_loadPart_at hC ?_ | with_reducible refine wpAny_madeBy_exc hC ?_ | wp_step)
  refine codeAny_call_builtin_code (Code.quiet_builtin _ FB.quiet) (look_new_kw FB same hC ?_)
  refine new_kw FB same hC sz ?_
  show wpAny _ _ _ _ _ _
  have kp : ∀ b o, h.get? b = some o → ((h.push (W.kdv_tup rest)).push (HandSPX.excO C h.objs.size)).get? b = some o := fun b o e => Heap.get?_push_of_some _ (Heap.get?_push_of_some _ e)
  have hC2 := kp _ _ hC
  have got : ((h.push (W.kdv_tup rest)).push (HandSPX.excO C h.objs.size)).get? (h.objs.size + 1) = some (HandSPX.excO C h.objs.size) := by heap_get
  have isC : (Value.ref C :: bm).contains (.ref C) = true := by simp
  have i2 := hi.keeps kp
  have b2 := (hb (.ref (h.objs.size + 1))).keeps kp
  unfold isInstance
  repeat (first | with_reducible refine wpAny_loadPart_at got ?_ | (with_reducible refine wpAny_isSubtype_exc hC2 ?_; rw [isC]) | wp_step)
  show wpAny _ _ (typeLookup (.ref C) _) _ _ _
  refine i2.at ?_
  refine wpAny_holding (wpAny_bind (b2.at ?_))
  refine wpAny_bind (wpAny_call (codeAny_mono fin fun r s2 z => ?_))
  rcases r with e | (v | _ | _ | _) <;> first | exact z | exact z.elim | skip
  obtain ⟨rfl, z⟩ := z
  first
    | exact wpAny_pure (wpAny_pure z)
    | (wp_walk; exact z)
theorem look_call_kw {Q : Unit → Shared → Prop} (hC : h.get? C = some (excClassObj nm q C N bs bm hdct sn sub ab col dd k0 k1 k2 k3 k5 newId)) (fin : Q () ⟨h, g, d, t, os⟩) :
    wpAny M A (checkBuiltinCall "type.__call__" ⟨.ref C :: rest, kw⟩) Q E ⟨h, g, d, t, os⟩ := by
  have f3 := tc_sub
  have ty : (⟨h, g, d, t, os⟩ : Shared).TypeIs (.ref C) "type" := ⟨_, hC, rfl⟩
  simp only [checkBuiltinCall, tc_kind, tc_split]
  repeat (any_goals (first | assumption | with_reducible refine wpAny_loadPart_at hC ?_ | with_reducible refine wpAny_onRaise ?_ | with_reducible refine wpAny_map ?_ | wp_step))
theorem callCls_kw (FB : ExcBaseFacts B newId initId bmB) (same : ∀ T : String, bm.contains (.type T) = bmB.contains (.type T)) {fI : Addr}
    (hC : h.get? C = some (excClassObj nm q C N bs bm hdct sn sub ab col dd k0 k1 k2 k3 k5 newId))
    (hi : W.Looks (model prog w) h (typeLookup (.ref C) "__init__") (some (.ref fI))) (hb : ∀ self, W.Looks (model prog w) h (bindSpecial (.ref fI) self) (.ref fI, [self])) (sz : rest.length ≤ sizeLine)
    (fin : codeAny (model prog w) (A.under (.builtin "type.__call__" ⟨.ref C :: rest, kw⟩)) (.call (.ref fI) ⟨.ref (h.objs.size + 1) :: rest, kw⟩) (W.InitBack (h.objs.size + 1) R)
      ⟨(h.push (W.kdv_tup rest)).push (HandSPX.excO C h.objs.size), g, d, t, os⟩) :
    codeAny (model prog w) A (.call (.ref C) ⟨rest, kw⟩) R ⟨h, g, d, t, os⟩ := by
  have f1 := tc_lookup
  have f2 := tc_bind (.ref C)
  have ty : (⟨h, g, d, t, os⟩ : Shared).TypeIs (.ref C) "type" := ⟨_, hC, rfl⟩
  refine codeAny_of_tree ?_
  show wpAny _ _ (callAny (.ref C) _) _ _ _
  repeat (any_goals (first | assumption | with_reducible refine wpAny_loadPart_at hC ?_ | wp_step))
  refine ⟨rfl, ?_⟩
  refine codeAny_call_builtin_at (Code.quiet_builtin _ (by decide +kernel)) entry_typeCall (look_call_kw hC (typeCall_kw FB same hC hi hb sz ?_))
  refine codeAny_mono fin fun r s2 z => ?_
  rcases r with e | (v | _ | _ | _) <;> exact z
end
end SlX

set_option Elab.async false
set_option linter.all false
set_option maxRecDepth 100000
set_option maxHeartbeats 4000000
namespace SlX
open PySem PySem.W PySem.Calls PyProof.Rows PySem.Spec L2
open Builtin Builtin.ObjectAttr
/-- self.f = f, for each of the fields -/
inductive Inits : List Stmt → List Str → Prop
  | nil : Inits [] []
  | cons {f : Str} {fs : List Str} {r : List Stmt} (q1 q2 q3 q4 : Pos) : Inits r fs → Inits (.Assign [.Attribute (.Name "self" q1) f q2] (.Name f q3) q4 :: r) (f :: fs)
/-- an exception class of the program whose __init__ (at fI, the statement st) stores the fields fs -/
structure EC (K : Frag) (C fI : Addr) (qual : Str) (st : Stmt) (fs : List Str) : Prop where
  ob : ∃ B newId initId bmB nm q N bs bm sn sub ab col dd k0 k1 k2 k3 k5, ExcBaseFacts B newId initId bmB ∧ StoreFacts B bmB "object.__setattr__" "object" ∧
    K.lookup C = some (excClassObj nm q C N bs bm true sn sub ab col dd k0 k1 k2 k3 k5 newId) ∧ excTail bmB bm = true
  sa : findIn K (.ref C) "__setattr__" = some (some (.builtin "object.__setattr__"))
  ga : findIn K (.ref C) "__getattribute__" = some (some (.builtin "BaseException.__getattribute__"))
  gg : findIn K (.ref C) "__getattr__" = some none
  no : ∀ f ∈ fs, findIn K (.ref C) f = some none
  iC : findIn K (.ref C) "__init__" = some (some (.ref fI))
  tI : typeIn K (.ref fI) = some (.type "function")
  kC : keepIn K (.ref C) = true
  exC : subIn K (.ref C) (.type "BaseException") = some true
  tyC : typeIn K (.ref C) = some (.type "type")
  hdC : hasDictIn K C = true
  fn : ∃ (oc : Value) (od : Option Addr) (kV doc pm : Value) (an : Option Addr) (cdv ct : Value) (osl : Array (Option Value)),
    K.lookup fI = some ⟨oc, od, .func (fnOf "__init__" qual (defArgs st) (defBody st) (defScope st) .none kV doc pm an cdv ct), osl⟩ ∧ codeIn K cdv qual = true
/-- how the __init__ reads: names and fields of its text -/
structure InitTxt (st : Stmt) (fs : List Str) : Prop where
  body : Inits (defBody st) fs
  nd : (("self" : Str) :: fs).Nodup
  loc : ∀ y ∈ (("self" : Str) :: fs), (defScope st).names.lookup y = some .local ∧ (y == ("__debug__" : Str)) = false
  kind : (defScope st).kind = .function
  co : (defScope st).isCoroutine = false
  gen : (defScope st).isGenerator = false
/-- a made exception: at e, its dict at d -/
structure MadeE (h h2 : Heap) (e C d : Addr) (l : List (Str × Value)) : Prop where
  keep : ∀ b o, h.get? b = some o → h2.get? b = some o
  new : h.objs.size ≤ e
  obj : ∃ oe vs, h2.get? e = some oe ∧ oe.cls = .ref C ∧ oe.dict = some d ∧ oe.data = .fields vs ∧ vs[1]? = some .none ∧ vs[2]? = some .none
  dbig : h.objs.size ≤ d
  dne : d ≠ e
  ns : h2.Ns1 d (fun y => l.lookup y)
theorem look_put {α : Type} (f y : Str) (v : α) (l : List (Str × α)) : ((f, v) :: l).lookup y = if y = f then some v else l.lookup y := by
  by_cases h : y = f
  · subst h
    simp [List.lookup]
  · have e : (y == f) = false := by simpa using h
    rw [if_neg h]
    simp [List.lookup, e]
theorem with_keys {l : List (Str × Value)} : Within (fun y => l.lookup y) (l.map (·.1)) := fun y hy => by
  induction l with
  | nil => exact absurd rfl hy
  | cons p l ih =>
    obtain ⟨f, v⟩ := p
    dsimp only at hy
    rw [look_put] at hy
    by_cases e : y = f
    · rw [e]
      exact List.mem_cons_self ..
    · rw [if_neg e] at hy
      exact List.mem_cons_of_mem _ (ih hy)
section
variable {prog : Program} {w : World} {A : Around} {E : Value → Shared → Prop} {R : Result → Shared → Prop} {K : Frag} {C fI : Addr} {qual : Str} {st : Stmt} {fs : List Str}
theorem EC.over (T : EC K C fI qual st fs) : ∃ B bmB, StoreFacts B bmB "object.__setattr__" "object" ∧ excOver K C bmB = true := by
  obtain ⟨B, newId, initId, bmB, nm, q, N, bs, bm, sn, sub, ab, col, dd, k0, k1, k2, k3, k5, FB, SF, hC, ht⟩ := T.ob
  refine ⟨B, bmB, SF, ?_⟩
  have hcl : clsIn K C = some { name := nm, bases := bs, mro := .ref C :: bm, ns := N, qualname := q, hasDict := true, slotNames := sn, subclasses := sub, abstract := ab, collection := col, hasDel := false } := by
    unfold clsIn
    rw [hC] <;> rfl
  unfold excOver
  rw [hcl]
  simp [ht]
theorem rd_loc {M : Model} {s : Shared} {scope : Scope} {L a : Addr} {cd : Value} {m : Str → Option Value} {x : Str} {pos : Pos} {v : Value} {Q : Value → Shared → Prop} (hn : s.heap.Ns L m) (hv : m x = some v) (hk : scope.kind = .function) (hl : scope.names.lookup x = some .local)
    (hd : (x == ("__debug__" : Str)) = false) (h : Q v s) : wpAny M A (eval (.Name x pos) (envOfC qual scope L a cd)) Q E s := wpAny_Name (wpAny_loadName_local hk hl hn hv h) hd
/-- the later stores -/
theorem init_more {sc : Scope} {L dx x a : Addr} {cdv : Value} {m : Str → Option Value} {fv : Array Value} {val : Str → Value} (T : EC K C fI qual st fs) (hkind : sc.kind = .function) (hself : sc.names.lookup ("self" : Str) = some .local) (hmS : m "self" = some (.ref x)) (xL : x ≠ L) (dL : dx ≠ L) (xd : x ≠ dx) (nx : K.lookup x = none) (nd : K.lookup dx = none) :
    ∀ (body : List Stmt) (gs : List Str), Inits body gs → (∀ f ∈ gs, f ∈ fs ∧ m f = some (val f) ∧ sc.names.lookup f = some .local ∧ (f == ("__debug__" : Str)) = false) → ∀ (s : Shared) (l : List (Str × Value)) (Q : Flow → Shared → Prop), K.In s.heap → s.heap.Ns L m → l.length + gs.length ≤ 1000 →
      s.heap.get? x = some { cls := .ref C, dict := some dx, data := .fields fv } → s.heap.Ns1 dx (fun y => l.lookup y) →
      (∀ h2 tk, (∀ b o, b ≠ dx → s.heap.get? b = some o → h2.get? b = some o) → h2.Ns1 dx (fun y => ((gs.map fun f => (f, val f)).reverse ++ l).lookup y) → Q .next { s with heap := h2, toks := tk }) →
      wpAny (model prog w) A (execs body (envOfC qual sc L a cdv)) Q E s := by
  intro body gs I
  induction I with
  | nil => exact fun _ s l Q KX hn hz hx hd fin => wpAny_execs_nil (fin s.heap s.toks (fun _ _ _ e => e) hd)
  | @cons f gs r q1 q2 q3 q4 I ih =>
    intro hall s l Q KX hn hz hx hd fin
    obtain ⟨hf, hmf, hlf, hdf⟩ := hall f (List.mem_cons_self ..)
    obtain ⟨B, bmB, SF, ov⟩ := T.over
    obtain ⟨hp, g, dr, tk0, os⟩ := s
    refine wpAny_execs_cons (plainObj_wpAny_Assign_Attribute ?_)
    refine rd_loc hn hmf hkind hlf hdf (rd_loc hn hmS hkind hself (by decide) ?_)
    obtain ⟨oD, esD, epD, hoD, hdD, hrD⟩ := id hd
    refine set_plain KX (ox := { cls := .ref C, dict := some dx, data := .fields fv }) (od := some oD) ⟨hx, rfl, rfl, hoD⟩ T.sa ?_
    have hlen : (l.map (·.1)).length ≤ 1000 := by
      rw [List.length_map]
      have q : l.length + (gs.length + 1) ≤ 1000 := hz
      omega
    refine more_put SF KX hx hd with_keys hlen ov T.hdC (T.no f hf) (fun h2 tk2 k2 hd2 => ?_)
    show wpAny _ _ (execs r _) _ _ _
    have kl : ∀ y, (if y = f then some (val f) else l.lookup y) = ((f, val f) :: l).lookup y := fun y => (look_put f y _ l).symm
    refine ih (fun y hy => hall y (List.mem_cons_of_mem _ hy)) ⟨h2, g, dr, tk2, os⟩ ((f, val f) :: l) Q (fun b o e => k2 b o (fun z => by rw [z, nd] at e; cases e) (KX b o e)) (hn.at fun o e => k2 _ o (Ne.symm dL) e) ?_ (k2 _ _ xd hx) ?_ (fun h3 tk3 k3 hd3 => ?_)
    · show l.length + 1 + gs.length ≤ 1000
      have q : l.length + (gs.length + 1) ≤ 1000 := hz
      omega
    · have hd2' := hd2
      simp only [kl] at hd2'
      exact hd2'
    · refine fin h3 tk3 (fun b o hb e => k3 b o hb (k2 b o hb e)) ?_
      have e : ((gs.map fun f => (f, val f)).reverse ++ (f, val f) :: l) = (((f :: gs).map fun f => (f, val f)).reverse ++ l) := by simp
      rw [← e]
      exact hd3
end
end SlX

set_option Elab.async false
set_option linter.all false
set_option maxRecDepth 100000
set_option maxHeartbeats 4000000
namespace SlX
open PySem PySem.W PySem.Calls PyProof.Rows PySem.Spec L2
open Builtin Builtin.ObjectAttr
section
variable {prog : Program} {w : World} {A : Around} {E : Value → Shared → Prop} {R : Result → Shared → Prop} {K : Frag} {C fI : Addr} {qual : Str} {st : Stmt} {fs : List Str}
/-- the arguments as the __init__ takes them -/
def BindI (st : Stmt) (qual : Str) (fs : List Str) (args : Value → Args) (vals : List Value) : Prop :=
  ∀ (kV doc pm : Value) (an : Option Addr) (cdv ct u : Value) (s : Shared), BindsTo s (fnOf "__init__" qual (defArgs st) (defBody st) (defScope st) .none kV doc pm an cdv ct) (args u) ((("self" : Str), u) :: fs.zip vals)
theorem bound_at {ps : List Str} {us : List Value} {kindOf : Str → Option NameKind} {i : Nat} {y : Str} {v : Value} (nd : ps.Nodup) (h1 : ps[i]? = some y) (h2 : us[i]? = some v) (hk : kindOf y = some .local) :
    bindL kindOf (ps.zip us) (fun _ => none) y = some v := bindL_get nd h1 h2 hk
theorem vals_fun : ∀ {gs : List Str} {vs : List Value}, gs.Nodup → vs.length = gs.length → ∃ val : Str → Value, gs.map (fun f => (f, val f)) = gs.zip vs
  | [], _, _, _ => ⟨fun _ => .none, rfl⟩
  | f :: r, [], _, h => by cases h
  | f :: r, v :: vr, nd, h => by
    obtain ⟨val, hv⟩ := vals_fun (gs := r) (vs := vr) (List.nodup_cons.mp nd).2 (by simpa using h)
    refine ⟨fun y => if y = f then v else val y, ?_⟩
    show (f, if f = f then v else val f) :: _ = (f, v) :: r.zip vr
    rw [if_pos rfl, ← hv]
    congr 1
    refine List.map_congr_left fun y hy => ?_
    have ny : y ≠ f := fun z => (List.nodup_cons.mp nd).1 (by rw [← z]; exact hy)
    show (y, if y = f then v else val y) = _
    rw [if_neg ny]
/-- the __init__ of a fresh exception at x -/
theorem init_run {s : Shared} {x t0 : Addr} {v0 : Value} {vs : List Value} {f0 : Str} {gs : List Str} {args : Value → Args} (T : EC K C fI qual st (f0 :: gs)) (J : InitTxt st (f0 :: gs)) (B : BindI st qual (f0 :: gs) args (v0 :: vs)) (hlen : vs.length = gs.length) (hsz : gs.length ≤ 900) (KX : K.In s.heap)
    (lim : s.heap.NoLimit) (hx : s.heap.get? x = some (HandSPX.excO C t0)) (nx : K.lookup x = none) (room : A.depth < recursionLimit)
    (fin : ∀ h2 tk dx, (∀ b o, b ≠ x → s.heap.get? b = some o → h2.get? b = some o) → h2.get? x = some { cls := .ref C, dict := some dx, data := .fields #[.ref t0, .none, .none, .none, .bool false, .none] } → s.heap.objs.size ≤ dx → dx ≠ x →
      h2.Ns1 dx (fun y => (((f0 :: gs).zip (v0 :: vs)).reverse).lookup y) → R (.ok (.ret .none)) { s with heap := h2, toks := tk }) :
    codeAny (model prog w) A (.call (.ref fI) (args (.ref x))) R s := by
  obtain ⟨oc, od, kV, doc, pm, an, cdv, ct, osl, ho, hcd⟩ := T.fn
  obtain ⟨Bn, bmB, SF, ov⟩ := T.over
  have hself := (J.loc "self" (List.mem_cons_self ..)).1
  have hloc : ∀ f ∈ f0 :: gs, (defScope st).names.lookup f = some .local ∧ (f == ("__debug__" : Str)) = false := fun f hf => J.loc f (List.mem_cons_of_mem _ hf)
  have hall : ∀ y ∈ ((("self" : Str), Value.ref x) :: (f0 :: gs).zip (v0 :: vs)), ((defScope st).names.lookup y.1 == some NameKind.local || (defScope st).names.lookup y.1 == some NameKind.cell) = true := fun y hy => by
    have q : y.1 ∈ (("self" : Str) :: f0 :: gs) := by
      rcases List.mem_cons.mp hy with e | e
      · rw [e]
        exact List.mem_cons_self ..
      · exact List.mem_cons_of_mem _ (List.of_mem_zip (a := y.1) (b := y.2) e).1
    rw [(J.loc _ q).1]
    rfl
  refine Att.call_fn (binds := (("self" : Str), .ref x) :: (f0 :: gs).zip (v0 :: vs)) KX lim ho hcd room (B _ _ _ _ _ _ _ s) (List.all_eq_true.mpr hall) (fun s1 IC => ?_) J.co J.gen J.kind
  obtain ⟨h1, tk1, rfl⟩ := IC.toInCall.same
  have k : ∀ b o, s.heap.get? b = some o → h1.get? b = some o := IC.toInCall.keep
  have hn := IC.toInCall.ns
  have xL : x ≠ s.heap.objs.size := Nat.ne_of_lt (Heap.lt_size hx)
  have KX1 : K.In h1 := KX.keeps k
  have hx1 := k _ _ hx
  have z1 : s.heap.objs.size < h1.objs.size := hn.lt
  -- the frame's map
  have mS : bindL (envOfC qual (defScope st) s.heap.objs.size fI cdv).kindOf ((("self" : Str), Value.ref x) :: (f0 :: gs).zip (v0 :: vs)) (fun _ => none) "self" = some (.ref x) :=
    bound_at (ps := ("self" : Str) :: f0 :: gs) (us := .ref x :: v0 :: vs) (i := 0) J.nd rfl rfl hself
  have mF : ∀ (i : Nat) f v, (f0 :: gs)[i]? = some f → (v0 :: vs)[i]? = some v → bindL (envOfC qual (defScope st) s.heap.objs.size fI cdv).kindOf ((("self" : Str), Value.ref x) :: (f0 :: gs).zip (v0 :: vs)) (fun _ => none) f = some v := fun i f v e1 e2 =>
    bound_at (ps := ("self" : Str) :: f0 :: gs) (us := .ref x :: v0 :: vs) (i := i + 1) J.nd (by simpa using e1) (by simpa using e2) (hloc f (List.mem_of_getElem? e1)).1
  have body := J.body
  show wpAny _ _ (execs (defBody st) _) _ _ _
  generalize hB : defBody st = bd at body
  cases body with
  | cons q1 q2 q3 q4 I =>
    rename_i r
    obtain ⟨hl0, hd0⟩ := hloc f0 (List.mem_cons_self ..)
    refine wpAny_execs_cons (plainObj_wpAny_Assign_Attribute ?_)
    refine rd_loc hn (mF 0 f0 v0 rfl rfl) J.kind hl0 hd0 (rd_loc hn mS J.kind hself (by decide) ?_)
    refine set_plain KX1 (ox := HandSPX.excO C t0) (od := none) ⟨hx1, rfl, rfl, trivial⟩ T.sa ?_
    refine first_put SF KX1 hx1 ov T.hdC (T.no f0 (List.mem_cons_self ..)) (fun h3 tk3 dx k3 dn dne hx3 hn3 => ?_)
    show wpAny _ _ (execs r _) _ _ _
    have dbig : s.heap.objs.size ≤ dx := Nat.le_of_lt (Nat.lt_of_lt_of_le z1 dn)
    have dL : dx ≠ s.heap.objs.size := fun z => by
      have z2 : h1.objs.size ≤ s.heap.objs.size := z ▸ dn
      exact absurd (Nat.lt_of_lt_of_le z1 z2) (Nat.lt_irrefl _)
    have ndK : K.lookup dx = none := by
      cases e : K.lookup dx with
      | none => rfl
      | some o =>
        have z := Heap.lt_size (KX _ _ e)
        exact absurd (Nat.lt_of_lt_of_le z dbig) (Nat.lt_irrefl _)
    -- the value of a name of gs
    have hval := vals_fun (List.nodup_cons.mp (List.nodup_cons.mp J.nd).2).2 hlen
    obtain ⟨val, hv⟩ := hval
    have hgl : ∀ f ∈ gs, bindL (envOfC qual (defScope st) s.heap.objs.size fI cdv).kindOf ((("self" : Str), Value.ref x) :: (f0 :: gs).zip (v0 :: vs)) (fun _ => none) f = some (val f) := fun f hf => by
      obtain ⟨i, hi⟩ := List.getElem?_of_mem hf
      have e2 : (gs.map fun f => (f, val f))[i]? = some (f, val f) := by rw [List.getElem?_map, hi]; rfl
      rw [hv, List.getElem?_zip_eq_some] at e2
      exact mF (i + 1) f (val f) (by simpa using e2.1) (by simpa using e2.2)
    refine init_more (val := val) (l := [(f0, v0)]) (dx := dx) (x := x) T J.kind hself mS xL dL dne.symm nx ndK r gs I (fun f hf => ⟨List.mem_cons_of_mem _ hf, hgl f hf, hloc f (List.mem_cons_of_mem _ hf)⟩) ⟨h3, _, _, tk3, _⟩ _
      (fun b o e => k3 b o (fun z => by rw [z, nx] at e; cases e) (KX1 b o e)) (hn.at fun o e => k3 _ o xL.symm e) (by show 1 + gs.length ≤ 1000; omega) hx3 ?_ (fun h4 tk4 k4 hn4 => ?_)
    · have kl : ∀ y, (if y = f0 then some v0 else none) = ([(f0, v0)] : List (Str × Value)).lookup y := fun y => (look_put f0 y v0 []).symm
      have hn3' := hn3
      simp only [kl] at hn3'
      exact hn3'
    · refine fin h4 tk4 dx (fun b o hb e => ?_) (k4 _ _ dne.symm hx3) dbig dne ?_
      · have bd' : b ≠ dx := Nat.ne_of_lt (Nat.lt_of_lt_of_le (Heap.lt_size e) dbig)
        exact k4 b o bd' (k3 b o hb (k b o e))
      · have e : ((gs.map fun f => (f, val f)).reverse ++ [(f0, v0)]) = ((f0 :: gs).zip (v0 :: vs)).reverse := by rw [hv]; simp
        rw [← e]
        exact hn4
end
end SlX

set_option Elab.async false
set_option linter.all false
set_option maxRecDepth 100000
set_option maxHeartbeats 4000000
namespace SlX
open PySem PySem.W PySem.Calls PyProof.Rows PySem.Spec L2
section
variable {prog : Program} {w : World} {A : Around} {E : Value → Shared → Prop} {R : Result → Shared → Prop} {K : Frag} {C fI : Addr} {qual : Str} {st : Stmt} {fs : List Str}
/-- the class called -/
theorem made_run {s : Shared} {us : List Value} {kw : List (Str × Value)} {v0 : Value} {vs : List Value} {f0 : Str} {gs : List Str} (T : EC K C fI qual st (f0 :: gs)) (J : InitTxt st (f0 :: gs)) (B : BindI st qual (f0 :: gs) (fun u => ⟨u :: us, kw⟩) (v0 :: vs))
    (hlen : vs.length = gs.length) (hsz : gs.length ≤ 900) (husz : us.length ≤ sizeLine) (KX : K.In s.heap) (lim : s.heap.NoLimit) (room : A.depth + 1 < recursionLimit)
    (fin : ∀ h2 tk e d, MadeE s.heap h2 e C d (((f0 :: gs).zip (v0 :: vs)).reverse) → R (.ok (.ret (.ref e))) { s with heap := h2, toks := tk }) :
    codeAny (model prog w) A (.call (.ref C) ⟨us, kw⟩) R s := by
  obtain ⟨Bn, newId, initId, bmB, nm, q, N, bs, bm, sn, sub, ab, col, dd, k0, k1, k2, k3, k5, FB, SF, hC, ht⟩ := T.ob
  obtain ⟨hp, g, dr, tk, os⟩ := s
  have kp : ∀ b o, hp.get? b = some o → ((hp.push (W.kdv_tup us)).push (HandSPX.excO C hp.objs.size)).get? b = some o := fun b o e => Heap.get?_push_of_some _ (Heap.get?_push_of_some _ e)
  have got : ((hp.push (W.kdv_tup us)).push (HandSPX.excO C hp.objs.size)).get? (hp.objs.size + 1) = some (HandSPX.excO C hp.objs.size) := by heap_get
  have nx : K.lookup (hp.objs.size + 1) = none := by
    cases e : K.lookup (hp.objs.size + 1) with
    | none => rfl
    | some o =>
      have z : hp.get? (hp.objs.size + 1) = some o := KX _ _ e
      exact absurd (Nat.lt_of_succ_lt (Heap.lt_size z)) (Nat.lt_irrefl _)
  refine callCls_kw FB (fun T => excTail_contains T _ ht) (KX _ _ hC) (looks_findIn KX T.iC) (fun self => bind_fn KX self T.tI) husz ?_
  refine init_run (s := ⟨(hp.push (W.kdv_tup us)).push (HandSPX.excO C hp.objs.size), g, dr, tk, os⟩) (args := fun u => ⟨u :: us, kw⟩) T J B hlen hsz (KX.keeps kp) (lim.keeps kp) got nx ?_ fun h2 tk2 dx k2 hx2 dbig dne hns => ?_
  · have e : (A.under (Code.builtin "type.__call__" ⟨.ref C :: us, kw⟩)).depth = A.depth + 1 := make_depth
    rw [e]
    exact room
  · have z : hp.objs.size + 1 + 1 ≤ dx := by
      first
        | (simpa only [Heap.size_push] using dbig)
        | exact dbig
    refine ⟨rfl, fin h2 tk2 (hp.objs.size + 1) dx ⟨fun b o e => ?_, Nat.le_succ _, ⟨_, _, hx2, rfl, rfl, rfl, rfl, rfl⟩, Nat.le_trans (Nat.le_trans (Nat.le_succ _) (Nat.le_succ _)) z, dne, hns⟩⟩
    exact k2 b o (Nat.ne_of_lt (Nat.lt_succ_of_lt (Heap.lt_size e))) (kp b o e)
end
end SlX
namespace L2.Sl
open PySem PySem.W PySem.Calls PyProof.Rows PySem.Spec SlX
/-! ### over the layer -/
theorem zip_rel : ∀ {fs : List Str} {vs : List V} {us : List Value}, Vals vs us → ∀ y, RelO ((fs.zip vs).reverse.lookup y) ((fs.zip us).reverse.lookup y) := by
  have key : ∀ {fs : List Str} {vs : List V} {us : List Value} {l : List (Str × V)} {m : List (Str × Value)}, Vals vs us → (∀ y, RelO (l.lookup y) (m.lookup y)) → ∀ y, RelO (((fs.zip vs).reverse ++ l).lookup y) (((fs.zip us).reverse ++ m).lookup y) := by
    intro fs
    induction fs with
    | nil => intro vs us l m _ h y; exact h y
    | cons f r ih =>
      intro vs us l m hv h y
      cases hv with
      | nil => exact h y
      | @cons v u vr ur h1 h2 =>
        have e1 : ((f :: r).zip (v :: vr)).reverse ++ l = (r.zip vr).reverse ++ ((f, v) :: l) := by simp
        have e2 : ((f :: r).zip (u :: ur)).reverse ++ m = (r.zip ur).reverse ++ ((f, u) :: m) := by simp
        rw [e1, e2]
        refine ih h2 (fun y => ?_) y
        rw [look_put, look_put]
        by_cases e : y = f
        · rw [if_pos e, if_pos e]
          exact h1
        · rw [if_neg e, if_neg e]
          exact h y
  intro fs vs us hv y
  have q := key (fs := fs) (l := []) (m := []) hv (fun y => by trivial) y
  rw [List.append_nil, List.append_nil] at q
  exact q
/-- C(..), the fields fs stored; g: the arguments in the fields' order -/
def tMkE (C : Addr) (fs : List Str) (gV : List V → List V) (ta : TA) : St → Hp → XK → Prop := fun σ H Q => ta σ H fun vs H1 => (gV vs).length = fs.length ∧ vs.length = fs.length ∧ ∀ d, H1 d = none → Q (.ref C) (some d) (upd H1 d (.xd ((fs.zip (gV vs)).reverse)))
section
variable {X : Cx} {C fI : Addr} {qual : Str} {st : Stmt} {fs : List Str} {x : Str} {p pos : Pos}
/-- behind the class's call -/
theorem mk_back {pins : List (Addr × Obj)} {σ : St} {H1 : Hp} {Q : XK} {hp h2 : Heap} {g : Array GenState} {dr : Drawn} {tk tk2 : Nat} {os : OsState} {e d : Addr} {vs : List V} {us : List Value} (T : EC X.K C fI qual st fs)
    (I1 : Inv X pins σ H1 ⟨hp, g, dr, tk, os⟩) (rv : Vals vs us) (M : MadeE hp h2 e C d ((fs.zip us).reverse)) (q : ∀ d, H1 d = none → Q (.ref C) (some d) (upd H1 d (.xd ((fs.zip vs).reverse)))) : L2N.MkP X pins σ Q (.ref e) ⟨h2, g, dr, tk2, os⟩ := by
  obtain ⟨oe, fv, hoe, hc, hd, hdat, h1, h2c⟩ := M.obj
  have hns := M.ns
  obtain ⟨G, g1, g2⟩ := restrict h2 fun b => decide (b ≠ e)
  have gk : ∀ b, b ≠ e → G.get? b = h2.get? b := fun b hb => g1 b (decide_eq_true hb)
  have ge : G.get? e = none := g2 e (by simp)
  have old : ∀ b o, hp.get? b = some o → G.get? b = some o := fun b o q => (gk b (Nat.ne_of_lt (Nat.lt_of_lt_of_le (Heap.lt_size q) M.new))).trans (M.keep b o q)
  have ob : ObjOk X.prog X.w (upd H1 d (.xd ((fs.zip vs).reverse))) G d (.xd ((fs.zip vs).reverse)) :=
    ⟨_, hns.at (fun o q => (gk d M.dne).trans q), zip_rel rv⟩
  have J : Inv X pins σ (upd H1 d (.xd ((fs.zip vs).reverse))) ⟨G, g, dr, tk2, os⟩ := I1.laid (t' := tk2) old M.dbig ob
  refine ⟨e, oe, fv, ⟨G, g, dr, tk2, os⟩, _, .ref C, some d, rfl, J, fun b o q => ?_, ge, hoe, ⟨hc, hd, fun vs e => by rw [hdat] at e; cases e; exact h2c⟩, hdat, h1, ?_, rfl, I1.bare, raises_own T.exC T.tyC, q d (I1.hok.fresh M.dbig)⟩
  · by_cases hb : b = e
    · have q' : G.get? b = some o := q
      rw [hb, ge] at q'; cases q'
    · exact (gk b hb).symm.trans q
  · rw [upd_ne (Ne.symm M.dne)]
    exact I1.hok.fresh M.new
/-- C(e, ..) -/
theorem pmk_E {a : Expr} {es : List Expr} {ta : TA} {k : Nat} (T : EC X.K C fI qual st fs) (J : InitTxt st fs) (hB : ∀ us : List Value, us.length = fs.length → BindI st qual fs (fun u => ⟨u :: us, []⟩) us) (hne : 0 < fs.length ∧ fs.length ≤ 900) (hr : Room k X.A) (hm : X.mg x = some (.ref C))
    (ha : PA X (a :: es) ta) (hg : Gl X x := by rfl) (hdb : (x == ("__debug__" : Str)) = false := by decide)
    (he : starEach (a :: es) X.env = (false, eval a X.env) :: starEach es X.env := by rfl) (hpl : (backTo pos (starEach es X.env)).any (·.1) = false := by rfl) :
    L2N.PMk X (.Call (.Name x p) (a :: es) [] pos) (tMkE C fs id ta) := by
  intro pins s σ H Q I h
  refine wpAny_Call_Name_kw (ld_glob I hg hm ?_ hdb)
  refine PySem.W.callWith_K (h₀ := X.base) I.ok.mod.kin T.kC (thn (ha.run pos pins s σ H _ I h) fun us s1 hh => ?_) he hpl
  obtain ⟨vs, H1, I1, r1, hl, _, q1⟩ := hh
  refine ⟨I1.kIn, ?_⟩
  show wpAny _ _ (call (.ref C) us) _ _ _
  have lus : us.length = fs.length := r1.length.symm.trans hl
  have lim := I1.nolimit
  obtain ⟨hp, g, dr, tk, os⟩ := s1
  have hB1 := hB us lus
  have husz : us.length ≤ sizeLine := by
    rw [lus, sizeLine_eq]
    omega
  cases fs with
  | nil => exact absurd hne.1 (Nat.lt_irrefl _)
  | cons f0 gs =>
    cases us with
    | nil => cases lus
    | cons u0 ur =>
      have hgs : gs.length ≤ 900 := by
        have z := hne.2
        rw [List.length_cons] at z
        omega
      refine wpAny_call (made_run T J hB1 (by simpa using lus) hgs husz I1.kIn lim (by have := hr.dp; omega) fun h2 tk2 e d M => ?_)
      exact mk_back T I1 r1 M q1
/-- C(k = e, ..) -/
theorem pmk_Ek {kws : List Keyword} {ta : TA} {k : Nat} {ks : List Str} {gV : List V → List V} {gU : List Value → List Value} (T : EC X.K C fI qual st fs) (J : InitTxt st fs) (hrel : ∀ vs us, Vals vs us → vs.length = fs.length → Vals (gV vs) (gU us))
    (hB : ∀ us : List Value, us.length = fs.length → BindI st qual fs (fun u => ⟨[u], ks.zip us⟩) (gU us)) (hne : 0 < fs.length ∧ fs.length ≤ 900) (hr : Room k X.A) (hm : X.mg x = some (.ref C))
    (hkw : PK X kws ta) (hg : Gl X x := by rfl) (hdb : (x == ("__debug__" : Str)) = false := by decide)
    (hall : (backToKw pos (keywordEach kws X.env)).all (·.1.isSome) = true := by rfl) (hks : (backToKw pos (keywordEach kws X.env)).filterMap (·.1) = ks := by rfl)
    (hpl : ((backTo pos (starEach [] X.env)).any (·.1) || (backToKw pos (keywordEach kws X.env)).any (·.1.isNone)) = false := by rfl) :
    L2N.PMk X (.Call (.Name x p) [] kws pos) (tMkE C fs gV ta) := by
  intro pins s σ H Q I h
  refine wpAny_Call_Name_kw (ld_glob I hg hm ?_ hdb)
  refine PySem.W.callWith_KW0 (h₀ := X.base) I.ok.mod.kin T.kC hall (thn (hkw.run pos pins s σ H _ I h) fun us s1 hh => ?_) hpl
  obtain ⟨vs, H1, I1, r1, hl, hl0, q1⟩ := hh
  refine ⟨I1.kIn, ?_⟩
  rw [hks]
  show wpAny _ _ (call (.ref C) [] (ks.zip us)) _ _ _
  have lus : us.length = fs.length := r1.length.symm.trans hl0
  have r2 := hrel vs us r1 hl0
  have lim := I1.nolimit
  obtain ⟨hp, g, dr, tk, os⟩ := s1
  have hB1 := hB us lus
  have lg : (gU us).length = fs.length := r2.length.symm.trans hl
  generalize hG : gU us = gu at hB1 r2 lg
  cases fs with
  | nil => exact absurd hne.1 (Nat.lt_irrefl _)
  | cons f0 gs =>
    cases gu with
    | nil => cases lg
    | cons u0 ur =>
      have hgs : gs.length ≤ 900 := by
        have z := hne.2
        rw [List.length_cons] at z
        omega
      refine wpAny_call (made_run T J hB1 (by simpa using lg) hgs (Nat.zero_le _) I1.kIn lim (by have := hr.dp; omega) fun h2 tk2 e d M => ?_)
      exact mk_back T I1 r2 M q1
/-- C(k = e) -/
theorem pmk_Ek1 {kn : Str} {e : Expr} {kp : Pos} {te : TE} {k : Nat} (T : EC X.K C fI qual st fs) (J : InitTxt st fs) (hB : ∀ us : List Value, us.length = fs.length → BindI st qual fs (fun u => ⟨[u], ([kn] : List Str).zip us⟩) us) (hne : 0 < fs.length ∧ fs.length ≤ 900) (hr : Room k X.A) (hm : X.mg x = some (.ref C))
    (he : PE X e te) (hg : Gl X x := by rfl) (hdb : (x == ("__debug__" : Str)) = false := by decide) : L2N.PMk X (.Call (.Name x p) [] [⟨some kn, e, kp⟩] pos) (tMkE C fs id (tCons te tNil)) :=
  pmk_Ek (gV := id) (gU := id) (ks := [kn]) T J (fun _ _ r _ => r) hB hne hr hm (pk_cons he pk_nil) hg hdb rfl rfl rfl
/-- C(k = e, l = f) -/
theorem pmk_Ek2 {kn kn2 : Str} {e e2 : Expr} {kp kp2 : Pos} {te te2 : TE} {k : Nat} {gV : List V → List V} {gU : List Value → List Value} (T : EC X.K C fI qual st fs) (J : InitTxt st fs) (hrel : ∀ vs us, Vals vs us → vs.length = fs.length → Vals (gV vs) (gU us))
    (hB : ∀ us : List Value, us.length = fs.length → BindI st qual fs (fun u => ⟨[u], ([kn, kn2] : List Str).zip us⟩) (gU us)) (hne : 0 < fs.length ∧ fs.length ≤ 900) (hr : Room k X.A) (hm : X.mg x = some (.ref C))
    (he : PE X e te) (he2 : PE X e2 te2) (hg : Gl X x := by rfl) (hdb : (x == ("__debug__" : Str)) = false := by decide) : L2N.PMk X (.Call (.Name x p) [] [⟨some kn, e, kp⟩, ⟨some kn2, e2, kp2⟩] pos) (tMkE C fs gV (tCons te (tCons te2 tNil))) :=
  pmk_Ek (gV := gV) (gU := gU) (ks := [kn, kn2]) T J hrel hB hne hr hm (pk_cons he (pk_cons he2 pk_nil)) hg hdb rfl rfl rfl
end
end L2.Sl

set_option Elab.async false
set_option linter.all false
set_option maxRecDepth 100000
set_option maxHeartbeats 4000000
namespace L2.Sl
open PySem PySem.W PySem.Calls PyProof.Rows PySem.Spec SlX
/-- at a: an exception of the class cls, its dict at d, held as a value -/
def exH (cls : Value) (d : Option Addr) (a : Addr) : HO := .ext fun h => ∃ oe vs, h.get? a = some oe ∧ Zc cls d oe ∧ oe.data = .fields vs
theorem exH_ok {P : Program} {w : World} {H : Hp} {h : Heap} {a : Addr} {cls : Value} {d : Option Addr} {oe : Obj} {vs : Array Value} (e : h.get? a = some oe) (z : Zc cls d oe) (f : oe.data = .fields vs) : ObjOk P w H h a (exH cls d a) :=
  ⟨⟨oe, vs, e, z, f⟩, ⟨oe, e⟩, fun _ _ ⟨o, v, q, r⟩ k => ⟨o, v, k o q, r⟩⟩
theorem exH_at {P : Program} {w : World} {H : Hp} {h : Heap} {a : Addr} {cls : Value} {d : Option Addr} (ok : HOk P w H h) (e : H a = some (exH cls d a)) : ∃ oe vs, h.get? a = some oe ∧ Zc cls d oe ∧ oe.data = .fields vs := by
  have x : ObjOk P w H h a (.ext fun h => ∃ oe vs, h.get? a = some oe ∧ Zc cls d oe ∧ oe.data = .fields vs) := ok a _ e
  exact x.1
section
variable {X : Cx} {pins : List (Addr × Obj)} {σ : L2.St} {H : Hp} {s : Shared} {a : Addr} {cls : Value} {d : Option Addr} {oe : Obj} {vs : Array Value}
/-- an object of ours that nothing tracks: from now on tracked -/
theorem hold (I : Inv X pins σ H s) (new0 : X.s_0.heap.get? a = none) (na : H a = none) (ha : s.heap.get? a = some oe) (hz : Zc cls d oe) (hd : oe.data = .fields vs) (hp : ∀ p ∈ X.pn ++ pins, p.1 ≠ a) (nL : a ≠ X.env.locals) :
    Inv X pins σ (upd H a (exH cls d a)) s := by
  have tr : ∀ {b : Addr} {u : HO}, H b = some u → b ≠ a := fun {b u} e => ne_of_none e na
  have was : ∀ {b : Addr} {o : Obj}, X.s_0.heap.get? b = some o → b ≠ a := fun {b o} e z => by
    rw [z, new0] at e
    cases e
  refine ⟨I.ok, I.os, I.bare, ⟨I.base.keep, I.base.slot, fun b o e n hx => ?_, I.base.there, fun b xs e => ?_, fun b o u e => ?_, fun b ps e => ?_⟩, I.loc, I.cell, ?_, fun y c e => ?_, fun p hq => ?_, fun b u e => ?_, I.len⟩
  · rw [upd_ne (was e)]
    exact I.base.free b o e n hx
  · have q := I.base.tups b xs e
    rw [upd_ne (tr q)]
    exact q
  · have q := I.base.frzs b o u e
    rw [upd_ne (tr q)]
    exact q
  · obtain ⟨m, q⟩ := I.base.tbls b ps e
    exact ⟨m, by rw [upd_ne (tr q)]; exact q⟩
  · rw [upd_ne nL.symm]
    exact I.free
  · have hne : c ≠ a := fun z => by
      obtain ⟨v, o, ho, hdc⟩ := I.cell y c e
      rw [z, ha] at ho
      cases ho
      rw [hd] at hdc
      cases hdc
    rw [upd_ne hne]
    exact I.freeC y c e
  · obtain ⟨e1, e2, e3, e4, e5⟩ := I.pin p hq
    exact ⟨e1, by rw [upd_ne (hp p hq)]; exact e2, e3, e4, e5⟩
  · by_cases hb : b = a
    · subst hb
      rw [upd_same] at e
      cases e
      exact exH_ok ha hz hd
    · rw [upd_ne hb] at e
      exact (I.hok b u e).stay (fun _ _ _ q => q) (fun c q => by rw [upd_ne (tr q)]; exact q) fun c xs q => by rw [upd_ne (tr q)]; exact q
end
/-- an exception that is made, as a value -/
@[irreducible] def tHold (t : L2.St → Hp → XK → Prop) : TE := fun σ H Q => t σ H fun cls d H1 => ∀ a, H1 a = none → Q (.ref a) (upd H1 a (exH cls d a))
theorem pe_mkv {X : Cx} {e : Expr} {t : L2.St → Hp → XK → Prop} (he : L2N.PMk X e t) : PE X e (tHold t) := by
  refine ⟨fun pins s σ H Q I h => ?_⟩
  unfold tHold at h
  refine wpAny_mono (he pins s σ H _ I h) (fun u s2 hu => ?_) fun _ _ z => z
  obtain ⟨a, oe, vs, sI, H1, cls, d, rfl, J, kp, na0, ha, hz, hd, _, na, os, ag, _, q⟩ := hu
  have nw : ∀ {b : Addr} {o : Obj}, sI.heap.get? b = some o → b ≠ a := fun {b o} e z => by
    rw [z, na0] at e
    cases e
  have tr : ∀ {b : Addr} {u : HO}, H1 b = some u → b ≠ a := fun {b u} e => ne_of_none e na
  refine ⟨.ref a, upd H1 a (exH cls d a), J.call' (s' := s2) (ch := []) os ⟨fun b o e n _ _ => kp b o e, fun b o e n _ _ => ⟨o.slots, kp b o e⟩, fun b o e n _ => ?_, fun b o e _ => ⟨o, kp b o e⟩, fun b xs e => ?_, fun b o u e => ?_, fun b ps e => ⟨#[], ?_⟩⟩ (fun b u e => ?_) ag (fun b z => nomatch z), rfl, q a na⟩
  · rw [upd_ne (nw e)]
    exact n
  · rw [upd_ne (tr e)]
    exact e
  · rw [upd_ne (tr e)]
    exact e
  · rw [upd_ne (tr e), e]
    simp
  · by_cases hb : b = a
    · subst hb
      rw [upd_same] at e
      cases e
      exact exH_ok ha hz.zc hd
    · rw [upd_ne hb] at e
      exact (J.hok b u e).stay (fun c o _ q => kp c o q) (fun c q => by rw [upd_ne (tr q)]; exact q) fun c xs q => by rw [upd_ne (tr q)]; exact q
/-! ### e.f -/
/-- what a class must say, so that its instances' fields are read and isinstance asks them rightly -/
structure ExR (K : Frag) (D : Addr) : Prop where
  ga : findIn K (.ref D) "__getattribute__" = some (some (.builtin "BaseException.__getattribute__"))
  gg : findIn K (.ref D) "__getattr__" = some none
  exC : subIn K (.ref D) (.type "BaseException") = some true
  hdC : hasDictIn K D = true
  cl : findIn K (.ref D) "__class__" = some (some (.builtin "object.__class__"))
  sp : specialIn K (.builtin "object.__class__") "__get__" = some (some (.builtin "getset_descriptor.__get__"))
  tk : takesIn K (.builtin "object.__class__") = some true
  mr : mroIn K D (.type "object") = some true
theorem inst_at {P : Program} {w : World} {H : Hp} {h : Heap} {a D dd : Addr} {fs : List (Str × V)} (ok : HOk P w H h) (e : H a = some (exH (.ref D) (some dd) a)) (ed : H dd = some (.xd fs)) :
    ∃ oe od, InstAt h a oe D (some od) ∧ ∀ f v, fs.lookup f = some v → ∃ u, RelV v u ∧ lookIn f od = some (some u) := by
  obtain ⟨oe, vs, ho, hz, hd⟩ := exH_at ok e
  obtain ⟨mA, hns, hr⟩ := (show ObjOk P w H h dd (.xd fs) from ok dd _ ed)
  obtain ⟨od, hod, hl⟩ := lookIn_ns hns
  refine ⟨oe, od, ⟨ho, hz.1, by unfold notCls; rw [hd] <;> rfl, by rw [hz.2]; exact hod⟩, fun f v l => ?_⟩
  obtain ⟨u, hu, ru⟩ := RelO.some_of (v := v) (o := mA f) (by rw [← l]; exact hr f)
  exact ⟨u, ru, by rw [hl, hu]⟩
def tXh (K : Frag) (f : Str) (te : TE) : TE := fun σ H Q => te σ H fun x H1 => ∃ (a D dd : Addr) (fs : List (Str × V)) (v : V), x = .ref a ∧ H1 a = some (exH (.ref D) (some dd) a) ∧ H1 dd = some (.xd fs) ∧ ExR K D ∧ findIn K (.ref D) f = some none ∧ fs.lookup f = some v ∧ Q v H1
theorem pe_xh {X : Cx} {e : Expr} {te : TE} {pos : Pos} {n : Str} (he : PE X e te) (hb : attributeBase e n X.env (eval e X.env) = eval e X.env := by rfl) : PE X (.Attribute e n pos) (tXh X.K n te) := by
  refine ⟨fun pins s σ H Q I h => attr_of hb (thn (he.run pins s σ H _ I h) fun u s1 hh => ?_)⟩
  obtain ⟨x, H1, I1, rx, a, D, dd, fs, v, ex, ea, ed, T, hno, l, q⟩ := hh
  subst ex
  obtain rfl : u = Value.ref a := rx
  obtain ⟨oe, od, J, hl⟩ := inst_at I1.hok ea ed
  obtain ⟨u, ru, hu⟩ := hl n v l
  exact HandSPX.exc_get I1.kIn J T.ga T.gg T.exC (findObj_own T.hdC hno rfl hu) (handed_of ru) ⟨v, H1, I1.tok _, ru, q⟩
end L2.Sl

set_option Elab.async false
set_option linter.all false
set_option maxRecDepth 100000
set_option maxHeartbeats 4000000
namespace SlX
open PySem PySem.Spec PySem.Calls PyProof.Rows PySem.W
section
variable {prog : Program} {w : World} {A : Around} {E : Value → Shared → Prop} {s : Shared} {K : Frag} {x D : Addr} {ox : Obj} {od : Option Obj}
theorem found_data {C : Addr} {name : Str} {a g : Value} (hc : (clsIn K C).isSome = true) (ha : findIn K (.ref C) name = some (some a)) (hg : specialIn K a "__get__" = some (some g)) (ht : takesIn K a = some true) : findObj K C od name = some (.bind g a) := by
  obtain ⟨cd, hc'⟩ := Option.isSome_iff_exists.mp hc
  unfold findObj
  rw [hc', Option.bind_some, ha, Option.bind_some]
  simp [hg, ht]
/-- x.__class__ of an exception, with or without its dict -/
theorem classOf_exc {Q : Option Value → Shared → Prop} (T : L2.Sl.ExR K D) (KX : K.In s.heap) (I : InstAt s.heap x ox D od) (fin : Q (some (.ref D)) { s with toks := s.toks + 1 }) : wpAny (model prog w) A (getAttr? (.ref x) "__class__") Q E s := by
  have hf : findObj K D od "__class__" = some (.bind (.builtin "getset_descriptor.__get__") (.builtin "object.__class__")) := found_data (by obtain ⟨cd, hc, _⟩ := any_some T.hdC; rw [hc]; rfl) T.cl T.sp T.tk
  obtain ⟨hp, g, d, t, os⟩ := s
  have K0 := I.type (M := model prog w)
  have K1 := looks_findIn (M := model prog w) KX T.ga
  have K2 := looks_findIn (M := model prog w) KX T.gg
  have K3 := looks_find (M := model prog w) KX I hf
  have isB : Looks (model prog w) hp (isInstance (.ref x) (.type "BaseException")) true := K0.andThen (looks_subIn KX T.exC)
  have z0 : (false && onTheHeap (Value.builtin "BaseException.__getattribute__")) = false := rfl
  have z2 : (Value.builtin "BaseException.__getattribute__" == Value.builtin "object.__getattribute__") = false := by decide +kernel
  have z1 : (onTheHeap (Value.ref D) && Value.builtin "BaseException.__getattribute__" == Value.builtin "object.__getattribute__") = false := by
    rw [z2]
    rfl
  unfold getAttr? getAttrBy? getAttrBy
  refine wpAny_bind (wpAny_mkText (wpAny_bind (wpAny_attempt (wpAny_holding (wpAny_bind (K0.at (wpAny_bind (K1.at ?_))))))))
  show wpAny _ _ (if (onTheHeap (Value.ref D) && Value.builtin "BaseException.__getattribute__" == Value.builtin "object.__getattribute__") = true then _ else _) _ _ _
  rw [z1, if_neg Bool.false_ne_true]
  unfold getAttrByItsOwn hookBefore
  refine wpAny_bind ?_
  rw [if_pos (show onTheHeap (Value.ref D) = true from rfl)]
  refine K2.at (wpAny_bind (wpAny_attempt (wpAny_holding ?_)))
  unfold callGetattribute
  rw [z0, if_neg Bool.false_ne_true]
  unfold boundAndCalled
  rw [PySem.F.excAttr_ValueError.ga.bind (.ref x)]
  refine wpAny_bind (wpAny_pure ?_)
  show wpAny _ _ (call (.builtin "BaseException.__getattribute__") [.ref x, .str "__class__" t]) _ _ _
  refine wpAny_call (codeAny_call_builtin PySem.F.excAttr_ValueError.ga.plain PySem.F.entry_bexc_ga ?_)
  refine @check_slot (model prog w) _ _ ⟨hp, g, d, t + 1, os⟩ "BaseException.__getattribute__" "BaseException" "__getattribute__" (.ref x) [.str "__class__" t] [] _ (by decide +kernel)
    (by decide +kernel) isB (PySem.F.args_bexc_ga (.ref x) (.str "__class__" t)) ?_
  unfold Builtin.«object.__getattribute__»
  refine wpAny_bind (wpAny_of_eq (a := ((Value.ref x : Value), [Value.str "__class__" t])) (by first | rfl | (simp only [slotArgs]; rfl)) (wpAny_bind (wpAny_pure (wpAny_bind (K0.at (wpAny_bind (K3.at ?_)))))))
  show wpAny _ _ (holding [Value.builtin "object.__class__"] (call (.builtin "getset_descriptor.__get__") [.builtin "object.__class__", .ref x, .ref D]) >>= ret) _ _ _
  refine wpAny_bind (wpAny_holding (wpAny_call (class_get (s := ⟨hp, g, d, t + 1, os⟩) (ox := ox) (od := od) KX I T.mr (wpAny_pure ?_))))
  show wpAny _ _ (handedOut (.ref D)) _ _ _
  rw [handedOut_of (v := .ref D) rfl]
  first
    | exact wpAny_pure (wpAny_pure fin)
    | exact wpAny_pure fin
    | exact wpAny_pure (wpAny_bind (wpAny_pure (wpAny_pure fin)))
theorem kit_exc (T : L2.Sl.ExR K D) : KitX K (.ref x) (.ref D) (fun h => InstAt h x ox D od) where
  ty := fun _ _ _ I => I.type
  it := fun _ _ KX _ => by
    obtain ⟨cdD, hcD, _⟩ := any_some T.hdC
    unfold clsIn at hcD
    split at hcD
    · rename_i c' d' cd' sl' ho
      intro A' Q' E' s' k q
      unfold isType loadHead
      exact wpAny_bind (wpAny_loadPart (k _ _ (KX _ _ ho)) (wpAny_pure q))
    · cases hcD
  ne := fun h tp dd its n sl KX htp => by
    obtain ⟨cdD, hcD, _⟩ := any_some T.hdC
    refine Bool.eq_false_iff.mpr fun q => ?_
    have e : D = tp := Value.ref.inj (beq_iff_eq.mp q)
    subst e
    unfold clsIn at hcD
    split at hcD
    · rename_i c' d' cd' sl' ho
      cases (KX _ _ ho).symm.trans htp
    · cases hcD
  ca := fun KX I k => classOf_exc T KX I k
end
end SlX
namespace L2.Sl
open PySem PySem.W PySem.Calls PyProof.Rows PySem.Spec SlX
/-- isinstance(e, c), e a held exception -/
def rIsH (K : Frag) : List V → Hp → VK → Prop := fun xs H Q => ∃ (a D dd : Addr) (fs : List (Str × V)) (c : V) (cv : Value) (b : Bool), xs = [.ref a, c] ∧ H a = some (exH (.ref D) (some dd) a) ∧ H dd = some (.xd fs) ∧ ExR K D ∧ ClsV c cv ∧ kitOne K (.ref D) cv = some b ∧ Q (.bl b) H
theorem call_isH {X : Cx} : CallR X (.builtin "isinstance") (rIsH X.K) := by
  intro pins s σ H xs us Q I r h
  obtain ⟨a, D, dd, fs, c, cv, b, rfl, ea, ed, T, hc, e, q⟩ := h
  obtain ⟨u1, u2, rfl, r1, r2⟩ := vals2 r
  have e2 := hc.eq r2
  subst e2
  cases (show u1 = Value.ref a from r1)
  obtain ⟨oe, od, J, _⟩ := inst_at I.hok ea ed
  exact kia_one (kit_exc T) I.kIn J e (fun z => nomatch z) fun tk => ⟨.bl b, H, I.kept (t' := tk) fun _ _ z => z, rfl, q⟩
end L2.Sl

set_option Elab.async false
set_option linter.all false
set_option maxRecDepth 100000
set_option maxHeartbeats 4000000
namespace L2.Sl
open PySem PySem.W PySem.Calls PyProof.Rows PySem.Spec SlX
/-- how a suite ends whose name i held the exception at a: from then on the exception is tracked -/
def kept (D : Ends) (a : Addr) (cls : Value) (d : Option Addr) (i : Nat) : Ends where
  nx := fun σ H => H a = none → D.nx (σ.set i none) (upd H a (exH cls d a))
  rt := fun v H => H a = none → D.rt v (upd H a (exH cls d a))
  bk := fun σ H => H a = none → D.bk (σ.set i none) (upd H a (exH cls d a))
  ct := fun σ H => H a = none → D.ct (σ.set i none) (upd H a (exH cls d a))
abbrev Cl := Value × Nat × (Addr → Value → Option Addr → TS)
/-- what the clauses wish, one after the other -/
def wKeep (K : Frag) (Wout : WX) (D : Ends) : List Cl → WX
  | [] => Wout
  | (c, i, ts) :: r => fun cls d σ H => ∃ b, exmOne K cls c = some b ∧ (b = true → ∀ a, H a = none → ts a cls d (kept D a cls d i) (σ.set i (some (.ref a))) H) ∧ (b = false → wKeep K Wout D r cls d σ H)
inductive ClsOk (X : Cx) : List ExceptHandler → List Cl → Prop
  | nil : ClsOk X [] []
  | cons {x n : Str} {i : Nat} {c : Value} {ts : Addr → Value → Option Addr → TS} {b₀ : Stmt} {suite : List Stmt} {np pos2 : Pos} {hds : List ExceptHandler} {l : List Cl} (hc : Names X x c) (hi : X.N[i]? = some n) (hln : X.env.kindOf n = some .local)
      (hsu : ∀ (a : Addr) (oe : Obj) (cls : Value) (d : Option Addr) (pn : List (Addr × Obj)), L2N.Zn cls d oe → (∃ vs, oe.data = .fields vs) → PSs (X.suite a ((a, oe) :: pn)) (b₀ :: suite) (ts a cls d)) (r : ClsOk X hds l) :
      ClsOk X (.ExceptHandler (some (.Name x np)) (some n) (b₀ :: suite) pos2 :: hds) ((c, i, ts) :: l)
section
variable {X : Cx} {body : List Stmt} {h₀ : ExceptHandler} {hds : List ExceptHandler} {l : List Cl} {pos : Pos} {tb : WX → TS} {Wout : WX}
theorem ps_try_keep (hs : X.stack = X.env :: X.outer) (hf : X.env.frame = some X.env.locals) (hN : X.N.Nodup) (hex : X.ex = []) (tk : L2N.Takes X Wout)
    (hb : ∀ (W : WX) (pn : List (Addr × Obj)) (xe : Value → Shared → Prop), L2N.Takes (X.tr pn xe) W → PassesOwn (model X.prog X.w) X.A X.env xe → PSs (X.tr pn xe) body (tb W))
    (hh : ClsOk X (h₀ :: hds) l) : PS X (.Try body (h₀ :: hds) [] [] pos) (fun D σ H => tb (wKeep X.K Wout D l) D σ H) := by
  refine ⟨fun pins s σ H D I h => ?_⟩
  have okX := I.ok
  have frm : X.A.frames = some (X.env :: X.outer) := by rw [okX.frames, hs]
  refine wpAny_Try_except (wpAny_mono ((hb (wKeep X.K Wout D l) (X.pn ++ pins) (fun e t1 => wpAny (model X.prog X.w) X.A (noteFrame e X.env) (fun _ t2 => wpAny (model X.prog X.w) X.A (setFlight e none) (fun _ t3 =>
    wpAny (model X.prog X.w) X.A (handleBy e X.env (h₀ :: hds)) (SP X pins D) X.xe t3) X.xe t2) X.xe t1) (fun u s2 xx => ?_) PassesOwn.looking).run [] s σ H D (I.toTry _) h) (fun f s1 hsp => ?_) (fun e s1 he => he))
  · obtain ⟨a, B, sI, pins2, σ2, H2, cls, d, rfl, J0, nb, up, sky, na, os, ag, wish⟩ := xx
    have J : Inv X pins σ2 H2 sI := J0.ofTry okX
    have sky2 : Sky B (X.env :: X.outer) a (L2N.Zn cls d) X.env.locals s2.heap := by rw [← hs]; exact sky
    show wpAny (model X.prog X.w) X.A (noteFrame (.ref a) X.env) _ _ _
    refine L2N.Sky.land L2N.Zn.steady frm hf sky2 fun h3 fl3 up3 => ?_
    have J3 : Inv X pins σ2 H2 { s2 with heap := h3 } := J.landed nb fl3.1 (up.trans up3) os ag
    obtain ⟨oe3, vs3, he3, hz3, hd3⟩ := fl3.there
    have offFr : a ∉ frs (X.env :: X.outer) := fun hm => by
      obtain ⟨_, o', e', hnf⟩ := fl3.2.2.1.mem hm
      rw [he3] at e'
      cases e'
      exact hnf _ hd3
    have nL : a ≠ X.env.locals := fun z => offFr (List.mem_filterMap.mpr ⟨X.env, List.mem_cons_self, by rw [hf, z]⟩)
    have nF : a ∉ X.fs := fun hm => by
      obtain ⟨e, he, q⟩ := List.mem_filterMap.mp hm
      exact offFr (List.mem_filterMap.mpr ⟨e, List.mem_cons_of_mem _ he, q⟩)
    -- the exception is none of the objects that were there
    have newI : sI.heap.get? a = none := by
      cases e : sI.heap.get? a with
      | none => rfl
      | some o =>
        have z := nb a o e (by rw [hs]; exact offFr)
        rw [fl3.2.1] at z
        cases z
    have new0 : X.s_0.heap.get? a = none := by
      cases e : X.s_0.heap.get? a with
      | none => rfl
      | some o =>
        obtain ⟨o', z⟩ := J.base.there a o e (by rw [hex]; exact fun z => nomatch z)
        rw [newI] at z
        cases z
    have offPins : ∀ p ∈ X.pn ++ pins, p.1 ≠ a := fun p hp z => by
      have q := (J.pin p hp).1
      rw [z, newI] at q
      cases q
    have S3 := J3.suite he3 hd3 na nL nF
    have go : ∀ {hds2 : List ExceptHandler} {l2 : List Cl}, ClsOk X hds2 l2 → wKeep X.K Wout D l2 cls d σ2 H2 →
        wpAny (model X.prog X.w) X.A (handleBy (.ref a) X.env hds2) (SP X pins D) X.xe { s2 with heap := h3 } := by
      intro hds2 l2 hk
      induction hk with
      | nil =>
        intro wish
        refine wpAny_handleBy_nil ?_
        obtain ⟨k1, k2, k3, oe, vs, T, oT, ts2, he, hz, hd, h1, hr⟩ := id fl3
        unfold PySem.passOn
        refine wpAny_bind (wpAny_field he hd h1 ?_)
        rw [if_neg (show ¬ ((Value.ref T == Value.none) = true) from by simp)]
        have out : wpAny (model X.prog X.w) X.A (setFlight (.ref a) X.env.frame) (fun _ t4 => wpAny (model X.prog X.w) X.A (throw (.ref a) : Sem Flow) (SP X pins D) X.xe t4) X.xe { s2 with heap := h3 } := by
          rw [hf]
          exact HandSPX.setFlight_upZ fl3 fun h4 hh4 up4 => wpAny_throw (tk _ _ ⟨a, B, sI, pins, σ2, H2, cls, d, rfl, J, nb, (up.trans up3).trans up4, .inr (.inr (by rw [hs]; exact hh4)), na, os, ag, wish⟩)
        first
          | exact wpAny_bind (wpAny_pure (wpAny_bind out))
          | exact wpAny_bind out
      | @cons x n i c ts b₀ suite np pos2 hds3 l3 hc hi hln hsu r ih =>
        intro wish
        obtain ⟨b, hb1, yes, no⟩ := wish
        have locn : Loc X.env.scope n := .inl hln
        refine wpAny_handleBy_cons (codeAny_handlers_test ?_) (by intro q; cases q)
        have ty : Looks (model X.prog X.w) h3 (typeOf (.ref a)) cls := fun A Q E s k q => wpAny_typeOf_ref (k _ _ he3) (by rw [hz3.1]; exact q)
        have mt := exm_one (M := model X.prog X.w) (J3.kIn) ty hb1
        have test : ∀ {Q : Value → Shared → Prop} {E : Value → Shared → Prop}, Q c { s2 with heap := h3 } → wpAny (model X.prog X.w) (X.A.mark (some (.ref a))) (eval (.Name x np) X.env) Q E { s2 with heap := h3 } := fun {Q E} q => by
          obtain ⟨hg, hdbg, hm | ⟨hm, hv, hnn⟩⟩ := hc
          · exact ld_glob (X := X.suite a ((a, oe3) :: (X.pn ++ pins))) S3 hg hm q hdbg
          · exact ld_blt (X := X.suite a ((a, oe3) :: (X.pn ++ pins))) S3 hg hm hv q hnn hdbg
        refine test (mt.here ?_)
        cases b with
        | false =>
          show wpAny _ X.A (handleBy (.ref a) X.env hds3) _ _ _
          exact ih (no rfl)
        | true =>
          refine codeAny_handlers_suite_as (HandSPX.lands_againZ fl3 fun h4 fl4 up4 => ?_)
          have J4 : Inv X pins σ2 H2 { s2 with heap := h4 } := J.landed nb fl4.1 ((up.trans up3).trans up4) os ag
          obtain ⟨oe4, vs4, he4, hz4, hd4⟩ := fl4.there
          have S4 := J4.suite he4 hd4 na nL nF
          refine store_ok (X := X.suite a ((a, oe4) :: (X.pn ++ pins))) (v := .ref a) S4 hN hi locn rfl (fun s5 S5 => ?_) (.inr hln)
          refine wpAny_mono ((hsu a oe4 cls d (X.pn ++ pins) hz4 ⟨_, hd4⟩).run [] s5 _ H2 _ S5 (yes rfl a na)) (fun f s6 hsp => ?_) (fun _ _ z => False.elim z)
          have fin : ∀ {σ6 : L2.St} {H6 : Hp} {Q : Shared → Prop}, Inv (X.suite a ((a, oe4) :: (X.pn ++ pins))) [] σ6 H6 s6 → (H6 a = none → ∀ s7, Inv X pins (σ6.set i none) (upd H6 a (exH cls d a)) s7 → Q s7) →
              wpAny (model X.prog X.w) X.A (do bindName X.env n .none; unbindBehindTheSuite X.env n pos2) (fun _ s7 => Q s7) X.xe s6 := fun {σ6 H6 Q} S6 hq => by
            obtain ⟨e1, e2, e3, e4, e5⟩ := S6.pin (a, oe4) (List.mem_append_left _ List.mem_cons_self)
            exact gone_ok (hold (S6.unsuite okX) new0 e2 e1 hz4.zc hd4 offPins nL) hN hi hln fun s7 J7 => hq e2 s7 J7
          cases f with
          | next =>
            obtain ⟨σ6, H6, S6, q6⟩ := hsp
            exact fin S6 fun n6 s7 J7 => ⟨_, _, J7, q6 n6⟩
          | brk =>
            obtain ⟨σ6, H6, S6, q6⟩ := hsp
            exact fin S6 fun n6 s7 J7 => ⟨_, _, J7, q6 n6⟩
          | cont =>
            obtain ⟨σ6, H6, S6, q6⟩ := hsp
            exact fin S6 fun n6 s7 J7 => ⟨_, _, J7, q6 n6⟩
          | ret u =>
            obtain ⟨v6, σ6, H6, S6, r6, q6⟩ := hsp
            exact fin S6 fun n6 s7 J7 => ⟨_, _, _, J7, r6, q6 n6⟩
    exact go hh wish
  · cases f with
    | next =>
      obtain ⟨σ2, H2, J2, q⟩ := hsp
      exact wpAny_execs_nil ⟨σ2, H2, J2.ofTry okX, q⟩
    | brk =>
      obtain ⟨σ2, H2, J2, q⟩ := hsp
      exact ⟨σ2, H2, J2.ofTry okX, q⟩
    | cont =>
      obtain ⟨σ2, H2, J2, q⟩ := hsp
      exact ⟨σ2, H2, J2.ofTry okX, q⟩
    | ret u =>
      obtain ⟨v, σ2, H2, J2, r, q⟩ := hsp
      exact ⟨v, σ2, H2, J2.ofTry okX, r, q⟩
end
end L2.Sl

set_option Elab.async false
set_option linter.all false
set_option maxRecDepth 100000
set_option maxHeartbeats 4000000
namespace L2.Sl
open PySem PySem.Spec PyProof.Rows
/-- as FnOk, where nothing is being shown by repr around the call -/
structure FnG (P : Program) (w : World) (K : PySem.W.Frag) (mg : Str → Option Value) (base : Heap) (CX : CXT) (k : Nat) (f : Addr) (fd : FuncData) (ps : List Str) (sp : Sp) : Prop where
  len : ∀ vs H Q E, sp vs H Q E → vs.length = ps.length
  run : ∀ (A : Around) (outer : List Env) (s : Shared) (H : Hp) (args : Args) (us : List Value) (vs : List V) (Q : VK) (E : XK), A.guards = some [] → Room k A → Env0 P w K mg base A outer s H → BindsTo s fd args (ps.zip us) → Vals vs us →
    sp vs H Q E → codeAny (model P w) A (.call (.ref f) args) (CR CX outer P w H s Q E) s
section
variable {P : Program} {w : World} {K : PySem.W.Frag} {mg : Str → Option Value} {base : Heap} {CX : CXT}
theorem FnG.of {k : Nat} {f : Addr} {fd : FuncData} {ps : List Str} {sp : Sp} (F : FnOk P w K mg base CX k f fd ps sp) : FnG P w K mg base CX k f fd ps sp := ⟨F.len, fun A outer s H args us vs Q E _ => F.run A outer s H args us vs Q E⟩
theorem FnG.mono {j k : Nat} {f : Addr} {fd : FuncData} {ps : List Str} {sp : Sp} (F : FnG P w K mg base CX j f fd ps sp) (h : j ≤ k) : FnG P w K mg base CX k f fd ps sp :=
  ⟨F.len, fun A outer s H args us vs Q E hg hr => F.run A outer s H args us vs Q E hg (hr.mono h)⟩
theorem fnG_of {k : Nat} {f : Addr} {name qual : Str} {params : Arguments} {body : List Stmt} {scope : Scope} {dV kV doc pm cdv ct oc : Value} {an od : Option Addr} {osl : Array (Option Value)} {N ps : List Str} {sp : Sp}
    (lk : K.lookup f = some ⟨oc, od, .func (PySem.W.fnOf name qual params body scope dV kV doc pm an cdv ct), osl⟩) (hcd : PySem.W.codeIn K cdv qual = true) (S : FnScope N ps scope) (len : ∀ vs H Q E, sp vs H Q E → vs.length = ps.length)
    (bodyOk : ∀ (A : Around) (outer : List Env) (s : Shared) (H : Hp) (vs : List V) (Q : VK) (E : XK), A.guards = some [] → Room k (A.deeper (envOfC qual scope s.heap.objs.size f cdv)) → sp vs H Q E →
      ∃ t, PSs (cxOf CX P w K mg base N qual scope f cdv A outer s H E) body t ∧ t { nx := fun _ H2 => Q .non H2, rt := Q } (start N vs) H) :
    FnG P w K mg base CX (k + 1) f (PySem.W.fnOf name qual params body scope dV kV doc pm an cdv ct) ps sp := by
  refine ⟨len, fun A outer s H args us vs Q E hgu hro en bi rv hsp => ?_⟩
  have lvs := len _ _ _ _ hsp
  have KIn : K.In s.heap := en.mod.kin.keeps fun b o e => (en.bs b o e).1
  have noLim : s.heap.NoLimit := en.mod.nolimit.keeps fun b o e => (en.bs b o e).1
  have kinds : ∀ y ∈ ps.zip us, scope.names.lookup y.1 = some .local ∨ (scope.names.lookup y.1 = some .cell ∧ ((cellsFrom (s.heap.objs.size + 1) scope.names []).lookup y.1).isSome = true) := by
    rintro ⟨n, v⟩ hy
    rcases S.par n (List.of_mem_zip hy).1 with q | q
    · exact .inl q
    · exact .inr ⟨q, PySem.W.cellsFrom_some _ _ _ (.inl q)⟩
  refine codeAny_call_function hro.depth (KIn _ _ lk) rfl S.co S.gen rfl (PySem.W.codeRec_of KIn hcd) (bi _ _ _ _ (wpAny_newFunctionEnv_cells S.kind kinds fun env he s1 x => ?_))
  subst he
  refine ⟨noLim.keeps x.toInCall.keep, codeAny_func ?_⟩
  obtain ⟨t, ht, hq⟩ := bodyOk A outer s H vs Q E hgu (hro.deeper _) hsp
  have I := inv_start (CX := CX) (E := E) S hro.hd en lvs rv x
  refine wpAny_mono (ht.run [] s1 (start N vs) H _ I hq) (fun fl s2 hs => ?_) fun e s2 hs => hs
  have endd : ∀ {σ2 : L2.St} {H2 : Hp} {v : V} {u : Value}, Inv (cxOf CX P w K mg base N qual scope f cdv A outer s H E) [] σ2 H2 s2 → RelV v u → Q v H2 → CE outer P w H s Q u s2 := fun J r q => ⟨_, _, J.os, J.bare, J.base, J.hok, r, q⟩
  cases fl with
  | ret u =>
    obtain ⟨v, σ2, H2, J, r, q⟩ := hs
    exact endd J r q
  | next =>
    obtain ⟨σ2, H2, J, q⟩ := hs
    exact endd (v := V.non) (u := Value.none) J rfl q
  | brk =>
    obtain ⟨_, _, _, q⟩ := hs
    exact q.elim
  | cont =>
    obtain ⟨_, _, _, q⟩ := hs
    exact q.elim
/-- the body of a def, where nothing leaves it but by its return -/
theorem okG {x qual : Str} {st : Stmt} {f : Addr} {fd : FuncData} {N ps : List Str} {k : Nat} {sp : Sp} (F : Fun K x qual st f fd) (S : FnScope N ps (defScope st)) (len : ∀ vs H Q E, sp vs H Q E → vs.length = ps.length)
    (bodyOk : ∀ (cdv : Value) (A : Around) (outer : List Env) (s : Shared) (H : Hp) (vs : List V) (Q : VK) (E : XK), A.guards = some [] → Room k (A.deeper (envOfC qual (defScope st) s.heap.objs.size f cdv)) → sp vs H Q E →
      ∃ t, PSs (cxOf CX0 P w K mg base N qual (defScope st) f cdv A outer s H E).nox (defBody st) t ∧ t { nx := fun _ H2 => Q .non H2, rt := Q } (start N vs) H) : FnG P w K mg base CX0 (k + 1) f fd ps sp := by
  obtain ⟨oc, od, kV, doc, pm, an, cdv, ct, osl, rfl, lk, hcd⟩ := F.ex
  refine fnG_of lk hcd S len fun A outer s H vs Q E hg hr hsp => ?_
  obtain ⟨t, h, q⟩ := bodyOk cdv A outer s H vs Q E hg hr hsp
  exact ⟨t, h.nox, q⟩
end
section
variable {X : Cx} {CX : CXT} {k : Nat} {f : Addr} {fd : FuncData} {ps : List Str} {sp : Sp} {dvs : List V} {ds : List Value} {E : XK} {x : Str} {p pos : Pos} {e : Expr} {es : List Expr} {t : TA}
theorem run_fnG {pins : List (Addr × Obj)} {σ : L2.St} {H : Hp} {s : Shared} {Q : VK} {us : List Value} {vs : List V} (F : FnG X.prog X.w X.K X.mg X.base CX k f fd ps sp) (hgu : X.A.guards = some []) (hr : Room k X.A) (hb : Binds X.K fd ps ds) (hd : Vals dvs ds) (hx : Passes CX X E)
    (I : Inv X pins σ H s) (r : Vals vs us) (h : sp (vs ++ dvs) H Q E) : wpAny (model X.prog X.w) X.A (call (.ref f) us) (EP X pins σ Q) X.xe s := by
  have r2 := r.append hd
  have lus : (us ++ ds).length = ps.length := r2.length.symm.trans (F.len _ _ _ _ h)
  refine wpAny_call (codeAny_mono (F.run X.A X.stack s H ⟨us, []⟩ (us ++ ds) (vs ++ dvs) Q E hgu hr I.env0 (hb s us I.kIn lus) r2 h) fun r s2 hq => ?_)
  rcases r with er | fl
  · exact hx pins σ H s er s2 I hq
  · cases fl with
    | ret u => exact I.after hq
    | next => exact (hq : False).elim
    | brk => exact (hq : False).elim
    | cont => exact (hq : False).elim
theorem pe_callG (F : FnG X.prog X.w X.K X.mg X.base CX k f fd ps sp) (hgu : X.A.guards = some []) (hr : Room k X.A) (hg : Gl X x) (hm : X.mg x = some (.ref f)) (hk : PySem.W.keepIn X.K (.ref f) = true) (hb : Binds X.K fd ps ds) (hd : Vals dvs ds) (hx : Passes CX X E)
    (ha : PA X (e :: es) t) (hdb : (x == ("__debug__" : Str)) = false := by decide) (he : starEach (e :: es) X.env = (false, eval e X.env) :: starEach es X.env := by rfl) (hpl : (backTo pos (starEach es X.env)).any (·.1) = false := by rfl) :
    PE X (.Call (.Name x p) (e :: es) [] pos) (tCall sp dvs E t) :=
  ⟨fun pins s σ H Q I h => wpAny_Call_Name_kw (ld_glob I hg hm (PySem.W.callWith_K (h₀ := X.base) I.ok.mod.kin hk (thn (ha.run pos pins s σ H _ I h) fun us s1 ⟨vs, H1, I1, r, q⟩ => ⟨I1.kIn, run_fnG F hgu hr hb hd hx I1 r q⟩) he hpl) hdb)⟩
end
/-! ### repr of data -/
/-- repr(x): x data whose text fits -/
def rRepr (K : PySem.W.Frag) : List V → Hp → VK → Prop := fun xs H Q => ∃ (x : V) (d : PyData), xs = [x] ∧ Dp K H x d ∧ (∃ a, x = .ref a) ∧ d.showable = true ∧ d.hasDict = false ∧ d.depth ≤ 60 ∧ d.shown.length ≤ sizeLine ∧ Q (.str d.shown) H
theorem call_repr {X : Cx} (hgu : X.A.guards = some []) {k : Nat} (hr : Room k X.A) : CallR X (.builtin "repr") (rRepr X.K) := by
  intro pins s σ H xs us Q I r h
  obtain ⟨x, d, rfl, hd, ⟨a, rfl⟩, hs, hh, hdep, hz, q⟩ := h
  obtain ⟨u, rfl, ru⟩ : ∃ u, us = [u] ∧ RelV (.ref a) u := by
    cases r with
    | cons r1 r2 =>
      cases r2
      exact ⟨_, rfl, r1⟩
  cases (show u = Value.ref a from ru)
  obtain ⟨as, rd⟩ := Dp.reads I d (.ref a) (.ref a) hd rfl
  have hu := hr.units
  exact repr_of_reads' rd hs (fun e => by rw [hh] at e; cases e) hgu (by omega) (fun _ _ e => e) (fun h2 u tk kk => ⟨.str d.shown, H, I.kept (t' := tk) kk, ⟨u, rfl⟩, q⟩) hz
end L2.Sl

set_option Elab.async false
set_option linter.all false
set_option maxRecDepth 100000
set_option maxHeartbeats 4000000
namespace L2.Sl
open PySem PySem.Spec PyProof.Rows
/-- the law's call, its promise held where nothing is being shown -/
theorem top_call {P : Program} {w : World} {K : PySem.W.Frag} {mg mb : Str → Option Value} {CX : CXT} {k : Nat} {fa a : Addr} {fd : FuncData} {x : Str} {sp : Sp} {s₁ : Shared} {vs : List Value} {ns : List Int}
    (KIn : K.In s₁.heap) (nsM : s₁.heap.Ns mainGlobals mg) (nsB : s₁.heap.Ns builtinsNs mb) (bb : ∀ x : Str, x ≠ "__name__" → mb x = bootBuiltins x) (lim : s₁.heap.NoLimit) (gens0 : s₁.gens = #[])
    (atA : s₁.heap.get? a = some { cls := .type "list", data := .seq vs.toArray }) (hints : IntsAre vs ns) (sz : ns.length ≤ sizeLine) (room : Room k callerA)
    (F : ∀ base : Heap, K.In base → base.Ns mainGlobals mg → FnG P w K mg base CX k fa fd [x] sp) (bind : ∀ (s : Shared) (u : Value), BindsTo s fd ⟨[u], []⟩ [(x, u)])
    (hsp : ∀ H : Hp, Only H → SqL K H a (ns.map V.int) → sp [.ref a] H (fun v _ => v = .bl true) fun _ _ _ => False) (noX : ∀ H e s2, CX [] H s₁ (fun _ _ _ => False) e s2 → False) :
    codeAny (model P w) callerA (.call (.ref fa) ⟨[.ref a], []⟩) (fun r s2 => r = .ok (.ret (.bool true)) ∧ OldK s₁.heap s2.heap ∧ s2.os = s₁.os ∧ AllBare s2.gens) s₁ := by
  have rvs := vals_ints hints
  have lv := hints.length
  have main : ∀ H : Hp, Only H → SqL K H a (ns.map V.int) → HOk P w H s₁.heap → (∀ b, H b ≠ none → b = a) → (H a ≠ none → K.lookup a = none) →
      codeAny (model P w) callerA (.call (.ref fa) ⟨[.ref a], []⟩) (fun r s2 => r = .ok (.ret (.bool true)) ∧ OldK s₁.heap s2.heap ∧ s2.os = s₁.os ∧ AllBare s2.gens) s₁ := by
    intro H only hS ok onlyA notK
    have lay : ∀ {b : Addr} {o : Obj}, s₁.heap.get? b = some o → H b = none → (hidT s₁.heap H).get? b = some o := fun e n => hidT_get e n
    have dictFree : ∀ {b : Addr} {o : Obj} {es : Array DictEntry} {ep : Nat}, s₁.heap.get? b = some o → o.data = .dict es ep → H b = none := fun {b o es ep} e d => by
      cases q : H b with
      | none => rfl
      | some u =>
        have z : b = a := onlyA b (by rw [q]; simp)
        rw [z, atA] at e
        cases e
        have d2 : Data.seq vs.toArray _ = Data.dict es ep := d
        cases d2
    have nsOf : ∀ {b : Addr} {m : Str → Option Value}, s₁.heap.Ns b m → (hidT s₁.heap H).Ns b m := fun {b m} ⟨o, es, ep, e, d, r⟩ => ⟨o, es, ep, lay e (dictFree e d), d, r⟩
    have KB : K.In (hidT s₁.heap H) := fun b o e => lay (KIn b o e) (by
      cases q : H b with
      | none => rfl
      | some u =>
        have z : b = a := onlyA b (by rw [q]; simp)
        rw [z, notK (by rw [← z, q]; simp)] at e
        cases e)
    obtain ⟨mc, lim1, lim2⟩ := lim
    have MB : Mod K mg (hidT s₁.heap H) := ⟨KB, nsOf nsM, ⟨mb, nsOf nsB, bb⟩, ⟨mc, nsOf lim1, lim2⟩⟩
    have en : Env0 P w K mg (hidT s₁.heap H) callerA [] s₁ H := ⟨rfl, MB, fun b o e => of_hidT e, Nat.le_of_eq (hidT_size _ _), trivial, (fun b hb => absurd (show b ∈ ([] : List Addr) from hb) (by simp)), ok, .of_eq gens0⟩
    refine codeAny_mono ((F _ KB (nsOf nsM)).run callerA [] s₁ H ⟨[.ref a], []⟩ [.ref a] [.ref a] _ _ rfl room en (bind s₁ (.ref a)) (.cons rfl .nil) (hsp H only hS)) fun r s2 h => ?_
    rcases r with e | fl
    · exact (noX H e s2 h).elim
    · cases fl with
      | next => exact (h : False).elim
      | brk => exact (h : False).elim
      | cont => exact (h : False).elim
      | ret u =>
        obtain ⟨v, H2, os, bare, un, ok2, r, rfl⟩ := h
        obtain rfl : u = Value.bool true := r
        refine ⟨rfl, OldK.of_keep fun b o e => ?_, os, bare⟩
        cases q : H b with
        | none => exact un.keep b o e q (fun z => nomatch z) (by simp)
        | some u =>
          rcases only b with z | ⟨ob, xs, z⟩
          · rw [q] at z
            cases z
          · obtain ⟨e1, _⟩ := ok b _ z
            obtain ⟨e2, _⟩ := ok2 b _ (un.frzs b ob _ z)
            rw [e] at e1
            cases e1
            exact e2
  cases hk : K.lookup a with
  | some o =>
    have e := KIn a o hk
    rw [atA] at e
    cases e
    exact main (fun _ => none) (fun _ => .inl rfl) (.inr ⟨_, vs.toArray, _, hk, rfl, rfl, rfl, by rw [List.size_toArray, lv]; exact sz, by simpa using rvs⟩) (fun b u z => nomatch (show (none : Option HO) = some u from z)) (fun b z => absurd rfl z) fun z => absurd rfl z
  | none =>
    obtain ⟨H, hH⟩ : ∃ H : Hp, H = fun b => if b = a then some (.frz { cls := .type "list", data := .seq vs.toArray } (.lst (ns.map V.int))) else none := ⟨_, rfl⟩
    have h1 : H a = some (.frz { cls := .type "list", data := .seq vs.toArray } (.lst (ns.map V.int))) := by rw [hH]; exact if_pos rfl
    have h2 : ∀ {b}, b ≠ a → H b = none := fun {b} z => by rw [hH]; exact if_neg z
    refine main H (fun b => ?_) (.inl (.inr ⟨_, h1⟩)) (fun b u z => ?_) (fun b z => ?_) fun _ => hk
    · by_cases hb : b = a
      · exact .inr ⟨_, _, by rw [hb]; exact h1⟩
      · exact .inl (h2 hb)
    · by_cases hb : b = a
      · subst hb
        rw [h1] at z
        cases z
        exact ⟨atA, by rw [List.length_map]; exact sz, vs, _, rvs, atA⟩
      · rw [h2 hb] at z
        cases z
    · by_cases hb : b = a
      · exact hb
      · exact absurd (h2 hb) z
/-- as walk_of -/
theorem walk_G {l : PySem.W.OpenLaw} {n k : Nat} {q : Program} {loose : List Str} {XP : (Str → Option Value) → Heap → Prop} {YP : World → Heap → Prop} {d : DefRec} {K : Params → PySem.W.Frag} {CX : World → CXT} {sp : World → Sp} {x : Str}
    (hn : l.most = some n) (hn2 : n ≤ sizeLine) (hdf : d.params.defaults = []) (hr : Room k callerA) (hY : ∀ (w : World) (h : Heap), YP w h → (K w.params).In h)
    (F : ∀ (w : World) (mg : Str → Option Value) (fa : Addr) (h : Heap), (K w.params).In h → h.Ns mainGlobals mg → mg d.name = some (.ref fa) →
      ∃ fd : FuncData, (∀ (s : Shared) (u : Value), BindsTo s fd ⟨[u], []⟩ [(x, u)]) ∧ ∀ base : Heap, (K w.params).In base → base.Ns mainGlobals mg → FnG l.prog w (K w.params) mg base (CX w) k fa fd [x] (sp w))
    (hsp : ∀ (w : World) (H : Hp) (a : Addr) (ns : List Int), ns.length ≤ n → Only H → SqL (K w.params) H a (ns.map V.int) → sp w [.ref a] H (fun v _ => v = .bl true) fun _ _ _ => False)
    (noX : ∀ (w : World) (H : Hp) (s : Shared) (e : Value) (s2 : Shared), CX w [] H s (fun _ _ _ => False) e s2 → False) : PySem.W.WalkO q loose XP YP l.row.toRowW d [] (fun f vs => PySem.call f vs) :=
  Att.attach_call hn hdf fun w s₀ s₁ mg mb fa o pm cd doc a vs ns G Y ho hd hcd hmg hobj hints hlen hg => by
    have KIn := hY w _ Y
    obtain ⟨fd, hb, hF⟩ := F w mg fa _ KIn G.T.g hmg
    exact top_call KIn G.T.g G.T.b G.T.builtins G.T.nolimit hg hobj hints (Nat.le_trans hlen hn2) hr hF hb (fun H hO hS => hsp w H a ns hlen hO hS) fun H e s2 => noX w H s₁ e s2
end L2.Sl

set_option Elab.async false
set_option linter.all false
set_option maxRecDepth 100000
set_option maxHeartbeats 4000000
namespace L2.Sl
open PySem PySem.Spec PyProof.Rows
/-! ### how long the text of data is, at the most -/
mutual
def psz : PyData → Nat
  | .none => 4
  | .bool _ => 5
  | .int _ => 1921
  | .str x => (reprText x).length
  | .list xs => pszAll xs + 2
  | .tuple xs => pszAll xs + 2
  | .dict _ => 0
def pszAll : List PyData → Nat
  | [] => 0
  | x :: xs => psz x + 2 + pszAll xs
end
theorem list_text (ts : List Str) : (listText ts).length ≤ piled ts + 2 := by
  have key : ∀ (ts : List Str) (n : Nat) (a : Str), (textFrom n a ts).length ≤ a.length + piled ts := by
    intro ts
    induction ts with
    | nil => intro n a; exact Nat.le_refl _
    | cons t r ih =>
      intro n a
      unfold textFrom
      refine Nat.le_trans (ih _ _) ?_
      rw [piled_cons]
      split <;> simp only [strLen_append] <;> (have e : ((", " : String) : Str).length = 2 := rfl) <;> (have e0 : (("" : String) : Str).length = 0 := rfl) <;> omega
  have h := key ts 0 "["
  have e1 : ((("[" : String) : Str)).length = 1 := rfl
  have e2 : ((("]" : String) : Str)).length = 1 := rfl
  unfold listText
  rw [strLen_append]
  omega
mutual
theorem psz_le : ∀ d : PyData, d.showable = true → d.hasDict = false → d.shown.length ≤ psz d
  | .none, _, _ => by decide +kernel
  | .bool b, _, _ => by cases b <;> decide +kernel
  | .int i, h, _ => by
    have h2 : i.natAbs.log2 < 1920 := by simpa [PyData.showable] using h
    exact int_text_len_1921 h2
  | .str x, _, _ => by simp only [PyData.shown, psz]; exact Nat.le_refl _
  | .list xs, h, g => by
    have z := psz_leAll xs (by simpa [PyData.showable] using h) (by simpa [PyData.hasDict] using g)
    have t := list_text (PyData.shownAll xs)
    simp only [PyData.shown, psz]
    omega
  | .tuple xs, h, g => by
    have z := psz_leAll xs (by simpa [PyData.showable] using h) (by simpa [PyData.hasDict] using g)
    have t := fmt_text (PyData.shownAll xs)
    simp only [PyData.shown, psz]
    omega
  | .dict _, _, g => by simp [PyData.hasDict] at g
theorem psz_leAll : ∀ ds : List PyData, PyData.showableAll ds = true → PyData.hasDictAll ds = false → piled (PyData.shownAll ds) ≤ pszAll ds
  | [], _, _ => Nat.le_refl _
  | d :: r, h, g => by
    have h2 : d.showable = true ∧ PyData.showableAll r = true := by simpa [PyData.showableAll] using h
    have g2 : d.hasDict = false ∧ PyData.hasDictAll r = false := by simpa [PyData.hasDictAll] using g
    have z1 := psz_le d h2.1 g2.1
    have z2 := psz_leAll r h2.2 g2.2
    simp only [PyData.shownAll, pszAll]
    rw [piled_cons]
    omega
end
/-! ### data of tuples alone: it stands as long as the tuples stand -/
mutual
inductive Th (H : Hp) : V → PyData → Prop
  | non : Th H .non .none
  | bl (b : Bool) : Th H (.bl b) (.bool b)
  | int (i : Int) : Th H (.int i) (.int i)
  | str (x : Str) : Th H (.str x) (.str x)
  | tup {a : Addr} {xs : List V} {ds : List PyData} : H a = some (.tup xs) → ThAll H xs ds → Th H (.ref a) (.tuple ds)
inductive ThAll (H : Hp) : List V → List PyData → Prop
  | nil : ThAll H [] []
  | cons {v : V} {vs : List V} {d : PyData} {ds : List PyData} : Th H v d → ThAll H vs ds → ThAll H (v :: vs) (d :: ds)
end
/-- the tuples stand -/
def Tups (H H2 : Hp) : Prop := ∀ a xs, H a = some (.tup xs) → H2 a = some (.tup xs)
theorem Tups.of {H H2 : Hp} (s : Same H H2) : Tups H H2 := fun a xs e => s a _ e
theorem Tups.trans {H H1 H2 : Hp} (a : Tups H H1) (b : Tups H1 H2) : Tups H H2 := fun c xs e => b c xs (a c xs e)
mutual
theorem Th.mono {H H2 : Hp} (t : Tups H H2) : ∀ {v : V} {d : PyData}, Th H v d → Th H2 v d
  | _, _, .non => .non
  | _, _, .bl b => .bl b
  | _, _, .int i => .int i
  | _, _, .str x => .str x
  | _, _, .tup e r => .tup (t _ _ e) (ThAll.mono t r)
theorem ThAll.mono {H H2 : Hp} (t : Tups H H2) : ∀ {vs : List V} {ds : List PyData}, ThAll H vs ds → ThAll H2 vs ds
  | _, _, .nil => .nil
  | _, _, .cons h r => .cons (Th.mono t h) (ThAll.mono t r)
end
mutual
theorem Th.dp {K : PySem.W.Frag} {H : Hp} : ∀ {v : V} {d : PyData}, Th H v d → Dp K H v d
  | _, _, .non => .non
  | _, _, .bl b => .bl b
  | _, _, .int i => .int i
  | _, _, .str x => .str x
  | _, _, .tup e r => .tup (SqT.of e) (ThAll.dp r)
theorem ThAll.dp {K : PySem.W.Frag} {H : Hp} : ∀ {vs : List V} {ds : List PyData}, ThAll H vs ds → DpAll K H vs ds
  | _, _, .nil => .nil
  | _, _, .cons h r => .cons (Th.dp h) (ThAll.dp r)
end
end L2.Sl

set_option Elab.async false
set_option linter.all false
set_option maxRecDepth 100000
set_option maxHeartbeats 4000000
namespace SlX
open PySem PySem.Spec PyProof.Rows HotX
section
variable {prog : Program} {w : World} {A : Around} {E : Value → Shared → Prop} {s : Shared}
/-- a tuple's end, asked while an exception is handled -/
theorem tuple_end_hot {x1 it t : Addr} {i : Nat} {items : Array Value} {Q : Option Value → Shared → Prop} (hot : HotAt A x1 s.heap) (hx1 : x1 ≠ it) (hit : IsTupIter s.heap it t i) (ht : IsTup s.heap t items) (hx : items[i]? = none)
    (fin : ∀ h2, Heap.ExtBut it s.heap h2 → Q none { s with heap := h2 }) : wpAny (model prog w) A (pyNext (.ref it)) Q E s := by
  obtain ⟨o, ho, hc, hd⟩ := id hit
  obtain ⟨ol, hol, _, nl, hdl⟩ := ht
  obtain ⟨hh, o1, vs1, h1, d1, c1⟩ := hot
  unfold pyNext
  refine wpAny_bind (wpAny_attempt (wpAny_callSpecial?_slot (name := Str.ofString "__next__") hit.typeIs slot_tupleiter_next (wpAny_call_entry slot_tupleiter_next hit.typeIs entry_tupleiter_next ?_ (args_tupleiter_next _))))
  show wpAny _ _ (field (.ref it) 0 >>= _) _ _ s
  refine wpAny_bind (wpAny_field ho hd (x := .ref t) rfl ?_)
  show wpAny _ _ (if (Value.ref t == Value.none) = true then _ else _) _ _ s
  rw [if_neg (show ¬ ((Value.ref t == Value.none) = true) from Bool.false_ne_true)]
  show wpAny _ _ (field (.ref it) 1 >>= _) _ _ s
  refine wpAny_bind (wpAny_field ho hd (x := .int i 0) rfl ?_)
  show wpAny _ _ (seqItems? (.ref t) >>= _) _ _ s
  refine wpAny_bind (wpAny_seqItems hol hdl ?_)
  simp only [Int.toNat_natCast, hx]
  refine wpAny_bind (wpAny_rule (wpAny_bind (wpAny_setField ho hd (by simp) ?_)))
  show wpAny _ _ (newExc (.type "StopIteration") [] >>= _) _ _ _
  refine wpAny_bind ?_
  simp only [newExc, newTuple]
  refine wpAny_bind (wpAny_newObj_type ?_ (by size_fits))
  refine wpAny_bind (m := firstArgMember _ _) (wpAny_of_eq (a := Value.none) (by first | rfl | (simp only [firstArgMember]; rfl)) (wpAny_newObj_type ?_ (by size_fits)))
  have g1 : ∀ f o2 o3, (((s.heap.update it f).push o2).push o3).get? x1 = some o1 := fun f o2 o3 => by
    refine Heap.get?_push_of_some _ (Heap.get?_push_of_some _ ?_)
    rw [Heap.get?_update_ne _ _ _ _ hx1]
    exact h1
  refine raiseNew_hot ⟨hh, o1, vs1, g1 _ _ _, d1, c1⟩ ?_ (Heap.get?_push_size _ rfl) rfl (by first | (simp; done) | (simp; omega) | (simp only [Array.size_append]; simp; omega)) ?_
  · refine Nat.ne_of_lt (Nat.lt_of_lt_of_le (Heap.lt_size h1) ?_)
    simp only [Heap.size_push, Heap.size_update]
    omega
  · refine wpAny_bind (wpAny_isInstance (T := "StopIteration") (b := true) ⟨_, Heap.get?_update_self _ (Heap.get?_push_size _ rfl) rfl, rfl⟩ isSubtype_stop ?_)
    refine wpAny_pure (fin _ fun b ob hb e => ?_)
    have e2 := (Heap.get?_update_ne s.heap b it (Obj.mapFields (·.setIfInBounds 0 .none)) hb).trans e
    rw [Heap.get?_update_other _ _ (Nat.ne_of_gt (Heap.lt_size (Heap.get?_push_of_some _ e2)))]
    exact Heap.get?_push_of_some _ (Heap.get?_push_of_some _ e2)
theorem unpack_hot {x1 t : Addr} {items : Array Value} {Q : List Value → Shared → Prop} (hot : HotAt A x1 s.heap) (ht : IsTup s.heap t items) (fin : ∀ h2, Heap.ExtBut s.heap.objs.size s.heap h2 → Q items.toList { s with heap := h2 }) :
    wpAny (model prog w) A (unpackItems (.ref t) items.size none) Q E s := by
  have hlt : t ≠ s.heap.objs.size := by
    obtain ⟨o, ho, _⟩ := ht
    exact Nat.ne_of_lt (Heap.lt_size ho)
  obtain ⟨hh, o1, vs1, h1, d1, c1⟩ := hot
  have hx1 : x1 ≠ s.heap.objs.size := Nat.ne_of_lt (Heap.lt_size h1)
  unfold unpackItems notIterableAtAll
  refine wpAny_bind (wpAny_bind (wpAny_specialOf ht.typeIs slot_tuple_iter.lookup (wpAny_pure ?_)))
  simp only [Bool.false_eq_true, if_false]
  refine wpAny_bind (wpAny_holding (iter_tuple ht ?_))
  refine wpAny_bind (wpAny_holding (draw_tuple hlt items.size 0 _ _ ⟨_, Heap.get?_push_size _ rfl, rfl, rfl⟩ (ht.push _) (by omega) fun h2 hit2 sb2 => ?_))
  have all : List.take items.size (List.drop 0 items.toList) = items.toList := by
    rw [List.drop_zero]
    exact List.take_of_length_le (by simp)
  rw [all, if_neg (by simp)]
  have ht2 : IsTup h2 t items := (ht.push _).extBut sb2.extBut hlt
  have k2 : h2.get? x1 = some o1 := sb2.extBut _ _ hx1 (Heap.get?_push_of_some _ h1)
  refine wpAny_bind (wpAny_holding (tuple_end_hot ⟨hh, o1, vs1, k2, d1, c1⟩ hx1 hit2 ht2 (by simp) fun h3 e3 => ?_))
  simp only [Option.isSome_none, Bool.false_eq_true, if_false]
  exact wpAny_pure (fin h3 fun b o hb e => e3 b o hb (sb2.extBut b o hb (Heap.get?_push_of_some _ e)))
end
end SlX
namespace L2.Sl
open PySem PySem.W PySem.Calls PyProof.Rows PySem.Spec SlX
/-- a, b = x, y with plain local names, in a suite that holds an exception without context -/
theorem ps_parH {X : Cx} {i j : Nat} {x y : Str} {a b : Expr} {ta : TA} {px py pt pos : Pos} {kt k2 pt2} (hc : L2H.HotC X) (hN : X.N.Nodup) (hi : X.N[i]? = some x) (hj : X.N[j]? = some y) (hij : i ≠ j) (hx : X.env.scope.names.lookup x = some .local) (hy : X.env.scope.names.lookup y = some .local)
    (ha : PA X [a, b] ta) (hw : swappedStores [.Tuple [.Name x px, .Name y py] kt pt] (.Tuple [a, b] k2 pt2) X.env = pure (some [x, y])) (hs : swapsWithSole [.Tuple [.Name x px, .Name y py] kt pt] (.Tuple [a, b] k2 pt2) pos.line X.env = pure false := by rfl) :
    PS X (.Assign [.Tuple [.Name x px, .Name y py] kt pt] (.Tuple [a, b] k2 pt2) pos) (tPar i j ta) := by
  refine ⟨fun pins s σ H D I h => ?_⟩
  rw [exec_Assign_arm]
  refine wpAny_bind (wpAny_standAt ?_)
  rw [hs]
  refine wpAny_bind (wpAny_pure ?_)
  rw [if_neg (by decide)]
  refine wpAny_bind (Tuple_ (thn (ha.run _ pins s σ H _ I h) fun us t1 ⟨vs, H1, I1, r1, hq⟩ => ?_))
  obtain ⟨v1, v2, rfl, q1⟩ := hq
  obtain ⟨u1, u2, rfl, rv, rz⟩ := vals2 r1
  refine wpAny_newObj_type ?_ (by show 2 ≤ sizeLine; decide)
  have J2 : Inv X pins σ H1 { t1 with heap := t1.heap.push { cls := .type "tuple", data := .seq [u1, u2].toArray } } := I1.kept (t' := t1.toks) fun b o e => Heap.get?_push_of_some _ e
  rw [hw]
  refine wpAny_bind (wpAny_pure ?_)
  show wpAny (model X.prog X.w) X.A (do rule "assign.swapped-stores"; let items ← unpackItems (.ref t1.heap.objs.size) 2 none; assignInOrder [fun v => bindName X.env y v, fun v => bindName X.env x v] items.reverse; pure Flow.next) _ _ _
  obtain ⟨x1, hot⟩ := hc.at J2
  refine wpAny_bind (wpAny_rule (wpAny_bind (unpack_hot (items := #[u1, u2]) hot (IsTup.new t1.heap _) fun h2 ex2 => ?_)))
  have J3 := J2.kept (h' := h2) (t' := t1.toks) fun b o e => ex2 b o (Nat.ne_of_lt (Heap.lt_size e)) e
  show wpAny _ _ (assignInOrder [fun v => bindName X.env y v, fun v => bindName X.env x v] [u2, u1] >>= fun _ => pure Flow.next) _ _ _
  refine wpAny_bind (assignInOrder_cons (wpAny_bindName (store_ok J3 hN hj (.inl hy) rz (fun s2 J4 => ?_) (.inr hy))))
  refine assignInOrder_cons (wpAny_bindName (store_ok J4 hN hi (.inl hx) rv (fun s3 J5 => assignInOrder_nil (wpAny_pure ?_)) (.inr hx)))
  rw [List.set_comm _ _ (Ne.symm hij)] at J5
  exact ⟨_, H1, J5, q1⟩
/-- the suite's exception is held without context -/
theorem hot_suite {X : Cx} {a : Addr} {oe : Obj} {cls : Value} {d : Option Addr} {pn : List (Addr × Obj)} (hz : L2N.Zn cls d oe) (hf : ∃ vs, oe.data = .fields vs) : L2H.HotC (X.suite a ((a, oe) :: pn)) := by
  obtain ⟨vs, hd⟩ := hf
  exact ⟨(a, oe), ⟨rfl, vs, hd, hz.2.2 vs hd⟩, List.mem_cons_self⟩
section
variable {P : Program} {w : World} {K : PySem.W.Frag} {mg : Str → Option Value} {base : Heap}
/-- a def that may raise where nothing is handled -/
theorem okN {x qual : Str} {st : Stmt} {f : Addr} {fd : FuncData} {N ps : List Str} {k : Nat} {sp : Sp} (F : Fun K x qual st f fd) (S : FnScope N ps (defScope st)) (len : ∀ vs H Q E, sp vs H Q E → vs.length = ps.length)
    (bodyOk : ∀ (cdv : Value) (A : Around) (outer : List Env) (s : Shared) (H : Hp) (vs : List V) (Q : VK) (E : XK), Room k (A.deeper (envOfC qual (defScope st) s.heap.objs.size f cdv)) → sp vs H Q E →
      ∃ t, PSs (cxOf (L2N.CX P w) P w K mg base N qual (defScope st) f cdv A outer s H E) (defBody st) t ∧ t { nx := fun _ H2 => Q .non H2, rt := Q } (start N vs) H) : FnOk P w K mg base (L2N.CX P w) (k + 1) f fd ps sp := by
  obtain ⟨oc, od, kV, doc, pm, an, cdv, ct, osl, rfl, lk, hcd⟩ := F.ex
  exact fn_of lk hcd S len fun A outer s H vs Q E hr hsp => bodyOk cdv A outer s H vs Q E hr hsp
theorem takesN0 {X : Cx} : L2N.Takes X (fun _ _ _ _ => False) := fun _ _ x => by
  obtain ⟨_, _, _, _, _, _, _, _, _, _, _, _, _, _, _, _, z⟩ := x
  exact z.elim
end
end L2.Sl

set_option Elab.async false
set_option linter.all false
set_option maxRecDepth 100000
set_option maxHeartbeats 4000000
namespace L2.Sl
open PySem PySem.W PySem.Calls PyProof.Rows PySem.Spec SlX
/-- what a clause over three classes wishes -/
def wKeep3 (K : Frag) (Wout : WX) (D : Ends) (c1 c2 c3 : Value) (i : Nat) (ts : Addr → Value → Option Addr → TS) : WX :=
  fun cls d σ H => ∃ b, exmAny K cls [c1, c2, c3] = some b ∧ (b = true → ∀ a, H a = none → ts a cls d (kept D a cls d i) (σ.set i (some (.ref a))) H) ∧ (b = false → Wout cls d σ H)
theorem flyZ_keeps {B h h2 : Heap} {l : List Env} {e : Addr} {Z : Obj → Prop} (R : HandSPX.FlyingZ B l e Z h) (k : ∀ b o, h.get? b = some o → h2.get? b = some o) : HandSPX.FlyingZ B l e Z h2 := by
  obtain ⟨a1, a2, a3, oe, vs, T, oT, ts, a4, a5, a6, a7, a8, a9, b1, b2, b3⟩ := R
  exact ⟨fun b o q => k b o (a1 b o q), a2, a3.of_keeps (fun b o q _ => ⟨o, k b o q, rfl⟩), oe, vs, T, oT, ts, k _ _ a4, a5, a6, a7, a8, a9, k _ _ b1, b2, b3⟩
section
variable {X : Cx} {body : List Stmt} {pos pos2 p1 p2 p3 tpos : Pos} {kk : Nat} {x1 x2 x3 n : Str} {c1 c2 c3 : Value} {i : Nat} {ts : Addr → Value → Option Addr → TS} {b₀ : Stmt} {suite : List Stmt} {tb : WX → TS} {Wout : WX}
theorem ps_try_keep3 (hs : X.stack = X.env :: X.outer) (hf : X.env.frame = some X.env.locals) (hN : X.N.Nodup) (hex : X.ex = []) (tk : L2N.Takes X Wout)
    (hb : ∀ (W : WX) (pn : List (Addr × Obj)) (xe : Value → Shared → Prop), L2N.Takes (X.tr pn xe) W → PassesOwn (model X.prog X.w) X.A X.env xe → PSs (X.tr pn xe) body (tb W))
    (hc1 : Names X x1 c1) (hc2 : Names X x2 c2) (hc3 : Names X x3 c3) (hi : X.N[i]? = some n) (hln : X.env.kindOf n = some .local)
    (hsu : ∀ (a : Addr) (oe : Obj) (cls : Value) (d : Option Addr) (pn : List (Addr × Obj)), L2N.Zn cls d oe → (∃ vs, oe.data = .fields vs) → PSs (X.suite a ((a, oe) :: pn)) (b₀ :: suite) (ts a cls d)) :
    PS X (.Try body [.ExceptHandler (some (.Tuple [.Name x1 p1, .Name x2 p2, .Name x3 p3] kk tpos)) (some n) (b₀ :: suite) pos2] [] [] pos) (fun D σ H => tb (wKeep3 X.K Wout D c1 c2 c3 i ts) D σ H) := by
  refine ⟨fun pins s σ H D I h => ?_⟩
  have okX := I.ok
  have frm : X.A.frames = some (X.env :: X.outer) := by rw [okX.frames, hs]
  refine wpAny_Try_except (wpAny_mono ((hb (wKeep3 X.K Wout D c1 c2 c3 i ts) (X.pn ++ pins) (fun e t1 => wpAny (model X.prog X.w) X.A (noteFrame e X.env) (fun _ t2 => wpAny (model X.prog X.w) X.A (setFlight e none) (fun _ t3 =>
    wpAny (model X.prog X.w) X.A (handleBy e X.env [.ExceptHandler (some (.Tuple [.Name x1 p1, .Name x2 p2, .Name x3 p3] kk tpos)) (some n) (b₀ :: suite) pos2]) (SP X pins D) X.xe t3) X.xe t2) X.xe t1) (fun u s2 xx => ?_) PassesOwn.looking).run [] s σ H D (I.toTry _) h) (fun f s1 hsp => ?_) (fun e s1 he => he))
  · obtain ⟨a, B, sI, pins2, σ2, H2, cls, d, rfl, J0, nb, up, sky, na, os, ag, wish⟩ := xx
    have J : Inv X pins σ2 H2 sI := J0.ofTry okX
    have sky2 : Sky B (X.env :: X.outer) a (L2N.Zn cls d) X.env.locals s2.heap := by rw [← hs]; exact sky
    show wpAny (model X.prog X.w) X.A (noteFrame (.ref a) X.env) _ _ _
    refine L2N.Sky.land L2N.Zn.steady frm hf sky2 fun h3 fl3 up3 => ?_
    have J3 : Inv X pins σ2 H2 { s2 with heap := h3 } := J.landed nb fl3.1 (up.trans up3) os ag
    obtain ⟨oe3, vs3, he3, hz3, hd3⟩ := fl3.there
    have offFr : a ∉ frs (X.env :: X.outer) := fun hm => by
      obtain ⟨_, o', e', hnf⟩ := fl3.2.2.1.mem hm
      rw [he3] at e'
      cases e'
      exact hnf _ hd3
    have nL : a ≠ X.env.locals := fun z => offFr (List.mem_filterMap.mpr ⟨X.env, List.mem_cons_self, by rw [hf, z]⟩)
    have nF : a ∉ X.fs := fun hm => by
      obtain ⟨e, he, q⟩ := List.mem_filterMap.mp hm
      exact offFr (List.mem_filterMap.mpr ⟨e, List.mem_cons_of_mem _ he, q⟩)
    -- the exception is none of the objects that were there
    have newI : sI.heap.get? a = none := by
      cases e : sI.heap.get? a with
      | none => rfl
      | some o =>
        have z := nb a o e (by rw [hs]; exact offFr)
        rw [fl3.2.1] at z
        cases z
    have new0 : X.s_0.heap.get? a = none := by
      cases e : X.s_0.heap.get? a with
      | none => rfl
      | some o =>
        obtain ⟨o', z⟩ := J.base.there a o e (by rw [hex]; exact fun z => nomatch z)
        rw [newI] at z
        cases z
    have offPins : ∀ p ∈ X.pn ++ pins, p.1 ≠ a := fun p hp z => by
      have q := (J.pin p hp).1
      rw [z, newI] at q
      cases q
    have S3 := J3.suite he3 hd3 na nL nF
    obtain ⟨b, hb1, yes, no⟩ := wish
    have locn : Loc X.env.scope n := .inl hln
    refine wpAny_handleBy_cons (codeAny_handlers_test ?_) (by intro q; cases q)
    have ty : Looks (model X.prog X.w) h3 (typeOf (.ref a)) cls := fun A Q E s k q => wpAny_typeOf_ref (k _ _ he3) (by rw [hz3.1]; exact q)
    have test : ∀ {x : Str} {c : Value} {np : Pos}, Names X x c → ∀ {Q : Value → Shared → Prop} {E : Value → Shared → Prop}, Q c { s2 with heap := h3 } → wpAny (model X.prog X.w) (X.A.mark (some (.ref a))) (eval (.Name x np) X.env) Q E { s2 with heap := h3 } := fun {x c np} hc {Q E} q => by
      obtain ⟨hg, hdbg, hm | ⟨hm, hv, hnn⟩⟩ := hc
      · exact ld_glob (X := X.suite a ((a, oe3) :: (X.pn ++ pins))) S3 hg hm q hdbg
      · exact ld_blt (X := X.suite a ((a, oe3) :: (X.pn ++ pins))) S3 hg hm hv q hnn hdbg
    refine wpAny_Tuple (wpAny_items_cons (test hc1 (wpAny_items_cons (test hc2 (wpAny_items_cons (test hc3 (wpAny_items_nil ⟨by size_fits, ?_⟩)))))))
    have kp : ∀ q o, h3.get? q = some o → (h3.push { cls := .type "tuple", data := .seq [c1, c2, c3].toArray }).get? q = some o := fun _ _ z => Heap.get?_push_of_some _ z
    refine (exm_tup3 (M := model X.prog X.w) (J3.kIn.keeps kp) (ty.keeps kp) (Heap.get?_push_size h3 rfl) hb1).here ?_
    have fl5 := flyZ_keeps fl3 kp
    have up5 : h3.UpToSlots (h3.push { cls := .type "tuple", data := .seq [c1, c2, c3].toArray }) := Heap.UpToSlots.of_keeps kp
    generalize h3.push { cls := .type "tuple", data := .seq [c1, c2, c3].toArray } = h5 at kp fl5 up5 ⊢
    cases b with
    | false =>
      show wpAny _ X.A (handleBy (.ref a) X.env []) _ _ _
      refine wpAny_handleBy_nil ?_
      obtain ⟨k1, k2, k3, oe, vs, T, oT, ts2, he, hz, hd, h1, hr⟩ := id fl5
      unfold PySem.passOn
      refine wpAny_bind (wpAny_field he hd h1 ?_)
      rw [if_neg (show ¬ ((Value.ref T == Value.none) = true) from by simp)]
      have out : wpAny (model X.prog X.w) X.A (setFlight (.ref a) X.env.frame) (fun _ t4 => wpAny (model X.prog X.w) X.A (throw (.ref a) : Sem Flow) (SP X pins D) X.xe t4) X.xe { s2 with heap := h5 } := by
        rw [hf]
        exact HandSPX.setFlight_upZ fl5 fun h4 hh4 up4 => wpAny_throw (tk _ _ ⟨a, B, sI, pins, σ2, H2, cls, d, rfl, J, nb, ((up.trans up3).trans up5).trans up4, .inr (.inr (by rw [hs]; exact hh4)), na, os, ag, no rfl⟩)
      first
        | exact wpAny_bind (wpAny_pure (wpAny_bind out))
        | exact wpAny_bind out
    | true =>
      refine codeAny_handlers_suite_as (HandSPX.lands_againZ fl5 fun h4 fl4 up4 => ?_)
      have J4 : Inv X pins σ2 H2 { s2 with heap := h4 } := J.landed nb fl4.1 (((up.trans up3).trans up5).trans up4) os ag
      obtain ⟨oe4, vs4, he4, hz4, hd4⟩ := fl4.there
      have S4 := J4.suite he4 hd4 na nL nF
      refine store_ok (X := X.suite a ((a, oe4) :: (X.pn ++ pins))) (v := .ref a) S4 hN hi locn rfl (fun s5 S5 => ?_) (.inr hln)
      refine wpAny_mono ((hsu a oe4 cls d (X.pn ++ pins) hz4 ⟨_, hd4⟩).run [] s5 _ H2 _ S5 (yes rfl a na)) (fun f s6 hsp => ?_) (fun _ _ z => False.elim z)
      have fin : ∀ {σ6 : L2.St} {H6 : Hp} {Q : Shared → Prop}, Inv (X.suite a ((a, oe4) :: (X.pn ++ pins))) [] σ6 H6 s6 → (H6 a = none → ∀ s7, Inv X pins (σ6.set i none) (upd H6 a (exH cls d a)) s7 → Q s7) →
          wpAny (model X.prog X.w) X.A (do bindName X.env n .none; unbindBehindTheSuite X.env n pos2) (fun _ s7 => Q s7) X.xe s6 := fun {σ6 H6 Q} S6 hq => by
        obtain ⟨e1, e2, e3, e4, e5⟩ := S6.pin (a, oe4) (List.mem_append_left _ List.mem_cons_self)
        exact gone_ok (hold (S6.unsuite okX) new0 e2 e1 hz4.zc hd4 offPins nL) hN hi hln fun s7 J7 => hq e2 s7 J7
      cases f with
      | next =>
        obtain ⟨σ6, H6, S6, q6⟩ := hsp
        exact fin S6 fun n6 s7 J7 => ⟨_, _, J7, q6 n6⟩
      | brk =>
        obtain ⟨σ6, H6, S6, q6⟩ := hsp
        exact fin S6 fun n6 s7 J7 => ⟨_, _, J7, q6 n6⟩
      | cont =>
        obtain ⟨σ6, H6, S6, q6⟩ := hsp
        exact fin S6 fun n6 s7 J7 => ⟨_, _, J7, q6 n6⟩
      | ret u =>
        obtain ⟨v6, σ6, H6, S6, r6, q6⟩ := hsp
        exact fin S6 fun n6 s7 J7 => ⟨_, _, _, J7, r6, q6 n6⟩
  · cases f with
    | next =>
      obtain ⟨σ2, H2, J2, q⟩ := hsp
      exact wpAny_execs_nil ⟨σ2, H2, J2.ofTry okX, q⟩
    | brk =>
      obtain ⟨σ2, H2, J2, q⟩ := hsp
      exact ⟨σ2, H2, J2.ofTry okX, q⟩
    | cont =>
      obtain ⟨σ2, H2, J2, q⟩ := hsp
      exact ⟨σ2, H2, J2.ofTry okX, q⟩
    | ret u =>
      obtain ⟨v, σ2, H2, J2, r, q⟩ := hsp
      exact ⟨v, σ2, H2, J2.ofTry okX, r, q⟩
end
end L2.Sl

set_option Elab.async false
set_option linter.all false
set_option maxRecDepth 100000
set_option maxHeartbeats 4000000
namespace L2.Sl
open PySem PySem.W PySem.Calls PyProof.Rows PySem.Spec SlX
/-- told of slots of the right number -/
def wLen (n : Nat) (W : WX) : WX := fun cls d σ H => σ.length = n → W cls d σ H
section
variable {X : Cx} {body : List Stmt} {pos pos2 p1 p2 p3 tpos : Pos} {kk : Nat} {x1 x2 x3 n : Str} {c1 c2 c3 : Value} {i : Nat} {ts : Addr → Value → Option Addr → TS} {b₀ : Stmt} {suite : List Stmt} {tb : WX → TS} {Wout : WX}
theorem ps_try_keep3c (hs : X.stack = X.env :: X.outer) (hf : X.env.frame = some X.env.locals) (hN : X.N.Nodup) (hex : X.ex = []) (tk : L2.Takes X Wout)
    (hb : ∀ (W : WX) (pn : List (Addr × Obj)) (xe : Value → Shared → Prop), L2.Takes (X.tr pn xe) W → PassesOwn (model X.prog X.w) X.A X.env xe → PSs (X.tr pn xe) body (tb W))
    (hc1 : Names X x1 c1) (hc2 : Names X x2 c2) (hc3 : Names X x3 c3) (hi : X.N[i]? = some n) (hln : X.env.kindOf n = some .local)
    (hsu : ∀ (a : Addr) (oe : Obj) (cls : Value) (d : Option Addr) (pn : List (Addr × Obj)), Zc cls d oe → (∃ vs, oe.data = .fields vs) → PSs (X.suite a ((a, oe) :: pn)) (b₀ :: suite) (ts a cls d)) :
    PS X (.Try body [.ExceptHandler (some (.Tuple [.Name x1 p1, .Name x2 p2, .Name x3 p3] kk tpos)) (some n) (b₀ :: suite) pos2] [] [] pos) (fun D σ H => tb (wLen X.N.length (wKeep3 X.K Wout D c1 c2 c3 i ts)) D σ H) := by
  refine ⟨fun pins s σ H D I h => ?_⟩
  have okX := I.ok
  have frm : X.A.frames = some (X.env :: X.outer) := by rw [okX.frames, hs]
  refine wpAny_Try_except (wpAny_mono ((hb (wLen X.N.length (wKeep3 X.K Wout D c1 c2 c3 i ts)) (X.pn ++ pins) (fun e t1 => wpAny (model X.prog X.w) X.A (noteFrame e X.env) (fun _ t2 => wpAny (model X.prog X.w) X.A (setFlight e none) (fun _ t3 =>
    wpAny (model X.prog X.w) X.A (handleBy e X.env [.ExceptHandler (some (.Tuple [.Name x1 p1, .Name x2 p2, .Name x3 p3] kk tpos)) (some n) (b₀ :: suite) pos2]) (SP X pins D) X.xe t3) X.xe t2) X.xe t1) (fun u s2 xx => ?_) PassesOwn.looking).run [] s σ H D (I.toTry _) h) (fun f s1 hsp => ?_) (fun e s1 he => he))
  · obtain ⟨a, B, sI, pins2, σ2, H2, cls, d, rfl, J0, nb, up, sky, na, os, ag, wish⟩ := xx
    have J : Inv X pins σ2 H2 sI := J0.ofTry okX
    have sky2 : Sky B (X.env :: X.outer) a (Zc cls d) X.env.locals s2.heap := by rw [← hs]; exact sky
    show wpAny (model X.prog X.w) X.A (noteFrame (.ref a) X.env) _ _ _
    refine Sky.land Zc.steady frm hf sky2 fun h3 fl3 up3 => ?_
    have J3 : Inv X pins σ2 H2 { s2 with heap := h3 } := J.landed nb fl3.1 (up.trans up3) os ag
    obtain ⟨oe3, vs3, he3, hz3, hd3⟩ := fl3.there
    have offFr : a ∉ frs (X.env :: X.outer) := fun hm => by
      obtain ⟨_, o', e', hnf⟩ := fl3.2.2.1.mem hm
      rw [he3] at e'
      cases e'
      exact hnf _ hd3
    have nL : a ≠ X.env.locals := fun z => offFr (List.mem_filterMap.mpr ⟨X.env, List.mem_cons_self, by rw [hf, z]⟩)
    have nF : a ∉ X.fs := fun hm => by
      obtain ⟨e, he, q⟩ := List.mem_filterMap.mp hm
      exact offFr (List.mem_filterMap.mpr ⟨e, List.mem_cons_of_mem _ he, q⟩)
    -- the exception is none of the objects that were there
    have newI : sI.heap.get? a = none := by
      cases e : sI.heap.get? a with
      | none => rfl
      | some o =>
        have z := nb a o e (by rw [hs]; exact offFr)
        rw [fl3.2.1] at z
        cases z
    have new0 : X.s_0.heap.get? a = none := by
      cases e : X.s_0.heap.get? a with
      | none => rfl
      | some o =>
        obtain ⟨o', z⟩ := J.base.there a o e (by rw [hex]; exact fun z => nomatch z)
        rw [newI] at z
        cases z
    have offPins : ∀ p ∈ X.pn ++ pins, p.1 ≠ a := fun p hp z => by
      have q := (J.pin p hp).1
      rw [z, newI] at q
      cases q
    have S3 := J3.suite he3 hd3 na nL nF
    obtain ⟨b, hb1, yes, no⟩ := wish J.len
    have locn : Loc X.env.scope n := .inl hln
    refine wpAny_handleBy_cons (codeAny_handlers_test ?_) (by intro q; cases q)
    have ty : Looks (model X.prog X.w) h3 (typeOf (.ref a)) cls := fun A Q E s k q => wpAny_typeOf_ref (k _ _ he3) (by rw [hz3.1]; exact q)
    have test : ∀ {x : Str} {c : Value} {np : Pos}, Names X x c → ∀ {Q : Value → Shared → Prop} {E : Value → Shared → Prop}, Q c { s2 with heap := h3 } → wpAny (model X.prog X.w) (X.A.mark (some (.ref a))) (eval (.Name x np) X.env) Q E { s2 with heap := h3 } := fun {x c np} hc {Q E} q => by
      obtain ⟨hg, hdbg, hm | ⟨hm, hv, hnn⟩⟩ := hc
      · exact ld_glob (X := X.suite a ((a, oe3) :: (X.pn ++ pins))) S3 hg hm q hdbg
      · exact ld_blt (X := X.suite a ((a, oe3) :: (X.pn ++ pins))) S3 hg hm hv q hnn hdbg
    refine wpAny_Tuple (wpAny_items_cons (test hc1 (wpAny_items_cons (test hc2 (wpAny_items_cons (test hc3 (wpAny_items_nil ⟨by size_fits, ?_⟩)))))))
    have kp : ∀ q o, h3.get? q = some o → (h3.push { cls := .type "tuple", data := .seq [c1, c2, c3].toArray }).get? q = some o := fun _ _ z => Heap.get?_push_of_some _ z
    refine (exm_tup3 (M := model X.prog X.w) (J3.kIn.keeps kp) (ty.keeps kp) (Heap.get?_push_size h3 rfl) hb1).here ?_
    have fl5 := flyZ_keeps fl3 kp
    have up5 : h3.UpToSlots (h3.push { cls := .type "tuple", data := .seq [c1, c2, c3].toArray }) := Heap.UpToSlots.of_keeps kp
    generalize h3.push { cls := .type "tuple", data := .seq [c1, c2, c3].toArray } = h5 at kp fl5 up5 ⊢
    cases b with
    | false =>
      show wpAny _ X.A (handleBy (.ref a) X.env []) _ _ _
      refine wpAny_handleBy_nil ?_
      obtain ⟨k1, k2, k3, oe, vs, T, oT, ts2, he, hz, hd, h1, hr⟩ := id fl5
      unfold PySem.passOn
      refine wpAny_bind (wpAny_field he hd h1 ?_)
      rw [if_neg (show ¬ ((Value.ref T == Value.none) = true) from by simp)]
      have out : wpAny (model X.prog X.w) X.A (setFlight (.ref a) X.env.frame) (fun _ t4 => wpAny (model X.prog X.w) X.A (throw (.ref a) : Sem Flow) (SP X pins D) X.xe t4) X.xe { s2 with heap := h5 } := by
        rw [hf]
        exact HandSPX.setFlight_upZ fl5 fun h4 hh4 up4 => wpAny_throw (tk _ _ ⟨a, B, sI, pins, σ2, H2, cls, d, rfl, J, nb, ((up.trans up3).trans up5).trans up4, .inr (.inr (by rw [hs]; exact hh4)), na, os, ag, no rfl⟩)
      first
        | exact wpAny_bind (wpAny_pure (wpAny_bind out))
        | exact wpAny_bind out
    | true =>
      refine codeAny_handlers_suite_as (HandSPX.lands_againZ fl5 fun h4 fl4 up4 => ?_)
      have J4 : Inv X pins σ2 H2 { s2 with heap := h4 } := J.landed nb fl4.1 (((up.trans up3).trans up5).trans up4) os ag
      obtain ⟨oe4, vs4, he4, hz4, hd4⟩ := fl4.there
      have S4 := J4.suite he4 hd4 na nL nF
      refine store_ok (X := X.suite a ((a, oe4) :: (X.pn ++ pins))) (v := .ref a) S4 hN hi locn rfl (fun s5 S5 => ?_) (.inr hln)
      refine wpAny_mono ((hsu a oe4 cls d (X.pn ++ pins) hz4 ⟨_, hd4⟩).run [] s5 _ H2 _ S5 (yes rfl a na)) (fun f s6 hsp => ?_) (fun _ _ z => False.elim z)
      have fin : ∀ {σ6 : L2.St} {H6 : Hp} {Q : Shared → Prop}, Inv (X.suite a ((a, oe4) :: (X.pn ++ pins))) [] σ6 H6 s6 → (H6 a = none → ∀ s7, Inv X pins (σ6.set i none) (upd H6 a (exH cls d a)) s7 → Q s7) →
          wpAny (model X.prog X.w) X.A (do bindName X.env n .none; unbindBehindTheSuite X.env n pos2) (fun _ s7 => Q s7) X.xe s6 := fun {σ6 H6 Q} S6 hq => by
        obtain ⟨e1, e2, e3, e4, e5⟩ := S6.pin (a, oe4) (List.mem_append_left _ List.mem_cons_self)
        exact gone_ok (hold (S6.unsuite okX) new0 e2 e1 hz4 hd4 offPins nL) hN hi hln fun s7 J7 => hq e2 s7 J7
      cases f with
      | next =>
        obtain ⟨σ6, H6, S6, q6⟩ := hsp
        exact fin S6 fun n6 s7 J7 => ⟨_, _, J7, q6 n6⟩
      | brk =>
        obtain ⟨σ6, H6, S6, q6⟩ := hsp
        exact fin S6 fun n6 s7 J7 => ⟨_, _, J7, q6 n6⟩
      | cont =>
        obtain ⟨σ6, H6, S6, q6⟩ := hsp
        exact fin S6 fun n6 s7 J7 => ⟨_, _, J7, q6 n6⟩
      | ret u =>
        obtain ⟨v6, σ6, H6, S6, r6, q6⟩ := hsp
        exact fin S6 fun n6 s7 J7 => ⟨_, _, _, J7, r6, q6 n6⟩
  · cases f with
    | next =>
      obtain ⟨σ2, H2, J2, q⟩ := hsp
      exact wpAny_execs_nil ⟨σ2, H2, J2.ofTry okX, q⟩
    | brk =>
      obtain ⟨σ2, H2, J2, q⟩ := hsp
      exact ⟨σ2, H2, J2.ofTry okX, q⟩
    | cont =>
      obtain ⟨σ2, H2, J2, q⟩ := hsp
      exact ⟨σ2, H2, J2.ofTry okX, q⟩
    | ret u =>
      obtain ⟨v, σ2, H2, J2, r, q⟩ := hsp
      exact ⟨v, σ2, H2, J2.ofTry okX, r, q⟩
end
end L2.Sl

set_option Elab.async false
set_option linter.all false
set_option maxRecDepth 100000
set_option maxHeartbeats 4000000
namespace L2.Sl
open PySem PySem.W PySem.Calls PyProof.Rows PySem.Spec SlX
/-- an exception that is made, its context not told -/
theorem pmk_down {X : Cx} {e : Expr} {t : L2.St → Hp → XK → Prop} (h : L2N.PMk X e t) : L2.PMk X e t := fun pins s σ H Q I ht =>
  wpAny_mono (h pins s σ H Q I ht) (fun u s2 hu => by
    obtain ⟨a, oe, vs, sI, H2, cls, d, e1, J, k, hne, ha, hz, rest⟩ := hu
    exact ⟨a, oe, vs, sI, H2, cls, d, e1, J, k, hne, ha, hz.zc, rest⟩) fun _ _ z => z
end L2.Sl

set_option Elab.async false
set_option linter.all false
set_option maxRecDepth 100000
set_option maxHeartbeats 4000000
namespace L2.Sl
open PySem PySem.W PySem.Calls PyProof.Rows PySem.Spec SlX
/-- what a def may let out, told by the caller -/
def WD (E : XK) : WX := fun cls d _ H => E cls d H
section
variable {P : Program} {w : World} {K : PySem.W.Frag} {mg : Str → Option Value} {base : Heap}
/-- a def that may raise, the exception's context not told -/
theorem okX {x qual : Str} {st : Stmt} {f : Addr} {fd : FuncData} {N ps : List Str} {k : Nat} {sp : Sp} (F : Fun K x qual st f fd) (S : FnScope N ps (defScope st)) (len : ∀ vs H Q E, sp vs H Q E → vs.length = ps.length)
    (bodyOk : ∀ (cdv : Value) (A : Around) (outer : List Env) (s : Shared) (H : Hp) (vs : List V) (Q : VK) (E : XK), Room k (A.deeper (envOfC qual (defScope st) s.heap.objs.size f cdv)) → sp vs H Q E →
      L2.Takes (cxOf (L2.CX P w) P w K mg base N qual (defScope st) f cdv A outer s H E) (WD E) →
      ∃ t, PSs (cxOf (L2.CX P w) P w K mg base N qual (defScope st) f cdv A outer s H E) (defBody st) t ∧ t { nx := fun _ H2 => Q .non H2, rt := Q } (start N vs) H) : FnOk P w K mg base (L2.CX P w) (k + 1) f fd ps sp := by
  obtain ⟨oc, od, kV, doc, pm, an, cdv, ct, osl, rfl, lk, hcd⟩ := F.ex
  exact fn_of lk hcd S len fun A outer s H vs Q E hr hsp => bodyOk cdv A outer s H vs Q E hr hsp (L2.takes_of rfl rfl rfl rfl)
/-- where it raises nothing -/
theorem FnOk.quiet {k : Nat} {f : Addr} {fd : FuncData} {ps : List Str} {sp : Sp} (F : FnOk P w K mg base (L2.CX P w) k f fd ps sp) : FnOk P w K mg base CX0 k f fd ps (fun vs H Q _ => sp vs H Q fun _ _ _ => False) := by
  refine ⟨fun vs H Q E h => F.len vs H Q _ h, fun A outer s H args us vs Q E hr e0 hb r h => ?_⟩
  refine codeAny_mono (F.run A outer s H args us vs Q (fun _ _ _ => False) hr e0 hb r h) fun r s2 hq => ?_
  cases r with
  | error e =>
    obtain ⟨_, _, _, _, _, _, _, _, _, _, _, _, z⟩ := hq
    exact z.elim
  | ok fl => cases fl <;> exact hq
/-- a promise that follows -/
theorem FnOk.to {CX : CXT} {k : Nat} {f : Addr} {fd : FuncData} {ps : List Str} {sp sp2 : Sp} (F : FnOk P w K mg base CX k f fd ps sp) (h : ∀ vs H Q E, sp2 vs H Q E → sp vs H Q E) : FnOk P w K mg base CX k f fd ps sp2 :=
  ⟨fun vs H Q E z => F.len vs H Q E (h vs H Q E z), fun A outer s H args us vs Q E hr e0 hb r z => F.run A outer s H args us vs Q E hr e0 hb r (h vs H Q E z)⟩
end
section
variable {X : Cx} {CX : CXT} {k : Nat} {f : Addr} {fd : FuncData} {ps ks : List Str} {sp : Sp} {E : XK} {x : Str} {p pos : Pos} {kws : List Keyword} {tk : TA} {g : List Value → List Value → List Value} {gV : List V → List V → List V}
/-- what may leave a call leaves the def -/
theorem passD {E : XK} (tk : L2.Takes X (WD E)) : Passes (L2.CX X.prog X.w) X E := L2.passes_call tk (fun _ _ _ _ h => h)
/-- f(k = v, ..) -/
theorem pe_callKw (F : FnOk X.prog X.w X.K X.mg X.base CX k f fd ps sp) (hr : Room k X.A) (hg : Gl X x) (hm : X.mg x = some (.ref f)) (hk : PySem.W.keepIn X.K (.ref f) = true) (hb : KBn X.K fd ps 0 ks g gV) (hx : Passes CX X E) (hkw : PK X kws tk)
    (hall : (backToKw pos (keywordEach kws X.env)).all (·.1.isSome) = true := by rfl) (hks : (backToKw pos (keywordEach kws X.env)).filterMap (·.1) = ks := by rfl) (hdb : (x == ("__debug__" : Str)) = false := by decide)
    (hpl : ((backTo pos (starEach [] X.env)).any (·.1) || (backToKw pos (keywordEach kws X.env)).any (·.1.isNone)) = false := by rfl) :
    PE X (.Call (.Name x p) [] kws pos) (fun σ H Q => tk σ H fun zs H2 => zs.length = ks.length ∧ sp (gV [] zs) H2 Q E) := by
  refine ⟨fun pins s σ H Q I h => ?_⟩
  refine wpAny_Call_Name_kw (ld_glob I hg hm ?_ hdb)
  refine PySem.W.callWith_KW0 (h₀ := X.base) I.ok.mod.kin hk hall ?_ hpl
  refine thn (hkw.run pos pins s σ H _ I h) fun ws s2 ⟨zs, H2, I2, rz, l2, q2⟩ => ⟨I2.kIn, ?_⟩
  rw [hks]
  have r2 := hb.rel (vs := []) (us := []) .nil rz
  have hl : (g [] ws).length = ps.length := by rw [← r2.length]; exact F.len _ _ _ _ q2
  refine wpAny_call (codeAny_mono (F.run X.A X.stack s2 H2 ⟨[], ks.zip ws⟩ (g [] ws) (gV [] zs) Q E hr I2.env0 (hb.to s2 [] ws I2.kIn rfl (rz.length.symm.trans l2)) r2 q2) fun r s3 hq => ?_)
  cases r with
  | error e => exact hx pins σ H2 s2 e s3 I2 hq
  | ok fl =>
    cases fl with
    | ret u => exact I2.after hq
    | next => exact False.elim hq
    | brk => exact False.elim hq
    | cont => exact False.elim hq
end
def swV1 : List V → List V
  | [a, b] => [b, a]
  | l => l
def swU1 : List Value → List Value
  | [a, b] => [b, a]
  | l => l
theorem Vals.sw {vs : List V} {us : List Value} (r : Vals vs us) : Vals (swV1 vs) (swU1 us) := by
  cases r with
  | nil => exact .nil
  | cons h1 r1 =>
    cases r1 with
    | nil => exact .cons h1 .nil
    | cons h2 r2 =>
      cases r2 with
      | nil => exact .cons h2 (.cons h1 .nil)
      | cons h3 r3 => exact .cons h1 (.cons h2 (.cons h3 r3))
abbrev swV : List V → List V → List V := fun _ vs => swV1 vs
abbrev swU : List Value → List Value → List Value := fun _ us => swU1 us
end L2.Sl

set_option Elab.async false
set_option linter.all false
set_option maxRecDepth 100000
set_option maxHeartbeats 4000000
namespace L2.Sl
open PySem PySem.Spec PyProof.Rows
/-! ### a def whose code object is told -/
structure FunC (K : PySem.W.Frag) (x qual : Str) (st : Stmt) (f : Addr) (fd : FuncData) (c : Addr) : Prop where
  ex : ∃ (oc : Value) (od : Option Addr) (kV doc pm : Value) (an : Option Addr) (ct : Value) (osl : Array (Option Value)), fd = PySem.W.fnOf x qual (defArgs st) (defBody st) (defScope st) .none kV doc pm an (.ref c) ct ∧ K.lookup f = some ⟨oc, od, .func fd, osl⟩ ∧ PySem.W.codeIn K (.ref c) qual = true
  kp : PySem.W.keepIn K (.ref f) = true
section
variable {P : Program} {w : World} {K : PySem.W.Frag} {mg : Str → Option Value} {base : Heap} {x qual : Str} {st : Stmt} {f c : Addr} {fd : FuncData}
theorem FunC.fun (F : FunC K x qual st f fd c) : Fun K x qual st f fd := by
  obtain ⟨oc, od, kV, doc, pm, an, ct, osl, e, l, q⟩ := F.ex
  exact ⟨⟨oc, od, kV, doc, pm, an, .ref c, ct, osl, e, l, q⟩, F.kp⟩
theorem FunC.ok {N ps : List Str} {k : Nat} {sp : Sp} (F : FunC K x qual st f fd c) (S : FnScope N ps (defScope st)) (len : ∀ vs H Q E, sp vs H Q E → vs.length = ps.length)
    (bodyOk : ∀ (A : Around) (outer : List Env) (s : Shared) (H : Hp) (vs : List V) (Q : VK) (E : XK), Room k (A.deeper (envOfC qual (defScope st) s.heap.objs.size f (.ref c))) → sp vs H Q E →
      ∃ t, PSs (cxOf CX0 P w K mg base N qual (defScope st) f (.ref c) A outer s H E).nox (defBody st) t ∧ t { nx := fun _ H2 => Q .non H2, rt := Q } (start N vs) H) : FnOk P w K mg base CX0 (k + 1) f fd ps sp := by
  obtain ⟨oc, od, kV, doc, pm, an, ct, osl, rfl, lk, hcd⟩ := F.ex
  refine fn_of lk hcd S len fun A outer s H vs Q E hr z => ?_
  obtain ⟨t, y, q⟩ := bodyOk A outer s H vs Q E hr z
  exact ⟨t, y.nox, q⟩
theorem funC_of {p : Str × Option Str} (F : FunD K x qual (defArgs st) (defBody st) (defScope st) [] [] (He.fAd K p) fd) : FunC K x qual st (He.fAd K p) fd (He.codeOf K p) := by
  obtain ⟨⟨oc, od, dV, kV, doc, pm, an, cdv, ct, osl, rfl, lk, hcd, hD, _⟩, kp⟩ := F
  obtain ⟨c, rfl⟩ := He.codeIn_ref hcd
  have e := He.codeOf_eq lk rfl
  rcases hD with ⟨_, rfl⟩ | ⟨n, _⟩
  · rw [e]
    exact ⟨⟨oc, od, kV, doc, pm, an, ct, osl, rfl, lk, hcd⟩, kp⟩
  · exact absurd rfl n
end
/-! ### the law's call with tables of code objects, its promise held where nothing is being shown -/
def isTab (H : Hp) (l : List Addr) : Prop := ∀ b ∈ l, H b = some (.tbl #[])
theorem top_callT {P : Program} {w : World} {K : PySem.W.Frag} {mg mb : Str → Option Value} {CX : CXT} {k : Nat} {fa a : Addr} {cs : List (Addr × Addr)} {fd : FuncData} {x : Str} {sp : Sp} {s₁ : Shared} {vs : List Value} {ns : List Int}
    (KIn : K.In s₁.heap) (nsM : s₁.heap.Ns mainGlobals mg) (nsB : s₁.heap.Ns builtinsNs mb) (bb : ∀ x : Str, x ≠ "__name__" → mb x = bootBuiltins x) (lim : s₁.heap.NoLimit) (gens0 : s₁.gens = #[])
    (emp : ∀ p ∈ cs, s₁.heap.get? p.2 = some { cls := .none, data := .fields #[] }) (off : ∀ p ∈ cs, K.lookup p.2 = none) (cod : ∀ p ∈ cs, PySem.W.CodeHd s₁.heap p.1 p.2)
    (bmn : ∃ (m : Addr) (om : Obj), mg "__builtins__" = some (.ref m) ∧ m ≠ builtinsNs ∧ s₁.heap.get? m = some om ∧ om.cls = .type "module" ∧ om.dict = some builtinsNs ∧ om.data = .plain)
    (atA : s₁.heap.get? a = some { cls := .type "list", data := .seq vs.toArray }) (hints : IntsAre vs ns) (sz : ns.length ≤ sizeLine) (room : Room k callerA)
    (F : ∀ base : Heap, K.In base → base.Ns mainGlobals mg → (∀ p ∈ cs, LamX.TabB base mg p.1 p.2) → FnG P w K mg base CX k fa fd [x] sp) (bind : ∀ (s : Shared) (u : Value), BindsTo s fd ⟨[u], []⟩ [(x, u)])
    (hsp : ∀ H : Hp, isTab H (cs.map (·.2)) → SqL K H a (ns.map V.int) → sp [.ref a] H (fun v _ => v = .bl true) fun _ _ _ => False) (noX : ∀ H e s2, CX [] H s₁ (fun _ _ _ => False) e s2 → False) :
    codeAny (model P w) callerA (.call (.ref fa) ⟨[.ref a], []⟩) (fun r s2 => r = .ok (.ret (.bool true)) ∧ OldK s₁.heap s2.heap ∧ s2.os = s₁.os ∧ AllBare s2.gens) s₁ := by
  have rvs := vals_ints hints
  have lv := hints.length
  obtain ⟨l, el⟩ : ∃ l : List Addr, l = cs.map (·.2) := ⟨_, rfl⟩
  rw [← el] at hsp
  have inl : ∀ p ∈ cs, p.2 ∈ l := fun p hp => by rw [el]; exact List.mem_map.mpr ⟨p, hp, rfl⟩
  have tabs : ∀ b ∈ l, s₁.heap.get? b = some { cls := .none, data := .fields #[] } := fun b hb => by
    rw [el] at hb
    obtain ⟨p, hp, e⟩ := List.mem_map.mp hb
    exact e ▸ emp p hp
  have offl : ∀ b ∈ l, K.lookup b = none := fun b hb => by
    rw [el] at hb
    obtain ⟨p, hp, e⟩ := List.mem_map.mp hb
    exact e ▸ off p hp
  have naT : a ∉ l := fun hb => by
    have q := tabs a hb
    rw [atA] at q
    have z : Data.seq vs.toArray _ = Data.fields #[] := congrArg Obj.data (Option.some.inj q)
    cases z
  have main : ∀ H : Hp, isTab H l → (∀ b, H b = none ∨ b ∈ l ∨ ∃ o xs, H b = some (.frz o (.lst xs))) → SqL K H a (ns.map V.int) → HOk P w H s₁.heap → (∀ b, H b ≠ none → b = a ∨ b ∈ l) → (H a ≠ none → K.lookup a = none) →
      codeAny (model P w) callerA (.call (.ref fa) ⟨[.ref a], []⟩) (fun r s2 => r = .ok (.ret (.bool true)) ∧ OldK s₁.heap s2.heap ∧ s2.os = s₁.os ∧ AllBare s2.gens) s₁ := by
    intro H isT only hS ok onlyA notK
    have lay : ∀ {b : Addr} {o : Obj}, s₁.heap.get? b = some o → H b = none → (hidT s₁.heap H).get? b = some o := fun e n => hidT_get e n
    -- what is neither the script nor an empty table is not tracked
    have untr : ∀ {b : Addr} {o : Obj}, s₁.heap.get? b = some o → (∀ us n, o.data ≠ .seq us n) → o.data ≠ .fields #[] → H b = none := fun {b o} e h1 h2 => by
      cases q : H b with
      | none => rfl
      | some u =>
        rcases onlyA b (by rw [q]; simp) with z | z
        · rw [z, atA] at e
          cases e
          exact absurd rfl (h1 _ _)
        · rw [tabs b z] at e
          cases e
          exact absurd rfl h2
    have dictFree : ∀ {b : Addr} {o : Obj} {es : Array DictEntry} {ep : Nat}, s₁.heap.get? b = some o → o.data = .dict es ep → H b = none := fun {b o es ep} e d => untr e (fun us n z => by rw [d] at z; cases z) (fun z => by rw [d] at z; cases z)
    have nsOf : ∀ {b : Addr} {m : Str → Option Value}, s₁.heap.Ns b m → (hidT s₁.heap H).Ns b m := fun {b m} ⟨o, es, ep, e, d, r⟩ => ⟨o, es, ep, lay e (dictFree e d), d, r⟩
    have KB : K.In (hidT s₁.heap H) := fun b o e => lay (KIn b o e) (by
      cases q : H b with
      | none => rfl
      | some u =>
        rcases onlyA b (by rw [q]; simp) with z | z
        · rw [z, notK (by rw [← z, q]; simp)] at e
          cases e
        · rw [offl b z] at e
          cases e)
    obtain ⟨mc, lim1, lim2⟩ := lim
    have MB : Mod K mg (hidT s₁.heap H) := ⟨KB, nsOf nsM, ⟨mb, nsOf nsB, bb⟩, ⟨mc, nsOf lim1, lim2⟩⟩
    have notM : ∀ p ∈ cs, mainGlobals ≠ p.2 := fun p hp z => by
      obtain ⟨o, es, ep, e, d, _⟩ := nsM
      rw [z, emp p hp] at e
      cases e
      cases d
    have TB : ∀ p ∈ cs, LamX.TabB (hidT s₁.heap H) mg p.1 p.2 := fun p hp => by
      refine ⟨?_, ?_, notM p hp⟩
      · obtain ⟨o, us, file, tf, flags, tg, inF, text, tt, e1, r1, r2, r3, r4⟩ := cod p hp
        refine ⟨o, us, file, tf, flags, tg, inF, text, tt, lay e1 (untr e1 (fun vs n z => by rw [r2] at z; cases z) fun z => ?_), r1, r2, r3, r4⟩
        rw [r2] at z
        cases z
        simp at r3
      · obtain ⟨m, om, b1, b2, b3, b4, b5, b6⟩ := bmn
        refine ⟨m, om, b1, b2, fun q => ?_, fun q => ?_, lay b3 (untr b3 (fun vs n z => by rw [b6] at z; cases z) fun z => by rw [b6] at z; cases z), b4, b5, b6⟩
        · obtain ⟨o, es, ep, e, d, _⟩ := nsM
          rw [q, e] at b3
          cases b3
          rw [d] at b6
          cases b6
        · rw [q, emp p hp] at b3
          cases b3
          cases b6
    have en : Env0 P w K mg (hidT s₁.heap H) callerA [] s₁ H := ⟨rfl, MB, fun b o e => of_hidT e, Nat.le_of_eq (hidT_size _ _), trivial, (fun b hb => absurd (show b ∈ ([] : List Addr) from hb) (by simp)), ok, .of_eq gens0⟩
    refine codeAny_mono ((F _ KB (nsOf nsM) TB).run callerA [] s₁ H ⟨[.ref a], []⟩ [.ref a] [.ref a] _ _ rfl room en (bind s₁ (.ref a)) (.cons rfl .nil) (hsp H isT hS)) fun r s2 h => ?_
    rcases r with e | fl
    · exact (noX H e s2 h).elim
    · cases fl with
      | next => exact (h : False).elim
      | brk => exact (h : False).elim
      | cont => exact (h : False).elim
      | ret u =>
        obtain ⟨v, H2, os, bare, un, ok2, r, rfl⟩ := h
        obtain rfl : u = Value.bool true := r
        have stay : ∀ b o, b ∉ l → s₁.heap.get? b = some o → s2.heap.get? b = some o := fun b o nb e => by
          cases q : H b with
          | none => exact un.keep b o e q (fun z => nomatch z) (by simp)
          | some u =>
            rcases only b with z | z | ⟨ob, xs, z⟩
            · rw [q] at z
              cases z
            · exact absurd z nb
            · obtain ⟨e1, _⟩ := ok b _ z
              obtain ⟨e2, _⟩ := ok2 b _ (un.frzs b ob _ z)
              rw [e] at e1
              cases e1
              exact e2
        have more : ∀ b ∈ l, ∃ es : Array Value, s2.heap.get? b = some { cls := .none, data := .fields es } := fun b hb => by
          obtain ⟨es, z⟩ := un.tbls b #[] (isT b hb)
          exact ⟨_, ok2 b _ z⟩
        refine ⟨rfl, ⟨fun b o e => ?_, fun b o e => ?_⟩, os, bare⟩
        · by_cases hb : b ∈ l
          · obtain ⟨es, he⟩ := more b hb
            have hb2 := hb
            rw [el] at hb2
            obtain ⟨p, hp, rfl⟩ := List.mem_map.mp hb2
            rw [emp p hp] at e
            cases e
            exact .inr (.inl ⟨((cod p hp).tab (emp p hp)).isCodeTable, rfl, #[], es, rfl, by rw [Array.empty_append]; exact he⟩)
          · exact .inl (stay b o hb e)
        · by_cases hb : b ∈ l
          · obtain ⟨es, he⟩ := more b hb
            exact ⟨_, he⟩
          · exact ⟨o, stay b o hb e⟩
  have tabOk : ∀ b ∈ l, ∀ H, ObjOk P w H s₁.heap b (.tbl #[]) := fun b hb H => tabs b hb
  cases hk : K.lookup a with
  | some o =>
    have e := KIn a o hk
    rw [atA] at e
    cases e
    obtain ⟨H, hH⟩ : ∃ H : Hp, H = fun b => if b ∈ l then some (.tbl #[]) else none := ⟨_, rfl⟩
    have t1 : ∀ {b}, b ∈ l → H b = some (.tbl #[]) := fun {b} z => by rw [hH]; exact if_pos z
    have t2 : ∀ {b}, b ∉ l → H b = none := fun {b} z => by rw [hH]; exact if_neg z
    refine main H (fun b hb => t1 hb) (fun b => ?_) (.inr ⟨_, vs.toArray, _, hk, rfl, rfl, rfl, by rw [List.size_toArray, lv]; exact sz, by simpa using rvs⟩) (fun b u z => ?_) (fun b z => ?_) fun z => absurd (t2 naT) z
    · by_cases hb : b ∈ l
      · exact .inr (.inl hb)
      · exact .inl (t2 hb)
    · by_cases hb : b ∈ l
      · rw [t1 hb] at z
        cases z
        exact tabOk b hb H
      · rw [t2 hb] at z
        cases z
    · by_cases hb : b ∈ l
      · exact .inr hb
      · exact absurd (t2 hb) z
  | none =>
    obtain ⟨H, hH⟩ : ∃ H : Hp, H = fun b => if b = a then some (.frz { cls := .type "list", data := .seq vs.toArray } (.lst (ns.map V.int))) else if b ∈ l then some (.tbl #[]) else none := ⟨_, rfl⟩
    have h1 : H a = some (.frz { cls := .type "list", data := .seq vs.toArray } (.lst (ns.map V.int))) := by rw [hH]; exact if_pos rfl
    have t1 : ∀ {b}, b ∈ l → H b = some (.tbl #[]) := fun {b} z => by rw [hH]; exact (if_neg (fun y : b = a => naT (y ▸ z))).trans (if_pos z)
    have t2 : ∀ {b}, b ≠ a → b ∉ l → H b = none := fun {b} y z => by rw [hH]; exact (if_neg y).trans (if_neg z)
    refine main H (fun b hb => t1 hb) (fun b => ?_) (.inl (.inr ⟨_, h1⟩)) (fun b u z => ?_) (fun b z => ?_) fun _ => hk
    · by_cases hb : b = a
      · exact .inr (.inr ⟨_, _, by rw [hb]; exact h1⟩)
      · by_cases hb2 : b ∈ l
        · exact .inr (.inl hb2)
        · exact .inl (t2 hb hb2)
    · by_cases hb : b = a
      · subst hb
        rw [h1] at z
        cases z
        exact ⟨atA, by rw [List.length_map]; exact sz, vs, _, rvs, atA⟩
      · by_cases hb2 : b ∈ l
        · rw [t1 hb2] at z
          cases z
          exact tabOk b hb2 H
        · rw [t2 hb hb2] at z
          cases z
    · by_cases hb : b = a
      · exact .inl hb
      · by_cases hb2 : b ∈ l
        · exact .inr hb2
        · exact absurd (t2 hb hb2) z
/-- what is known of the law's promise at the head's heap -/
def TopAt (l : PySem.W.OpenLaw) (w : World) (K : PySem.W.Frag) (CX : CXT) (k n : Nat) (x : Str) (mg : Str → Option Value) (fa : Addr) (h : Heap) : Prop :=
  ∃ (fd : FuncData) (cs : List (Addr × Addr)) (sp : Sp), (∀ p ∈ cs, h.get? p.2 = some { cls := .none, data := .fields #[] } ∧ K.lookup p.2 = none ∧ PySem.W.CodeHd h p.1 p.2) ∧ (∀ (s : Shared) (u : Value), BindsTo s fd ⟨[u], []⟩ [(x, u)]) ∧
    (∀ (H : Hp) (a : Addr) (ns : List Int), ns.length ≤ n → isTab H (cs.map (·.2)) → SqL K H a (ns.map V.int) → sp [.ref a] H (fun v _ => v = .bl true) fun _ _ _ => False) ∧
    ∀ base : Heap, K.In base → base.Ns mainGlobals mg → (∀ p ∈ cs, LamX.TabB base mg p.1 p.2) → FnG l.prog w K mg base CX k fa fd [x] sp
theorem walk_GT {l : PySem.W.OpenLaw} {n k : Nat} {q : Program} {loose : List Str} {XP : (Str → Option Value) → Heap → Prop} {YP : World → Heap → Prop} {d : DefRec} {CX : World → CXT} {x : Str}
    (hn : l.most = some n) (hn2 : n ≤ sizeLine) (hdf : d.params.defaults = []) (hr : Room k callerA)
    (F : ∀ (w : World) (mg : Str → Option Value) (fa : Addr) (h : Heap), YP w h → h.Ns mainGlobals mg → mg d.name = some (.ref fa) → ∃ K : PySem.W.Frag, K.In h ∧ TopAt l w K (CX w) k n x mg fa h)
    (noX : ∀ (w : World) (H : Hp) (s : Shared) (e : Value) (s2 : Shared), CX w [] H s (fun _ _ _ => False) e s2 → False) : PySem.W.WalkO q loose XP YP l.row.toRowW d [] (fun f vs => PySem.call f vs) :=
  Att.attach_callB hn hdf fun w s₀ s₁ mg mb fa o pm cd doc a vs ns G Y ho hd hcd hmg hobj hints hlen hbits hg => by
    obtain ⟨K, KIn, fd, cs, sp, hT, hb, hsp, hF⟩ := F w mg fa _ Y G.T.g hmg
    exact top_callT KIn G.T.g G.T.b G.T.builtins G.T.nolimit hg (fun p hp => (hT p hp).1) (fun p hp => (hT p hp).2.1) (fun p hp => (hT p hp).2.2) G.T.bmain hobj hints (Nat.le_trans hlen hn2) hr hF hb (fun H hH hS => hsp H a ns hlen hH hS) fun H e s2 => noX w H s₁ e s2
end L2.Sl

set_option Elab.async false
set_option linter.all false
set_option maxRecDepth 100000
set_option maxHeartbeats 4000000
namespace L2.Sl
open PySem PySem.W PySem.Spec PyProof.Rows SlX
/-! ### exception classes of the written part, by one look -/
inductive B3 where
  | val | look | arith
def B3.name : B3 → String
  | .val => "ValueError"
  | .look => "LookupError"
  | .arith => "ArithmeticError"
def B3.bm (b : B3) : List Value := [.type b.name, .type "Exception", .type "BaseException", .type "object"]
def B3.new : B3 → String
  | .val => "ValueError.__new__"
  | .look => "LookupError.__new__"
  | .arith => "ArithmeticError.__new__"
theorem xat_of {K : Frag} {C : Addr} {bmB : List Value} {newId : String} (q : excInitIn K C bmB newId = true) (hd : hasDictIn K C = true) :
    ∃ nm qn N bs bm sn sub ab col dd k0 k1 k2 k3 k5, K.lookup C = some (excClassObj nm qn C N bs bm true sn sub ab col dd k0 k1 k2 k3 k5 newId) ∧ excTail bmB bm = true := by
  unfold hasDictIn clsIn at hd
  unfold excInitIn at q
  split at q
  · rename_i od cd sl el
    rw [el] at hd
    have dict : cd.hasDict = true := by simpa using hd
    split at q
    · rename_i C2 bm2 a0 a1 a2 a3 nid a5 em es
      simp only [beq_iff_eq, Bool.and_eq_true, Bool.not_eq_true'] at q
      obtain ⟨⟨⟨eC, en⟩, del⟩, tl⟩ := q
      obtain ⟨c1, c2, c3, c4, c5, c6, c7, c8, c9, c10, c11⟩ := cd
      dsimp only at em del dict
      have sle : sl = #[a0, a1, a2, a3, some (.builtin nid), a5] := by
        obtain ⟨l⟩ := sl
        dsimp only at es
        rw [es]
      subst em del dict sle eC en
      exact ⟨c1, _, c4, c2, bm2, _, _, _, _, od, a0, a1, a2, a3, a5, el, tl⟩
    · cases q
  · cases q
def okX11 (K : Frag) (C f : Addr) (fs : List Str) : Bool :=
  decide (findIn K (.ref C) "__setattr__" = some (some (.builtin "object.__setattr__"))) && (decide (findIn K (.ref C) "__getattribute__" = some (some (.builtin "BaseException.__getattribute__"))) && (decide (findIn K (.ref C) "__getattr__" = some none) &&
  (fs.all (fun x => decide (findIn K (.ref C) x = some none)) && (decide (typeIn K (.ref f) = some (.type "function")) && (keepIn K (.ref C) && (decide (subIn K (.ref C) (.type "BaseException") = some true) && (decide (typeIn K (.ref C) = some (.type "type")) && (hasDictIn K C &&
  (decide (findIn K (.ref C) "__class__" = some (some (.builtin "object.__class__"))) && decide (mroIn K C (.type "object") = some true))))))))))
/-- the class x over the built-in one, its __init__ storing fs -/
def ecB (K : Frag) (x : Str) (b : B3) (fs : List Str) : Bool := excInitIn K (He.ga K x) b.bm b.new && (decide (findIn K (.ref (He.ga K x)) "__init__" = some (some (.ref (He.ma K (He.ga K x) "__init__")))) && okX11 K (He.ga K x) (He.ma K (He.ga K x) "__init__") fs)
/-- what isinstance wants of built-in descriptors -/
def descB (K : Frag) : Bool := decide (specialIn K (.builtin "object.__class__") "__get__" = some (some (.builtin "getset_descriptor.__get__"))) && decide (takesIn K (.builtin "object.__class__") = some true)
theorem two {a b : Bool} (h : (a && b) = true) : a = true ∧ b = true := He.ba h
theorem ec_of {K : Frag} {x qual : Str} {b : B3} {st : Stmt} {fs : List Str} {fd : FuncData} (h : ecB K x b fs = true) (dB : descB K = true) (F : FunD K "__init__" qual (defArgs st) (defBody st) (defScope st) [] [] (He.fAd K (x, some "__init__")) fd) :
    EC K (He.ga K x) (He.ma K (He.ga K x) "__init__") qual st fs ∧ ExR K (He.ga K x) := by
  obtain ⟨q, h⟩ := two h
  obtain ⟨hi, h⟩ := two h
  obtain ⟨h1, h⟩ := two h
  obtain ⟨h2, h⟩ := two h
  obtain ⟨h3, h⟩ := two h
  obtain ⟨h4, h⟩ := two h
  obtain ⟨h5, h⟩ := two h
  obtain ⟨h6, h⟩ := two h
  obtain ⟨h7, h⟩ := two h
  obtain ⟨h8, h⟩ := two h
  obtain ⟨h9, h⟩ := two h
  obtain ⟨h10, h11⟩ := two h
  obtain ⟨d1, d2⟩ := two dB
  obtain ⟨nm, qn, N, bs, bm, sn, sub, ab, col, dd, k0, k1, k2, k3, k5, lk, tl⟩ := xat_of q h9
  have G := funC_of F
  obtain ⟨oc, od, kV, doc, pm, an, ct, osl, rfl, l, cq⟩ := G.ex
  have o2 := of_decide_eq_true h2
  have o3 := of_decide_eq_true h3
  have o7 := of_decide_eq_true h7
  have o10 := of_decide_eq_true h10
  have o11 := of_decide_eq_true h11
  refine ⟨⟨?_, of_decide_eq_true h1, o2, o3, fun f hf => of_decide_eq_true (List.all_eq_true.mp h4 f hf), of_decide_eq_true hi, of_decide_eq_true h5, h6, o7, of_decide_eq_true h8, h9, oc, od, kV, doc, pm, an, _, ct, osl, l, cq⟩, ⟨o2, o3, o7, h9, o10, of_decide_eq_true d1, of_decide_eq_true d2, o11⟩⟩
  cases b with
  | val => exact ⟨_, _, _, _, nm, qn, N, bs, bm, sn, sub, ab, col, dd, k0, k1, k2, k3, k5, PySem.F.excBase_ValueError, PySem.F.store_ValueError, lk, tl⟩
  | look => exact ⟨_, _, _, _, nm, qn, N, bs, bm, sn, sub, ab, col, dd, k0, k1, k2, k3, k5, PySem.F.excBase_LookupError, PySem.F.store_LookupError, lk, tl⟩
  | arith => exact ⟨_, _, _, _, nm, qn, N, bs, bm, sn, sub, ab, col, dd, k0, k1, k2, k3, k5, PySem.F.excBase_ArithmeticError, PySem.F.store_ArithmeticError, lk, tl⟩
/-- a def of the text at the top -/
abbrev dTop (x : Str) (s : Stmt) : He.DefD := ⟨(x, none), x, x, defArgs s, defBody s, defScope s, [], []⟩
/-- a class's __init__ -/
abbrev dIni (x q : Str) (s : Stmt) : He.DefD := ⟨(x, some "__init__"), "__init__", q, defArgs s, defBody s, defScope s, [], []⟩
section
variable {fa : List He.Fa} {fn : List He.DefD} {ts : List He.Tab} {tf : List He.Defn} {ex : Frag → Bool} {w : World} {h : Heap} {K : Frag} {mg : Str → Option Value}
theorem says_def (c : He.SaysX fa fn ts tf ex w h K) (i : Nat) {x : Str} {s : Stmt} (e : fn[i]? = some (dTop x s) := by rfl) : ∃ fd, FunC K x x s (He.ga K x) fd (He.codeOf K (x, none)) := by
  obtain ⟨fd, F⟩ := c.t.d.def_ i e
  exact ⟨fd, funC_of (p := (x, none)) F⟩
theorem says_ini (c : He.SaysX fa fn ts tf ex w h K) (i : Nat) {x q : Str} {s : Stmt} (e : fn[i]? = some (dIni x q s) := by rfl) : ∃ fd, FunD K "__init__" q (defArgs s) (defBody s) (defScope s) [] [] (He.fAd K (x, some "__init__")) fd := c.t.d.def_ i e
theorem says_glo (X : K.In h) (G : h.Ns mainGlobals mg) (c : He.SaysX fa fn ts tf ex w h K) (i : Nat) {x : Str} (e : fa[i]? = some (.glo x) := by rfl) : mg x = some (.ref (He.ga K x)) := He.glo_ok X G (c.t.d.fact i e)
theorem says_free (X : K.In h) (G : h.Ns mainGlobals mg) (c : He.SaysX fa fn ts tf ex w h K) (i : Nat) {x : Str} (e : fa[i]? = some (.free x) := by rfl) : mg x = none := He.free_ok X G (c.t.d.fact i e)
theorem says_int (X : K.In h) (G : h.Ns mainGlobals mg) (c : He.SaysX fa fn ts tf ex w h K) (i : Nat) {x : Str} {n : Int} (e : fa[i]? = some (.int x n) := by rfl) : ∃ t, mg x = some (.int n t) := He.int_ok X G (c.t.d.fact i e)
theorem says_str (X : K.In h) (G : h.Ns mainGlobals mg) (c : He.SaysX fa fn ts tf ex w h K) (i : Nat) {x z : Str} (e : fa[i]? = some (.str x z) := by rfl) : ∃ t, mg x = some (.str z t) := He.str_ok X G (c.t.d.fact i e)
theorem says_tab (X : K.In h) (c : He.SaysX fa fn ts tf ex w h K) (p : Str × Option Str) (m : p ∈ tf) : h.get? (He.cT K p).2 = some { cls := .none, data := .fields #[] } ∧ K.lookup (He.cT K p).2 = none ∧ CodeHd h (He.cT K p).1 (He.cT K p).2 :=
  ⟨c.empty p m, c.out p m, codeHd_of_K X (c.hd p m)⟩
end
end L2.Sl

set_option Elab.async false
set_option linter.all false
set_option maxRecDepth 100000
set_option maxHeartbeats 4000000
namespace L2.K2
open PySem PySem.Spec PyProof.Rows L2.Sl
def topS (i : Nat) : Stmt := PySem.Challenge.pw_slotsure_k02_whole_fractions_and_names.main.body.getD i (.Pass ⟨0, 0, 0, 0⟩)
/-! ### what all is drawn by -/
/-- the dict of a draw: its great cells' list at gl, the mixed number, how many were drawn -/
def dr (gl : Addr) (z k : Int) : List (Key × V) := [(Sum.inr "great", .ref gl), (Sum.inr "small", .int z), (Sum.inr "at", .int k)]
structure Drw (H : Hp) (m gl : Addr) : Prop where
  d : ∃ z k, H m = some (.dK (dr gl z k))
  l : ∃ ns : List Int, H gl = some (.lst (ns.map V.int)) ∧ ns.length ≤ 63
  ne : m ≠ gl
/-- all but the draw's two objects is as it was -/
def But (m gl : Addr) (H H2 : Hp) : Prop := ∀ b o, b ≠ m → b ≠ gl → H b = some o → H2 b = some o
theorem But.refl {m gl : Addr} {H : Hp} : But m gl H H := fun _ _ _ _ e => e
theorem But.trans {m gl : Addr} {H H1 H2 : Hp} (a : But m gl H H1) (b : But m gl H1 H2) : But m gl H H2 := fun c o h1 h2 e => b c o h1 h2 (a c o h1 h2 e)
theorem But.same {m gl : Addr} {H H2 : Hp} (s : Same H H2) : But m gl H H2 := fun b o _ _ e => s b o e
def spBegun (K : PySem.W.Frag) : Sp := fun vs H Q _ => ∃ (a : Addr) (ns : List Int), vs = [.ref a] ∧ SqL K H a (ns.map V.int) ∧ ns.length ≤ 63 ∧ ∀ H2 m gl, Same H H2 → H m = none → H gl = none → Drw H2 m gl → Q (.ref m) H2
def spDraw : Sp := fun vs H Q _ => ∃ (m gl : Addr) (many : Int), vs = [.ref m, .int many] ∧ Drw H m gl ∧ 0 < many ∧ many < 18446744073709551616 ∧ ∀ H2 (r : Int), 0 ≤ r → r < many → Drw H2 m gl → But m gl H H2 → Q (.int r) H2
abbrev s_law_begun : Stmt := topS 23
abbrev N_law_begun : List Str := ["script", "m", "cell"]
theorem sc_law_begun : FnScope N_law_begun ["script"] (defScope s_law_begun) := ⟨rfl, rfl, rfl, by decide +kernel, rfl, by decide +kernel, by decide +kernel⟩
section
variable {P : Program} {w : World} {K : PySem.W.Frag} {mg : Str → Option Value} {base : Heap}
theorem same_new {H : Hp} {p : Addr} {o : HO} (h : H p = none) : Same H (upd H p o) := fun b x e => by
  rw [upd_ne (ne_of_none e h)]
  exact e
theorem same_in {H H2 : Hp} {p : Addr} {o : HO} (s : Same H H2) (h : H2 p = none) : Same H (upd H2 p o) := fun b x e => by
  have q := s b x e
  rw [upd_ne (ne_of_none q h)]
  exact q
theorem same_put {H H2 : Hp} {p : Addr} {o : HO} (s : Same H H2) (h : H p = none) : Same H (upd H2 p o) := fun b x e => by
  rw [upd_ne (ne_of_none e h)]
  exact s b x e
theorem ints_at {ns : List Int} {i : Nat} {x : V} (h : (ns.map V.int)[i]? = some x) : ∃ n, ns[i]? = some n ∧ x = V.int n := by
  rw [List.getElem?_map] at h
  cases e : ns[i]? with
  | none =>
    rw [e] at h
    cases h
  | some n =>
    rw [e] at h
    exact ⟨n, rfl, (Option.some.inj h).symm⟩
theorem get_small {H : Hp} {m gl : Addr} {z k : Int} (e : H m = some (.dK (dr gl z k))) : DGet H m (.str "small") (some (.int z)) := DGet.k (k := Sum.inr "small") e
theorem get_great {H : Hp} {m gl : Addr} {z k : Int} (e : H m = some (.dK (dr gl z k))) : DGet H m (.str "great") (some (.ref gl)) := DGet.k (k := Sum.inr "great") e
theorem get_at {H : Hp} {m gl : Addr} {z k : Int} (e : H m = some (.dK (dr gl z k))) : DGet H m (.str "at") (some (.int k)) := DGet.k (k := Sum.inr "at") e
theorem put_small {H : Hp} {m gl : Addr} {z k y : Int} (e : H m = some (.dK (dr gl z k))) : DPut H m (.str "small") (.int y) (upd H m (.dK (dr gl y k))) := DPut.k (k := Sum.inr "small") e (show 3 < sizeLine by decide)
theorem put_at {H : Hp} {m gl : Addr} {z k y : Int} (e : H m = some (.dK (dr gl z k))) : DPut H m (.str "at") (.int y) (upd H m (.dK (dr gl z y))) := DPut.k (k := Sum.inr "at") e (show 3 < sizeLine by decide)
theorem shaped_ints (ns : List Int) : SeqAt.shaped (.list (ns.map PyData.int)) = true := by
  have h1 : ∀ ns : List Int, PyData.canLayAll0 (ns.map PyData.int) = true := fun ns => by
    induction ns with
    | nil => rfl
    | cons n r ih => simp only [List.map_cons, PyData.canLayAll0, PyData.canLay0, ih, Bool.and_self]
  have h2 : ∀ ns : List Int, PyData.depthAll (ns.map PyData.int) = 0 := fun ns => by
    induction ns with
    | nil => rfl
    | cons n r ih => simp only [List.map_cons, PyData.depthAll, PyData.depth, ih, Nat.max_self]
  unfold SeqAt.shaped
  simp only [PyData.canLay0, PyData.depth, h1, h2]
  decide
abbrev primes : List V := [V.int 2147483647, V.int 2147483629, V.int 2147483587, V.int 2147483579, V.int 2147483563, V.int 2147483549, V.int 2147483543, V.int 2147483497]
theorem prime_at (k : Int) : ∃ p : Int, atI primes (k % 8) = some (.int p) ∧ 0 < p ∧ p ≤ 2147483647 := by
  have h0 := Int.emod_nonneg k (show (8 : Int) ≠ 0 by decide)
  have h1 := Int.emod_lt_of_pos k (show (0 : Int) < 8 by decide)
  obtain ⟨j, hj⟩ : ∃ j : Nat, k % 8 = (j : Int) := ⟨(k % 8).toNat, by omega⟩
  have hj8 : j < 8 := by omega
  match j, hj8, hj with
  | 0, _, e => exact ⟨_, at_of e rfl, by decide, by decide⟩
  | 1, _, e => exact ⟨_, at_of e rfl, by decide, by decide⟩
  | 2, _, e => exact ⟨_, at_of e rfl, by decide, by decide⟩
  | 3, _, e => exact ⟨_, at_of e rfl, by decide, by decide⟩
  | 4, _, e => exact ⟨_, at_of e rfl, by decide, by decide⟩
  | 5, _, e => exact ⟨_, at_of e rfl, by decide, by decide⟩
  | 6, _, e => exact ⟨_, at_of e rfl, by decide, by decide⟩
  | 7, _, e => exact ⟨_, at_of e rfl, by decide, by decide⟩
theorem ixN_nat {n j : Nat} (h : j < n) : ixN n (j : Int) = some j := by
  unfold ixN
  rw [if_pos (by omega), if_pos (by omega)]
  simp
theorem great_at (ns : List Int) (k : Int) (h : (0 : Int) < ((ns.map V.int).length : Int)) : ∃ (j : Nat) (c : Int), k % ((ns.map V.int).length : Int) = (j : Int) ∧ j < (ns.map V.int).length ∧ (ns.map V.int)[j]? = some (.int c) := by
  have h0 := Int.emod_nonneg k (show ((ns.map V.int).length : Int) ≠ 0 by omega)
  have h1 := Int.emod_lt_of_pos k h
  obtain ⟨j, hj⟩ : ∃ j : Nat, k % ((ns.map V.int).length : Int) = (j : Int) := ⟨(k % ((ns.map V.int).length : Int)).toNat, by omega⟩
  have hlt : j < (ns.map V.int).length := by omega
  have hl : j < ns.length := by rw [List.length_map] at hlt; exact hlt
  exact ⟨j, ns[j], hj, hlt, by rw [List.getElem?_map, List.getElem?_eq_getElem hl]; rfl⟩
theorem ok_begun {f : Addr} {fd : FuncData} {k : Nat} (F : Fun K "_law_begun" "_law_begun" s_law_begun f fd) : FnOk P w K mg base CX0 (k + 1) f fd ["script"] (spBegun K) := by
  refine F.ok sc_law_begun (fun vs H Q E h => ?_) (fun cdv A outer s H vs Q E hr h => ?_)
  · obtain ⟨a, ns, rfl, _⟩ := h
    rfl
  · obtain ⟨a, ns, rfl, hS, hlen, q⟩ := h
    have hu := hu_of hr
    refine ⟨_, (pss_cons (ps_set (i := 1) sc_law_begun.nd rfl (.inl rfl) (pe_disp (pps_cons pe_str (pe_lc (own := [("cell", 2)]) (by rfl) sc_law_begun.nd (pi_list (pv 0)) (blkOk_by (own := [("cell", 2)]) (N := N_law_begun) (sc := defScope s_law_begun) (by decide +kernel)) (fun _ _ _ _ _ => (pg_name (i := 2) sc_law_begun.nd rfl (.inl rfl))) (fun _ _ _ _ _ => (pts_one (pt_cmpR op_ge (pv 2) (pe_op op_pow pe_int pe_int) (nomark _)))) (fun _ _ _ _ _ => (pv 2))) (pps_cons pe_str pe_int (pps_cons pe_str pe_int pps_nil))) (by rfl) (by rfl) (fun z => by cases z) (by decide)))
      (pss_cons (ps_for PassesOwn.never rfl (pi_list (pv 0)) (pg_name (i := 2) sc_law_begun.nd rfl (.inl rfl))
        (pss_one (ps_if (pt_cmpR op_lt (pv 2) (pe_op op_pow pe_int pe_int) (nomark _))
          (pss_cons (ps_dput hu (pv 1) pe_str (pe_op op_add (pe_op op_add (pe_op op_mul (pe_dget hu (pv 1) pe_str (fun _ _ => rfl)) (pe_op op_pow pe_int pe_int)) (pe_op op_mod (pv 2) (pe_op op_pow pe_int pe_int))) pe_int) rfl)
          (pss_one (ps_dput hu (pv 1) pe_str (pe_op op_mod (pe_dget hu (pv 1) pe_str (fun _ _ => rfl)) (pe_op op_mul (pe_op op_sub (pe_op op_pow pe_int pe_int) pe_int) (pe_op op_sub (pe_op op_pow pe_int pe_int) pe_int))) rfl)))
          pss_nil)))
      (pss_one (ps_ret (pv 1))))), ?_⟩
    -- the dict
    intro m hm
    have s1 : Same H (upd H m (.dK [])) := same_new hm
    refine ⟨.ref a, rfl, a, rfl, ⟨_, s1.seq hS⟩, fun gl hgl => ?_⟩
    have nG : H gl = none := s1.free hgl
    have nmg : m ≠ gl := ne_of_none upd_same hgl
    refine lc_list (K := K) (a := a) (xs := ns.map V.int) (fun i H2 => Same H H2 ∧ H2 m = some (.dK []) ∧ ∃ ys : List Int, H2 gl = some (.lst (ys.map V.int)) ∧ ys.length ≤ i) ?_ (fun i H2 _ hp => hp.1.seq hS) ?_ ?_
    · exact ⟨same_in s1 hgl, by rw [upd_ne nmg, upd_same], [], upd_same, Nat.le_refl _⟩
    · rintro i x H2 hx ⟨s2, e2, ys, eg, ly⟩
      obtain ⟨n, hn, rfl⟩ : ∃ n, ns[i]? = some n ∧ x = V.int n := ints_at hx
      have li : i < 63 := Nat.lt_of_lt_of_le (List.getElem?_eq_some_iff.mp hn).1 hlen
      refine ⟨rfl, _, rfl, _, _, rfl, rfl, ⟨by decide, by decide, by decide⟩, _, _, rfl, rfl, _, rfl, ?_⟩
      refine ite2 (fun c => ⟨_, rfl, _, eg, ?_, same_put s2 nG, by rw [upd_ne nmg]; exact e2, ys ++ [n], ?_, ?_⟩) (fun c => ⟨s2, e2, ys, eg, Nat.le_succ_of_le ly⟩)
      · rw [List.length_map]
        exact Nat.lt_of_le_of_lt ly (Nat.lt_trans li (by decide))
      · rw [upd_same, List.map_append]
        rfl
      · rw [List.length_append]
        exact Nat.succ_le_succ ly
    · rintro H2 ⟨s2, e2, ys, eg, ly⟩
      rw [List.length_map] at ly
      refine ⟨e2, dr gl 0 0, rfl, (show 3 ≤ 15 by decide), ?_⟩
      rw [show mergeK [] (dr gl 0 0) = dr gl 0 0 from rfl]
      have s3 : Same H (upd H2 m (.dK (dr gl 0 0))) := same_put s2 hm
      refine ⟨.ref a, rfl, a, rfl, ⟨_, s3.seq hS⟩, for_list (K := K) (a := a) (xs := ns.map V.int) (fun i σ H3 => ∃ (c : Option V) (z : Int), σ = [some (.ref a), some (.ref m), c] ∧ Same H H3 ∧ H3 m = some (.dK (dr gl z 0)) ∧ H3 gl = some (.lst (ys.map V.int)))
        ⟨_, _, rfl, s3, upd_same, by rw [upd_ne nmg.symm]; exact eg⟩ (fun i σ H3 _ hp => by obtain ⟨_, _, _, s, _⟩ := hp; exact s.seq hS) ?_ ?_⟩
      · rintro i x σ H3 hx ⟨c, z, rfl, s4, em, el⟩
        obtain ⟨n, hn, rfl⟩ : ∃ n, ns[i]? = some n ∧ x = V.int n := ints_at hx
        refine ⟨_, rfl, _, _, rfl, rfl, ⟨by decide, by decide, by decide⟩, _, _, rfl, rfl, _, rfl, ?_⟩
        refine ite2 (fun c => ?_) (fun c => ⟨_, _, rfl, s4, em, el⟩)
        refine ⟨_, rfl, m, _, rfl, get_small em, _, _, rfl, rfl, ⟨by decide, by decide, by decide⟩, _, _, rfl, rfl, .inr ⟨by decide, by decide⟩, _, rfl, _, _, rfl, rfl, ⟨by decide, by decide, by decide⟩, _, _, rfl, rfl, ?p1, _, _, rfl, rfl, _, _, rfl, rfl, _, rfl, m, _, rfl, put_small em, ?_⟩
        case p1 => show (0 : Int) < 10 ^ 18; decide
        refine ⟨_, rfl, m, _, rfl, get_small upd_same, _, _, rfl, rfl, ⟨by decide, by decide, by decide⟩, _, _, rfl, rfl, _, _, rfl, rfl, ⟨by decide, by decide, by decide⟩, _, _, rfl, rfl, _, _, rfl, rfl, .inl ⟨by decide, by decide⟩, _, _, rfl, rfl, ?p2, _, rfl, m, _, rfl, put_small upd_same, ?_⟩
        case p2 => show (0 : Int) < (2 ^ 61 - 1) * (2 ^ 31 - 1); decide
        refine ⟨_, _, rfl, same_put (same_put s4 hm) hm, upd_same, ?_⟩
        rw [upd_ne nmg.symm, upd_ne nmg.symm]
        exact el
      · rintro σ H3 ⟨c, z, rfl, s4, em, el⟩
        refine ⟨_, rfl, ?_⟩
        exact q _ m gl s4 hm nG ⟨⟨z, 0, em⟩, ⟨ys, el, Nat.le_trans ly hlen⟩, nmg⟩
theorem hu64 {A : Around} {k : Nat} (hr : Room k A) : A.units + 64 < cLine := hr.units
/-- a list of ints as data -/
theorem dp_ints {H : Hp} : ∀ {ns : List Int}, DpAll K H (ns.map V.int) (ns.map PyData.int)
  | [] => .nil
  | n :: r => .cons (.int n) dp_ints
abbrev s_law_draw : Stmt := topS 24
abbrev N_law_draw : List Str := ["m", "many", "k", "at", "cell", "primes", "mixed"]
theorem sc_law_draw : FnScope N_law_draw ["m", "many"] (defScope s_law_draw) := ⟨rfl, rfl, rfl, by decide +kernel, rfl, by decide +kernel, by decide +kernel⟩
theorem ok_draw {f : Addr} {fd : FuncData} {k : Nat} (F : Fun K "_law_draw" "_law_draw" s_law_draw f fd) (n_len : mg "len" = none) : FnOk P w K mg base CX0 (k + 1) f fd ["m", "many"] spDraw := by
  refine F.ok sc_law_draw (fun vs H Q E h => ?_) (fun cdv A outer s H vs Q E hr h => ?_)
  · obtain ⟨m, gl, many, rfl, _⟩ := h
    rfl
  · obtain ⟨m, gl, many, rfl, ⟨⟨z, k, em⟩, ⟨ns, el, ln⟩, ne⟩, h0, h1, q⟩ := h
    have hu := hu_of hr
    refine ⟨_, (pss_cons (ps_set (i := 2) sc_law_draw.nd rfl (.inl rfl) (pe_dget hu (pv 0) pe_str (fun _ _ => rfl)))
      (pss_cons (ps_dput hu (pv 0) pe_str (pe_op op_add (pv 2) pe_int) rfl)
      (pss_cons (ps_if (pt_cmpR (op_neD (hu64 hr)) (pe_dget hu (pv 0) pe_str (fun _ _ => rfl)) (pe_lst pa_nil) (nomark _))
        (pss_cons (ps_set (i := 3) sc_law_draw.nd rfl (.inl rfl) (pe_op op_mod (pv 2) (pe_callB call_len_seq (by rfl) n_len (by decide +kernel) (pa_cons (pe_dget hu (pv 0) pe_str (fun _ _ => rfl)) pa_nil))))
        (pss_cons (ps_set (i := 4) sc_law_draw.nd rfl (.inl rfl) (pe_ix ix_list (pe_dget hu (pv 0) pe_str (fun _ _ => rfl)) (pv 3) (fun _ _ => rfl)))
        (pss_one (ps_if (pt_cmpR op_gt (pv 4) pe_int (nomark _))
          (pss_cons (ps_asg (pe_op op_fdivW (pv 4) (pv 1)) (pg_sub (pe_dget hu (pv 0) pe_str (fun _ _ => rfl)) (pv 3) set_list))
          (pss_one (ps_ret (pe_op op_mod (pv 4) (pv 1)))))
          pss_nil))))
        pss_nil)
      (pss_cons (ps_set (i := 5) sc_law_draw.nd rfl (.inl rfl) (pe_lst (pa_cons pe_int (pa_cons pe_int (pa_cons pe_int (pa_cons pe_int (pa_cons pe_int (pa_cons pe_int (pa_cons pe_int (pa_cons pe_int pa_nil))))))))))
      (pss_cons (ps_set (i := 6) sc_law_draw.nd rfl (.inl rfl) (pe_op op_mod (pe_op op_add (pe_op op_add (pe_dget hu (pv 0) pe_str (fun _ _ => rfl)) (pe_op op_mul pe_int (pv 2))) pe_int) (pe_ix ix_list (pv 5) (pe_op op_mod (pv 2) pe_int) (fun _ _ => rfl))))
      (pss_cons (ps_set (i := 6) sc_law_draw.nd rfl (.inl rfl) (pe_op op_mod (pe_op op_add (pe_op op_mul (pv 6) (pe_op op_add pe_int (pe_op op_mul pe_int (pv 2)))) (pe_op op_mul pe_int (pv 2))) (pe_ix ix_list (pv 5) (pe_op op_mod (pv 2) pe_int) (fun _ _ => rfl))))
      (pss_one (ps_ret (pe_op op_mod (pe_op op_fdiv (pe_op op_mod (pe_op op_mul (pe_op op_mul (pv 6) (pv 6)) (pv 6)) (pe_ix ix_list (pv 5) (pe_op op_mod (pv 2) pe_int) (fun _ _ => rfl))) pe_int) (pv 1)))))))))), ?_⟩
    -- k = m["at"]; m["at"] = k + 1
    refine ⟨_, rfl, m, _, rfl, get_at em, _, rfl, _, _, rfl, rfl, _, rfl, m, _, rfl, put_at em, ?_⟩
    obtain ⟨H1, eH1⟩ : ∃ H1, H1 = upd H m (.dK (dr gl z (k + 1))) := ⟨_, rfl⟩
    have e1 : H1 m = some (.dK (dr gl z (k + 1))) := by rw [eH1, upd_same]
    have l1 : H1 gl = some (.lst (ns.map V.int)) := by rw [eH1, upd_ne ne.symm]; exact el
    have b1 : But m gl H H1 := fun b o hb _ e => by rw [eH1, upd_ne hb]; exact e
    rw [← eH1]
    clear eH1
    -- if m["great"] != []
    refine ⟨_, rfl, m, _, rfl, get_great e1, Nat.zero_le _, fun t ht => ?_⟩
    have t1 : Same H1 (upd H1 t (.lst [])) := same_new ht
    have e2 := t1 _ _ e1
    have l2 := t1 _ _ l1
    have b2 : But m gl H (upd H1 t (.lst [])) := b1.trans (.same t1)
    generalize hH2 : upd H1 t (.lst []) = H2 at t1 e2 l2 b2
    have lt : H2 t = some (.lst []) := by rw [← hH2, upd_same]
    refine ⟨.list (ns.map PyData.int), .list [], .lst (SqL.of l2) dp_ints, .lst (SqL.of lt) .nil, shaped_ints ns, rfl, _, rfl, ?_⟩
    have rest : ∀ (y3 y4 : Option V), tSeq (tAsg (tLst (tCons (tC (.int 2147483647)) (tCons (tC (.int 2147483629)) (tCons (tC (.int 2147483587)) (tCons (tC (.int 2147483579)) (tCons (tC (.int 2147483563)) (tCons (tC (.int 2147483549)) (tCons (tC (.int 2147483543)) (tCons (tC (.int 2147483497)) tNil)))))))))
                            (gName 5)) (tSeq (tAsg
                              (tOp (rI (fun x j => 0 < j) fun i j => V.int (i % j)) (tOp (rI0 fun i j => V.int (i + j)) (tOp (rI0 fun i j => V.int (i + j)) (tDGet (tVar 0) (tC (V.str (Str.ofString "small"))))
                                    (tOp (rI CMul fun i j => V.int (i * j)) (tC (V.int 7919)) (tVar 2))) (tC (V.int 17)))
                                (tOp (rIxL K) (tVar 5) (tOp (rI (fun x j => 0 < j) fun i j => V.int (i % j)) (tVar 2) (tC (V.int 8))))) (gName 6))
                            (tSeq (tAsg (tOp (rI (fun x j => 0 < j) fun i j => V.int (i % j)) (tOp (rI0 fun i j => V.int (i + j)) (tOp (rI CMul fun i j => V.int (i * j)) (tVar 6)
                                      (tOp (rI0 fun i j => V.int (i + j)) (tC (V.int 48271)) (tOp (rI CMul fun i j => V.int (i * j)) (tC (V.int 2)) (tVar 2))))
                                    (tOp (rI CMul fun i j => V.int (i * j)) (tC (V.int 104729)) (tVar 2)))
                                  (tOp (rIxL K) (tVar 5) (tOp (rI (fun x j => 0 < j) fun i j => V.int (i % j)) (tVar 2) (tC (V.int 8))))) (gName 6))
                              (tRet (tOp (rI (fun x j => 0 < j) fun i j => V.int (i % j)) (tOp (rI CDiv fun i j => V.int (i / j)) (tOp (rI (fun x j => 0 < j) fun i j => V.int (i % j)) (tOp (rI CMul fun i j => V.int (i * j)) (tOp (rI CMul fun i j => V.int (i * j)) (tVar 6) (tVar 6)) (tVar 6))
                                (tOp (rIxL K) (tVar 5) (tOp (rI (fun x j => 0 < j) fun i j => V.int (i % j)) (tVar 2) (tC (V.int 8))))) (tC (V.int 7))) (tVar 1)))))
        { nx := fun x H' => Q V.non H', rt := Q } [some (.ref m), some (.int many), some (.int k), y3, y4, none, none] H2 := by
      intro y3 y4
      refine ⟨(show 8 ≤ sizeLine by decide), fun p hp => ?_⟩
      have t3 := same_new (o := .lst primes) hp
      have e3 := t3 _ _ e2
      have l3 := t3 _ _ l2
      have b3 := b2.trans (.same (m := m) (gl := gl) t3)
      obtain ⟨pr, hpr, p0, p1⟩ := prime_at k
      generalize hH3 : upd H2 p (.lst primes) = H3 at t3 e3 l3 b3
      have lp : H3 p = some (.lst primes) := by rw [← hH3]; exact upd_same
      have b8 : (0 : Int) < 8 := by decide
      refine ⟨_, rfl, m, _, rfl, get_small e3, _, rfl, _, _, rfl, rfl, .inl ⟨by decide, by decide⟩, _, _, rfl, rfl, _, _, rfl, rfl, _, rfl, _, rfl, _, _, rfl, rfl, b8, p, primes, _, _, rfl, rfl, SqL.of lp, hpr, _, _, rfl, rfl, p0, ?_⟩
      have g0 : ∀ x : Int, -(2 ^ 64) < x % pr ∧ x % pr < 2 ^ 64 := fun x => by
        have h1 := Int.emod_nonneg x (show pr ≠ 0 by omega)
        have h2 := Int.emod_lt_of_pos x p0
        exact ⟨by omega, by omega⟩
      refine ⟨_, rfl, _, rfl, _, _, rfl, rfl, .inl ⟨by decide, by decide⟩, _, _, rfl, rfl, _, _, rfl, rfl, .inl (g0 _), _, rfl, _, _, rfl, rfl, .inl ⟨by decide, by decide⟩, _, _, rfl, rfl, _, rfl, _, rfl, _, _, rfl, rfl, b8, p, primes, _, _, rfl, rfl, SqL.of lp, hpr, _, _, rfl, rfl, p0, ?_⟩
      refine ⟨_, rfl, _, rfl, _, _, rfl, rfl, .inl (g0 _), _, rfl, _, _, rfl, rfl, .inr (g0 _), _, rfl, _, rfl, _, _, rfl, rfl, b8, p, primes, _, _, rfl, rfl, SqL.of lp, hpr, _, _, rfl, rfl, p0, _, _, rfl, rfl, ⟨by decide, by decide⟩, _, rfl, _, _, rfl, rfl, h0, ?_⟩
      exact q _ _ (Int.emod_nonneg _ (by omega)) (Int.emod_lt_of_pos _ h0) ⟨⟨z, k + 1, e3⟩, ⟨ns, l3, ln⟩, ne⟩ b3
    cases ns with
    | nil => exact iteF (rest _ _)
    | cons n r =>
      refine iteT ?_
      -- at = k % len(great); cell = great[at]
      have lpos : (0 : Int) < (((n :: r).map V.int).length : Int) := by
        rw [List.length_map, List.length_cons]
        omega
      refine ⟨_, rfl, _, rfl, m, _, rfl, get_great e2, gl, _, rfl, .inl (SqL.of l2), _, _, rfl, rfl, lpos, ?_⟩
      obtain ⟨j, c, hj, hlt, hc⟩ := great_at (n :: r) k lpos
      refine ⟨_, rfl, m, _, rfl, get_great e2, _, rfl, gl, _, _, _, rfl, rfl, SqL.of l2, at_of hj hc, ?_⟩
      refine ⟨_, rfl, _, _, rfl, rfl, _, rfl, ite2 (fun c0 => ?_) (fun c0 => rest _ _)⟩
      refine ⟨_, rfl, _, rfl, _, _, rfl, rfl, wide_div (b := 64) h0 (by omega) (by decide) (by decide), _, rfl, m, _, rfl, get_great e2, _, rfl, gl, _, _, j, rfl, rfl, l2, ?_, ?_⟩
      · rw [hj]
        exact ixN_nat hlt
      · refine ⟨_, rfl, _, rfl, _, _, rfl, rfl, h0, ?_⟩
        refine q _ _ (Int.emod_nonneg _ (by omega)) (Int.emod_lt_of_pos _ h0) ⟨⟨z, k + 1, by rw [upd_ne ne]; exact e2⟩, ⟨(n :: r).set j (c / many), ?_, by rw [List.length_set]; exact ln⟩, ne⟩ ?_
        · rw [upd_same, List.map_set]
        · exact b2.trans fun b o _ hb e => by rw [upd_ne hb]; exact e
end
end L2.K2

set_option Elab.async false
set_option linter.all false
set_option maxRecDepth 100000
set_option maxHeartbeats 4000000
namespace L2.K2
open PySem PySem.Spec PyProof.Rows L2.Sl L2.Fr
/-- data that is drawn: small -/
structure Small (d : PyData) : Prop where
  sh : SeqAt.shaped d = true
  sw : d.showable = true
  hd : d.hasDict = false
  dp : d.depth ≤ 2
  sz : psz d ≤ 20000
theorem But.tups {m gl : Addr} {H H2 : Hp} (D : Drw H m gl) (b : But m gl H H2) : Tups H H2 := fun a xs e => by
  obtain ⟨z, k, em⟩ := D.d
  obtain ⟨ns, el, _⟩ := D.l
  exact b a _ (ne_of e em (by intro q; cases q)) (ne_of e el (by intro q; cases q)) e
theorem Drw.same {H H2 : Hp} {m gl : Addr} (D : Drw H m gl) (s : Same H H2) : Drw H2 m gl := by
  obtain ⟨⟨z, k, em⟩, ⟨ns, el, ln⟩, ne⟩ := D
  exact ⟨⟨z, k, s _ _ em⟩, ⟨ns, s _ _ el, ln⟩, ne⟩
theorem But.keep {m gl a : Addr} {H H2 : Hp} {o : HO} (D : Drw H m gl) (b : But m gl H H2) (e : H a = some o) (h1 : ∀ l, o ≠ .dK l) (h2 : ∀ l, o = .lst l → a ≠ gl) : H2 a = some o := by
  obtain ⟨z, k, em⟩ := D.d
  refine b a _ (ne_of e em (h1 _)) (fun z2 => ?_) e
  obtain ⟨ns, el, _⟩ := D.l
  have e2 := e
  rw [z2, el] at e2
  exact h2 _ (Option.some.inj e2).symm z2
/-- // by a divisor that is not 0, of either sign -/
def CDivNW (_ j : Int) : Prop := j ≠ 0 ∧ j.natAbs.log2 < 9000
theorem op_fdivNW {X : Cx} : OpR X (binaryOp .FloorDiv) (rI CDivNW fun i j => .int (i.fdiv j)) := opI fun _ _ _ _ _ _ _ hc q => floordiv_int hc.1 q (.inl (PyProof.noPylong_of_log2 hc.2))
/-- two whole numbers in lowest terms -/
def spLow : Sp := fun vs H Q _ => ∃ t u : Int, vs = [.int t, .int u] ∧ u ≠ 0 ∧ u.natAbs < 2 ^ 4000 ∧ ∀ H2 p, Same H H2 → H p = none → H2 p = some (.tup [.int (low t u).1, .int (low t u).2]) → Q (.ref p) H2
section
variable {P : Program} {w : World} {K : PySem.W.Frag} {mg : Str → Option Value} {base : Heap}
abbrev s_lo : Stmt := topS 25
abbrev N_lo : List Str := ["top", "under", "u", "v"]
theorem sc_lo : FnScope N_lo ["top", "under"] (defScope s_lo) := ⟨rfl, rfl, rfl, by decide +kernel, rfl, by decide +kernel, by decide +kernel⟩
theorem abs_nat (i : Int) : (if i < 0 then -i else i) = (i.natAbs : Int) := by
  split <;> omega
def lastV : St → Nat
  | [_, _, _, some (.int v)] => v.natAbs
  | _ => 0
theorem parts_abs (t u : Int) : (parts t u).natAbs = Int.gcd t u := by
  unfold parts
  split <;> omega
theorem fdiv_low1 (t u : Int) : t.fdiv (parts t u) = (low t u).1 := Int.fdiv_eq_ediv_of_dvd (parts_left t u)
theorem fdiv_low2 (t u : Int) : u.fdiv (parts t u) = (low t u).2 := Int.fdiv_eq_ediv_of_dvd (parts_right t u)
theorem ok_lo {f : Addr} {fd : FuncData} {k : Nat} (F : Fun K "_law_lowest" "_law_lowest" s_lo f fd) (n_abs : mg "abs" = none) : FnOk P w K mg base CX0 (k + 1) f fd ["top", "under"] spLow := by
  refine F.ok sc_lo (fun vs H Q E h => ?_) (fun cdv A outer s H vs Q E hr h => ?_)
  · obtain ⟨t, u, rfl, _⟩ := h
    rfl
  · obtain ⟨t, u, rfl, u0, ub, q⟩ := h
    refine ⟨_, (pss_cons (ps_par (i := 2) (j := 3) (by rfl) sc_lo.nd rfl rfl (by decide) rfl rfl (pa_cons (pe_callB call_abs (by rfl) n_abs (by decide +kernel) (pa_cons (pv 0) pa_nil)) (pa_cons (pe_callB call_abs (by rfl) n_abs (by decide +kernel) (pa_cons (pv 1) pa_nil)) pa_nil)) (by rfl))
      (pss_cons (ps_while PassesOwn.never (pt_cmpR op_gt (pv 3) pe_int (nomark _))
        (pss_one (ps_par (i := 2) (j := 3) (by rfl) sc_lo.nd rfl rfl (by decide) rfl rfl (pa_cons (pv 3) (pa_cons (pe_op op_mod (pv 2) (pv 3)) pa_nil)) (by rfl))))
      (pss_cons (ps_set (i := 2) sc_lo.nd rfl (.inl rfl) (pe_ifExp (pt_cmpR op_gt (pv 1) pe_int (nomark _)) (pv 2) (pe_op op_sub pe_int (pv 2))))
      (pss_one (ps_ret (pe_tup (pa_cons (pe_op op_fdivNW (pv 0) (pv 2)) (pa_cons (pe_op op_fdivNW (pv 1) (pv 2)) pa_nil)))))))), ?_⟩
    refine ⟨_, rfl, t, rfl, _, rfl, u, rfl, _, _, rfl, ?_⟩
    rw [abs_nat, abs_nat]
    refine while_by (fun σ H2 => H2 = H ∧ ∃ a b : Nat, σ = [some (.int t), some (.int u), some (.int a), some (.int b)] ∧ Nat.gcd a b = Int.gcd t u) (fun σ _ => lastV σ) ⟨rfl, _, _, rfl, rfl⟩ (fun σ H2 hP => ?_) (fun σ H Q Q' hQ h => ?_)
    · obtain ⟨rfl, a, b, rfl, g⟩ := hP
      refine ⟨_, rfl, _, _, rfl, rfl, _, rfl, ite2 (fun c => ?_) (fun c => ?_)⟩
      · have b0 : (0 : Int) < (b : Int) := of_decide_eq_true c
        refine ⟨_, rfl, _, rfl, _, rfl, _, _, rfl, rfl, b0, _, _, rfl, ⟨rfl, b, a % b, rfl, ?_⟩, ?_⟩
        · rw [← g, Nat.gcd_comm a b]
          exact (Nat.gcd_comm _ _).trans (Nat.gcd_rec b a).symm
        · show ((a : Int) % (b : Int)).natAbs < (b : Int).natAbs
          have h1 := Int.emod_nonneg (a : Int) (show (b : Int) ≠ 0 by omega)
          have h2 := Int.emod_lt_of_pos (a : Int) b0
          omega
      · have b0 : b = 0 := by
          have z : ¬ (0 : Int) < (b : Int) := fun z => c (decide_eq_true z)
          omega
        subst b0
        rw [Nat.gcd_zero_right] at g
        subst g
        have last : ∀ (x : Int), x = parts t u → tRet (tTup (tCons (tOp (rI CDivNW fun i j => V.int (i.fdiv j)) (tVar 0) (tVar 2)) (tCons (tOp (rI CDivNW fun i j => V.int (i.fdiv j)) (tVar 1) (tVar 2)) tNil))) { nx := fun x H' => Q V.non H', rt := Q } [some (.int t), some (.int u), some (.int x), some (.int ((0 : Nat) : Int))] H2 := by
          rintro x rfl
          have n0 : parts t u ≠ 0 := parts_ne u0
          have nb : (parts t u).natAbs.log2 < 9000 := by
            rw [parts_abs]
            have l1 : Int.gcd t u ≤ u.natAbs := Nat.le_of_dvd (by omega) (Int.gcd_dvd_natAbs_right ..)
            exact Nat.lt_of_lt_of_le (PySem.Flt.log2_lt_of (by decide) (Nat.lt_of_le_of_lt l1 ub)) (by decide)
          refine ⟨_, rfl, _, rfl, _, _, rfl, rfl, ⟨n0, nb⟩, _, rfl, _, rfl, _, _, rfl, rfl, ⟨n0, nb⟩, (show 2 ≤ sizeLine by decide), fun p np => ?_⟩
          refine q _ p (same_new np) np ?_
          rw [upd_same]
          show some (HO.tup [V.int (t.fdiv (parts t u)), V.int (u.fdiv (parts t u))]) = _
          rw [fdiv_low1, fdiv_low2]
        refine ⟨_, rfl, _, _, rfl, rfl, _, rfl, ite2 (fun c2 => ?_) (fun c2 => ?_)⟩
        · have c3 : (0 : Int) < u := of_decide_eq_true c2
          exact ⟨_, rfl, last _ (by unfold parts; rw [if_pos (by omega)])⟩
        · have c3 : ¬ (0 : Int) < u := fun z => c2 (decide_eq_true z)
          exact ⟨_, rfl, _, _, rfl, rfl, last _ (by unfold parts; rw [if_neg (by omega)])⟩
    · obtain ⟨v, h1, i, j, h2, h3, h4, h5, h6⟩ := h
      exact ⟨v, h1, i, j, h2, h3, h4, h5, hQ _ _ h6⟩
end
end L2.K2

set_option Elab.async false
set_option linter.all false
set_option maxRecDepth 100000
set_option maxHeartbeats 4000000
namespace L2.K2
open PySem PySem.Spec PyProof.Rows L2.Sl L2.Fr
theorem at_mem {xs : List V} {k : Int} (h0 : 0 ≤ k) (h1 : k < (xs.length : Int)) : ∃ v, atI xs k = some v ∧ v ∈ xs := by
  obtain ⟨j, rfl⟩ : ∃ j : Nat, k = (j : Int) := ⟨k.toNat, by omega⟩
  have hj : j < xs.length := by omega
  exact ⟨xs[j], at_of rfl (by simp [hj]), List.getElem_mem hj⟩
theorem mkG {H : Hp} {p : Addr} (o : HO) (n : H p = none) : ∃ G, G = upd H p o ∧ Same H G ∧ G p = some o := ⟨_, rfl, same_new n, upd_same⟩
def spNum (ok : Int → Prop) : Sp := fun vs H Q _ => ∃ (m gl : Addr), vs = [.ref m] ∧ Drw H m gl ∧ ∀ H2 (r : Int), r.natAbs < 2 ^ 210 → ok r → Drw H2 m gl → But m gl H H2 → Q (.int r) H2
/-- a fraction that is drawn -/
def spFrac : Sp := fun vs H Q _ => ∃ (m gl : Addr), vs = [.ref m] ∧ Drw H m gl ∧ ∀ H2 p a b, Low a b → a.natAbs < 2 ^ 210 → b.natAbs < 2 ^ 210 → H2 p = some (.tup [.int a, .int b]) → Drw H2 m gl → But m gl H H2 → Q (.ref p) H2
section
variable {P : Program} {w : World} {K : PySem.W.Frag} {mg : Str → Option Value} {base : Heap}
abbrev s_nu : Stmt := topS 26
abbrev N_nu : List Str := ["m", "way", "near", "far"]
theorem sc_nu : FnScope N_nu ["m"] (defScope s_nu) := ⟨rfl, rfl, rfl, by decide +kernel, rfl, by decide +kernel, by decide +kernel⟩
theorem ok_nu {f fdw : Addr} {fd ddw : FuncData} {k : Nat} (F : Fun K "_law_number" "_law_number" s_nu f fd) (F_dw : Fun K "_law_draw" "_law_draw" s_law_draw fdw ddw) (b_dw : Binds K ddw ["m", "many"] []) (g_dw : mg "_law_draw" = some (.ref fdw)) (n_len : mg "len" = none) : FnOk P w K mg base CX0 (k + 2) f fd ["m"] (spNum fun _ => True) := by
  have G_dw : FnOk P w K mg base CX0 (k + 1) fdw ddw ["m", "many"] spDraw := ok_draw F_dw n_len
  refine F.ok sc_nu (fun vs H Q E h => ?_) (fun cdv A outer s H vs Q E hr h => ?_)
  · obtain ⟨m, gl, rfl, _⟩ := h
    rfl
  · obtain ⟨m, gl, rfl, D, q⟩ := h
    refine ⟨_, (pss_cons (ps_par3 (i := 1) (j := 2) (l := 3) (by rfl) sc_nu.nd rfl rfl rfl (by decide) (by decide) (by decide) rfl rfl rfl (pa_cons (pe_call G_dw hr (by rfl) g_dw F_dw.kp b_dw .nil pass0 (pa_cons (pv 0) (pa_cons pe_int pa_nil))) (pa_cons (pe_call G_dw hr (by rfl) g_dw F_dw.kp b_dw .nil pass0 (pa_cons (pv 0) (pa_cons pe_int pa_nil))) (pa_cons (pe_call G_dw hr (by rfl) g_dw F_dw.kp b_dw .nil pass0 (pa_cons (pv 0) (pa_cons (pe_op op_pow pe_int pe_int) pa_nil))) pa_nil))) (by rfl))
      (pss_one (ps_ret (pe_ix ix_list (pe_lst (pa_cons pe_int (pa_cons (pv 2) (pa_cons (pe_op op_sub pe_int (pv 2)) (pa_cons (pv 3) (pa_cons (pe_op op_sub pe_int (pv 3)) (pa_cons (pe_op op_add (pe_ix ix_list (pe_lst (pa_cons (pe_op op_pow pe_int pe_int) (pa_cons (pe_op op_pow pe_int pe_int) (pa_cons (pe_op op_sub pe_int (pe_op op_pow pe_int pe_int)) pa_nil)))) (pe_op op_mod (pv 2) pe_int) (fun _ _ => rfl)) (pv 3)) pa_nil))))))) (pv 1) (fun _ _ => rfl))))), ?_⟩
    have e15 : (10 : Int) ^ (15 : Int).toNat = 1000000000000000 := by decide +kernel
    have e60 : (10 : Int) ^ (60 : Int).toNat = 1000000000000000000000000000000000000000000000000000000000000 := by decide +kernel
    have e40 : (6 : Int) ^ (40 : Int).toNat = 13367494538843734067838845976576 := by decide +kernel
    refine ⟨_, rfl, m, gl, 6, rfl, D, by decide, by decide, fun H1 way w0 w1 D1 B1 => ⟨_, rfl, m, gl, 12, rfl, D1, by decide, by decide, fun H2 near n0 n1 D2 B2 => ?_⟩⟩
    refine ⟨_, rfl, _, _, rfl, rfl, ⟨by decide, by decide, by decide⟩, m, gl, 1000000000000000, congrArg (fun z => [V.ref m, V.int z]) e15, D2, by decide, by decide, fun H3 far f0 f1 D3 B3 => ⟨_, _, _, rfl, ?_⟩⟩
    have B4 : But m gl H H3 := B1.trans (B2.trans B3)
    refine ⟨_, rfl, _, rfl, _, _, rfl, rfl, _, rfl, _, rfl, _, _, rfl, rfl, _, _, rfl, rfl, ⟨by decide, by decide, by decide⟩, _, _, rfl, rfl, ⟨by decide, by decide, by decide⟩, _, _, rfl, rfl, ⟨by decide, by decide, by decide⟩, _, _, rfl, rfl, (show 3 ≤ sizeLine by decide), fun p np => ?_⟩
    obtain ⟨G, hG, sG, eG⟩ := mkG (.lst ([10 ^ (60 : Int).toNat, 6 ^ (40 : Int).toNat, 0 - 10 ^ (60 : Int).toNat].map V.int)) np
    have hG2 : G = upd H3 p (.lst [V.int (10 ^ (60 : Int).toNat), V.int (6 ^ (40 : Int).toNat), V.int (0 - 10 ^ (60 : Int).toNat)]) := hG
    rw [← hG2]
    clear hG hG2
    have r0 : (0 : Int) ≤ near % 3 := Int.emod_nonneg _ (by decide)
    have r1 : near % 3 < 3 := Int.emod_lt_of_pos _ (by decide)
    obtain ⟨v, hv, mv⟩ := at_mem (xs := [10 ^ (60 : Int).toNat, 6 ^ (40 : Int).toNat, 0 - 10 ^ (60 : Int).toNat].map V.int) r0 r1
    obtain ⟨z, hz, rfl⟩ : ∃ z : Int, z.natAbs ≤ 10 ^ 60 ∧ v = .int z := by
      obtain ⟨z, hz, rfl⟩ := List.mem_map.mp mv
      refine ⟨z, ?_, rfl⟩
      rw [e60, e40] at hz
      simp only [List.mem_cons, List.mem_nil_iff, or_false] at hz
      rcases hz with rfl | rfl | rfl <;> decide +kernel
    refine ⟨_, rfl, _, _, rfl, rfl, (by decide : (0 : Int) < 3), p, _, _, _, rfl, rfl, SqL.of eG, hv, _, rfl, _, _, rfl, rfl, (show 6 ≤ sizeLine by decide), fun p2 np2 => ?_⟩
    obtain ⟨G2, hG2, sG2, eG2⟩ := mkG (.lst ([0, near, 0 - near, far, 0 - far, z + far].map V.int)) np2
    have hG3 : G2 = upd G p2 (.lst [V.int 0, V.int near, V.int (0 - near), V.int far, V.int (0 - far), V.int (z + far)]) := hG2
    rw [← hG3]
    clear hG2 hG3
    obtain ⟨v, hv2, mv2⟩ := at_mem (xs := [0, near, 0 - near, far, 0 - far, z + far].map V.int) w0 w1
    obtain ⟨y, hy, rfl⟩ : ∃ y : Int, y.natAbs < 2 ^ 210 ∧ v = .int y := by
      obtain ⟨y, hy, rfl⟩ := List.mem_map.mp mv2
      refine ⟨y, ?_, rfl⟩
      simp only [List.mem_cons, List.mem_nil_iff, or_false] at hy
      rcases hy with rfl | rfl | rfl | rfl | rfl | rfl <;> omega
    refine ⟨_, rfl, p2, _, _, _, rfl, rfl, SqL.of eG2, hv2, ?_⟩
    exact q _ y hy trivial ((D3.same sG).same sG2) (B4.trans ((But.same sG).trans (.same sG2)))
/-- a whole number but nought -/
abbrev s_bo : Stmt := topS 27
abbrev N_bo : List Str := ["m", "found"]
theorem sc_bo : FnScope N_bo ["m"] (defScope s_bo) := ⟨rfl, rfl, rfl, by decide +kernel, rfl, by decide +kernel, by decide +kernel⟩
theorem ok_bo {f fdw fnu : Addr} {fd ddw dnu : FuncData} {k : Nat} (F : Fun K "_law_bottom" "_law_bottom" s_bo f fd) (F_nu : Fun K "_law_number" "_law_number" s_nu fnu dnu) (b_nu : Binds K dnu ["m"] []) (g_nu : mg "_law_number" = some (.ref fnu)) (F_dw : Fun K "_law_draw" "_law_draw" s_law_draw fdw ddw) (b_dw : Binds K ddw ["m", "many"] []) (g_dw : mg "_law_draw" = some (.ref fdw)) (n_len : mg "len" = none) :
    FnOk P w K mg base CX0 (k + 3) f fd ["m"] (spNum fun r => r ≠ 0) := by
  have G_dw : FnOk P w K mg base CX0 (k + 2) fdw ddw ["m", "many"] spDraw := ok_draw F_dw n_len
  have G_nu : FnOk P w K mg base CX0 (k + 2) fnu dnu ["m"] (spNum fun _ => True) := ok_nu F_nu F_dw b_dw g_dw n_len
  refine F.ok sc_bo (fun vs H Q E h => ?_) (fun cdv A outer s H vs Q E hr h => ?_)
  · obtain ⟨m, gl, rfl, _⟩ := h
    rfl
  · obtain ⟨m, gl, rfl, D, q⟩ := h
    refine ⟨_, (pss_cons (ps_set (i := 1) sc_bo.nd rfl (.inl rfl) (pe_call G_nu hr (by rfl) g_nu F_nu.kp b_nu .nil pass0 (pa_cons (pv 0) pa_nil)))
      (pss_one (ps_ret (pe_ifExp (pt_cmpR op_ne (pv 1) pe_int (nomark _)) (pv 1) (pe_ix ix_list (pe_lst (pa_cons pe_int (pa_cons (pe_op op_sub pe_int pe_int) (pa_cons pe_int pa_nil)))) (pe_call G_dw hr (by rfl) g_dw F_dw.kp b_dw .nil pass0 (pa_cons (pv 0) (pa_cons pe_int pa_nil))) (fun _ _ => rfl)))))), ?_⟩
    refine ⟨_, rfl, m, gl, rfl, D, fun H1 r rb _ D1 B1 => ⟨_, rfl, rfl, _, rfl, ite2 (fun c => ?_) (fun c => ?_)⟩⟩
    · have r0 : r ≠ 0 := by
        rintro rfl
        have z : (!decide (V.int 0 = V.int 0)) = true := c
        rw [decide_eq_true rfl] at z
        cases z
      exact ⟨_, rfl, q _ _ rb r0 D1 B1⟩
    · refine ⟨_, _, rfl, rfl, (show 3 ≤ sizeLine by decide), fun p np => ?_⟩
      obtain ⟨G, hG, sG, eG⟩ := mkG (.lst ([1, 0 - 1, 2].map V.int)) np
      have hG2 : G = upd H1 p (.lst [V.int 1, V.int (0 - 1), V.int 2]) := hG
      rw [← hG2]
      clear hG hG2
      refine ⟨_, rfl, m, gl, 3, rfl, D1.same sG, by decide, by decide, fun H2 j j0 j1 D2 B2 => ?_⟩
      obtain ⟨v, hv, mv⟩ := at_mem (xs := [1, 0 - 1, 2].map V.int) j0 j1
      have eG2 : H2 p = some (.lst ([1, 0 - 1, 2].map V.int)) := B2.keep (D1.same sG) eG (fun _ z => nomatch z) (fun l _ => by
        obtain ⟨ns, el, _⟩ := D1.l
        exact (ne_of_none el np).symm)
      refine ⟨p, _, _, _, rfl, rfl, SqL.of eG2, hv, ?_⟩
      obtain ⟨y, hy, rfl⟩ := List.mem_map.mp mv
      simp only [List.mem_cons, List.mem_nil_iff, or_false] at hy
      have B : But m gl H H2 := B1.trans ((But.same sG).trans B2)
      rcases hy with rfl | rfl | rfl
      · exact q _ _ (by decide) (by decide) D2 B
      · exact q _ _ (by decide) (by decide) D2 B
      · exact q _ _ (by decide) (by decide) D2 B
end
end L2.K2

set_option Elab.async false
set_option linter.all false
set_option maxRecDepth 100000
set_option maxHeartbeats 4000000
namespace L2.K2
open PySem PySem.Spec PyProof.Rows L2.Sl L2.Fr
theorem low_le1 {t u : Int} (h : u ≠ 0) : (low t u).1.natAbs ≤ t.natAbs := by
  have e := congrArg Int.natAbs (low_fst t u)
  rw [Int.natAbs_mul] at e
  have g : 0 < (parts t u).natAbs := by
    have := parts_ne (t := t) h
    omega
  have l : (low t u).1.natAbs * 1 ≤ (low t u).1.natAbs * (parts t u).natAbs := Nat.mul_le_mul_left _ g
  omega
theorem low_le2 {t u : Int} (h : u ≠ 0) : (low t u).2.natAbs ≤ u.natAbs := by
  have e := congrArg Int.natAbs (low_snd t u)
  rw [Int.natAbs_mul] at e
  have g : 0 < (parts t u).natAbs := by
    have := parts_ne (t := t) h
    omega
  have l : (low t u).2.natAbs * 1 ≤ (low t u).2.natAbs * (parts t u).natAbs := Nat.mul_le_mul_left _ g
  omega
section
variable {P : Program} {w : World} {K : PySem.W.Frag} {mg : Str → Option Value} {base : Heap}
abbrev s_fr : Stmt := topS 28
abbrev N_fr : List Str := ["m"]
theorem sc_fr : FnScope N_fr ["m"] (defScope s_fr) := ⟨rfl, rfl, rfl, by decide +kernel, rfl, by decide +kernel, by decide +kernel⟩
theorem ok_fr {f fdw fnu fbo flo : Addr} {fd ddw dnu dbo dlo : FuncData} {k : Nat} (F : Fun K "_law_fraction" "_law_fraction" s_fr f fd) (F_nu : Fun K "_law_number" "_law_number" s_nu fnu dnu) (b_nu : Binds K dnu ["m"] []) (g_nu : mg "_law_number" = some (.ref fnu))
    (F_bo : Fun K "_law_bottom" "_law_bottom" s_bo fbo dbo) (b_bo : Binds K dbo ["m"] []) (g_bo : mg "_law_bottom" = some (.ref fbo)) (F_lo : Fun K "_law_lowest" "_law_lowest" s_lo flo dlo) (b_lo : Binds K dlo ["top", "under"] []) (g_lo : mg "_law_lowest" = some (.ref flo))
    (F_dw : Fun K "_law_draw" "_law_draw" s_law_draw fdw ddw) (b_dw : Binds K ddw ["m", "many"] []) (g_dw : mg "_law_draw" = some (.ref fdw)) (n_len : mg "len" = none) (n_abs : mg "abs" = none) :
    FnOk P w K mg base CX0 (k + 4) f fd ["m"] spFrac := by
  have G_nu : FnOk P w K mg base CX0 (k + 3) fnu dnu ["m"] (spNum fun _ => True) := ok_nu F_nu F_dw b_dw g_dw n_len
  have G_bo : FnOk P w K mg base CX0 (k + 3) fbo dbo ["m"] (spNum fun r => r ≠ 0) := ok_bo F_bo F_nu b_nu g_nu F_dw b_dw g_dw n_len
  have G_lo : FnOk P w K mg base CX0 (k + 3) flo dlo ["top", "under"] spLow := ok_lo F_lo n_abs
  refine F.ok sc_fr (fun vs H Q E h => ?_) (fun cdv A outer s H vs Q E hr h => ?_)
  · obtain ⟨m, gl, rfl, _⟩ := h
    rfl
  · obtain ⟨m, gl, rfl, D, q⟩ := h
    refine ⟨_, (pss_one (ps_ret (pe_call G_lo hr (by rfl) g_lo F_lo.kp b_lo .nil pass0 (pa_cons (pe_call G_nu hr (by rfl) g_nu F_nu.kp b_nu .nil pass0 (pa_cons (pv 0) pa_nil)) (pa_cons (pe_call G_bo hr (by rfl) g_bo F_bo.kp b_bo .nil pass0 (pa_cons (pv 0) pa_nil)) pa_nil))))), ?_⟩
    refine ⟨_, rfl, m, gl, rfl, D, fun H1 t tb _ D1 B1 => ⟨_, rfl, m, gl, rfl, D1, fun H2 u ub u0 D2 B2 => ⟨t, u, rfl, u0, Nat.lt_of_lt_of_le ub (Nat.pow_le_pow_right (by decide) (by decide)), fun H3 p S np ep => ?_⟩⟩⟩
    exact q H3 p _ _ (low_low u0) (Nat.lt_of_le_of_lt (low_le1 u0) tb) (Nat.lt_of_le_of_lt (low_le2 u0) ub) ep (D2.same S) (B1.trans (B2.trans (.same S)))
abbrev s_in : Stmt := topS 29
abbrev N_in : List Str := ["it"]
theorem sc_in : FnScope N_in ["it"] (defScope s_in) := ⟨rfl, rfl, rfl, by decide +kernel, rfl, by decide +kernel, by decide +kernel⟩
/-- a thing of a built-in kind -/
structure Kind (K : PySem.W.Frag) (H : Hp) (x : V) (n : String) : Prop where
  ty : TyX K H x (.type n)
  ok : n = "int" ∨ n = "bool" ∨ n = "str" ∨ n = "NoneType" ∨ n = "tuple" ∨ n = "list" ∨ n = "dict"
theorem Kind.int {H : Hp} {x : V} {n : String} (h : Kind K H x n) : PySem.W.kitOne K (.type n) (.type "int") = some (n == "int" || n == "bool") := by
  rcases h.ok with rfl | rfl | rfl | rfl | rfl | rfl | rfl <;> exact kit_ty (by decide +kernel)
theorem Kind.bool {H : Hp} {x : V} {n : String} (h : Kind K H x n) : PySem.W.kitOne K (.type n) (.type "bool") = some (n == "bool") := by
  rcases h.ok with rfl | rfl | rfl | rfl | rfl | rfl | rfl <;> exact kit_ty (by decide +kernel)
theorem Kind.tuple {H : Hp} {x : V} {n : String} (h : Kind K H x n) : PySem.W.kitOne K (.type n) (.type "tuple") = some (n == "tuple") := by
  rcases h.ok with rfl | rfl | rfl | rfl | rfl | rfl | rfl <;> exact kit_ty (by decide +kernel)
theorem Kind.str {H : Hp} {x : V} {n : String} (h : Kind K H x n) : PySem.W.kitOne K (.type n) (.type "str") = some (n == "str") := by
  rcases h.ok with rfl | rfl | rfl | rfl | rfl | rfl | rfl <;> exact kit_ty (by decide +kernel)
/-- whether a thing is a whole number -/
def spIn (K : PySem.W.Frag) : Sp := fun vs H Q _ => ∃ (x : V) (n : String), vs = [x] ∧ Kind K H x n ∧ Q (.bl (n == "int")) H
theorem ok_in {f : Addr} {fd : FuncData} {k : Nat} (F : Fun K "_law_is_number" "_law_is_number" s_in f fd) (n_isinstance : mg "isinstance" = none) (n_int : mg "int" = none) (n_bool : mg "bool" = none) : FnOk P w K mg base CX0 (k + 1) f fd ["it"] (spIn K) := by
  refine F.ok sc_in (fun vs H Q E h => ?_) (fun cdv A outer s H vs Q E hr h => ?_)
  · obtain ⟨x, n, rfl, _⟩ := h
    rfl
  · obtain ⟨x, n, rfl, kd, q⟩ := h
    refine ⟨_, (pss_one (ps_ret (pe_and (pe_callB call_isi (by rfl) n_isinstance (by decide +kernel) (pa_cons (pv 0) (pa_cons (pe_bltn (v := .ty "int") (by rfl) n_int (by decide +kernel) rfl) pa_nil))) (pe_one (pe_not (pe_callB call_isi (by rfl) n_isinstance (by decide +kernel) (pa_cons (pv 0) (pa_cons (pe_bltn (v := .ty "bool") (by rfl) n_bool (by decide +kernel) rfl) pa_nil)))))))), ?_⟩
    refine ⟨_, rfl, x, _, _, _, _, rfl, .ty _, kd.ty, kd.int, _, rfl, ite2 (fun c => ?_) (fun c => ?_)⟩
    · refine ⟨_, rfl, x, _, _, _, _, rfl, .ty _, kd.ty, kd.bool, _, rfl, ?_⟩
      have e : (!(n == "bool")) = (n == "int") := by
        rcases kd.ok with rfl | rfl | rfl | rfl | rfl | rfl | rfl <;> first | rfl | (revert c; decide +kernel)
      rw [e]
      exact q
    · have e : (n == "int") = false := by
        rcases kd.ok with rfl | rfl | rfl | rfl | rfl | rfl | rfl <;> first | rfl | (revert c; decide +kernel)
      rw [e] at q
      exact q
end
end L2.K2

set_option Elab.async false
set_option linter.all false
set_option maxRecDepth 100000
set_option maxHeartbeats 4000000
set_option exponentiation.threshold 5000
namespace L2.K2
open PySem PySem.Spec PyProof.Rows L2.Sl L2.Fr
def isI : PyData → Bool
  | .int _ => true
  | _ => false
theorem Th.kind {K : PySem.W.Frag} {H : Hp} {v : V} {d : PyData} (h : Th H v d) : ∃ n, Kind K H v n ∧ (n == "int") = isI d := by
  cases h with
  | non => exact ⟨_, ⟨.base .non, .inr (.inr (.inr (.inl rfl)))⟩, by decide +kernel⟩
  | bl b => exact ⟨_, ⟨.base (.bl b), .inr (.inl rfl)⟩, (by decide +kernel : ("bool" == "int") = false)⟩
  | int i => exact ⟨_, ⟨.base (.int i), .inl rfl⟩, (by decide +kernel : ("int" == "int") = true)⟩
  | str x => exact ⟨_, ⟨.base (.str x), .inr (.inr (.inl rfl))⟩, (by decide +kernel : ("str" == "int") = false)⟩
  | tup e r => exact ⟨_, ⟨.base (.tup e), .inr (.inr (.inr (.inr (.inl rfl))))⟩, (by decide +kernel : ("tuple" == "int") = false)⟩
theorem Th.len {H : Hp} : ∀ {xs : List V} {ds : List PyData}, ThAll H xs ds → ds.length = xs.length
  | _, _, .nil => rfl
  | _, _, .cons _ r => by rw [List.length_cons, List.length_cons, Th.len r]
/-- a pair in lowest terms, the second above 0 -/
def isFr : List PyData → Bool
  | [.int a, .int b] => decide (0 < b) && decide (low a b = (a, b))
  | _ => false
theorem isFr_len {ds : List PyData} (h : ds.length ≠ 2) : isFr ds = false := by
  unfold isFr
  split
  · exact absurd rfl h
  · rfl
theorem isFr_not {d e : PyData} (h : isI d = false ∨ isI e = false) : isFr [d, e] = false := by
  unfold isFr
  split
  · rename_i a b q
    injection q with q1 q2
    injection q2 with q3 q4
    rcases h with h | h
    · rw [q1] at h
      cases h
    · rw [q3] at h
      cases h
  · rfl
/-- a part of a pair: no list, no dict, not deep -/
def flat (d : PyData) : Prop := d.canLay0 = true ∧ d.depth ≤ 2
def spIf (K : PySem.W.Frag) : Sp := fun vs H Q _ => ∃ (x : V) (n : String), vs = [x] ∧ Kind K H x n ∧ ((n ≠ "tuple" ∧ ∀ H2, Same H H2 → Q (.bl false) H2) ∨
  ∃ p xs ds, n = "tuple" ∧ x = .ref p ∧ H p = some (.tup xs) ∧ ThAll H xs ds ∧ (∀ d ∈ ds, flat d) ∧ (∀ i ∈ ds, ∀ b, i = .int b → b.natAbs < 2 ^ 4000) ∧ ∀ H2, Same H H2 → Q (.bl (isFr ds)) H2)
def selV (x : V) (d : PyData) : List V := if isI d then [] else [x]
def selD (d : PyData) : List PyData := if isI d then [] else [d]
theorem sel_dp {K : PySem.W.Frag} {H : Hp} {x y : V} {d e : PyData} (h1 : Th H x d) (h2 : Th H y e) : DpAll K H (selV x d ++ selV y e) (selD d ++ selD e) := by
  unfold selV selD
  split <;> split
  · exact .nil
  · exact .cons h2.dp .nil
  · exact .cons h1.dp .nil
  · exact .cons h1.dp (.cons h2.dp .nil)
theorem sel_shaped {d e : PyData} (h1 : flat d) (h2 : flat e) : SeqAt.shaped (.list (selD d ++ selD e)) = true := by
  obtain ⟨a1, b1⟩ := h1
  obtain ⟨a2, b2⟩ := h2
  unfold SeqAt.shaped
  rw [Bool.and_eq_true]
  unfold selD
  split <;> split <;> simp [PyData.canLay0, PyData.canLayAll0, PyData.depth, PyData.depthAll, a1, a2] <;> omega
theorem sel_len (x : V) (d : PyData) : (selV x d).length < sizeLine := by
  have h : (selV x d).length ≤ 1 := by
    unfold selV
    split
    · exact Nat.zero_le _
    · exact Nat.le_refl _
  exact Nat.lt_of_le_of_lt h (by decide)
theorem eqv_low (a b : Int) (h : 0 < b) : PyData.eqv (.tuple [.int (low a b).1, .int (low a b).2]) (.tuple [.int a, .int b]) = isFr [.int a, .int b] := by
  show ((low a b).1 == a && ((low a b).2 == b && true)) = (decide (0 < b) && decide (low a b = (a, b)))
  rw [decide_eq_true h, Bool.eq_iff_iff]
  simp [Prod.ext_iff]
section
variable {P : Program} {w : World} {K : PySem.W.Frag} {mg : Str → Option Value} {base : Heap}
abbrev s_if : Stmt := topS 30
abbrev N_if : List Str := ["it", "part"]
theorem sc_if : FnScope N_if ["it"] (defScope s_if) := ⟨rfl, rfl, rfl, by decide +kernel, rfl, by decide +kernel, by decide +kernel⟩
theorem ok_if {f fin flo : Addr} {fd din dlo : FuncData} {k : Nat} (F : Fun K "_law_is_fraction" "_law_is_fraction" s_if f fd) (F_in : Fun K "_law_is_number" "_law_is_number" s_in fin din) (b_in : Binds K din ["it"] []) (g_in : mg "_law_is_number" = some (.ref fin))
    (F_lo : Fun K "_law_lowest" "_law_lowest" s_lo flo dlo) (b_lo : Binds K dlo ["top", "under"] []) (g_lo : mg "_law_lowest" = some (.ref flo)) (n_abs : mg "abs" = none) (n_len : mg "len" = none) (n_isinstance : mg "isinstance" = none) (n_int : mg "int" = none) (n_bool : mg "bool" = none) (n_tuple : mg "tuple" = none) :
    FnOk P w K mg base CX0 (k + 2) f fd ["it"] (spIf K) := by
  have G_in : FnOk P w K mg base CX0 (k + 1) fin din ["it"] (spIn K) := ok_in F_in n_isinstance n_int n_bool
  have G_lo : FnOk P w K mg base CX0 (k + 1) flo dlo ["top", "under"] spLow := ok_lo F_lo n_abs
  refine F.ok sc_if (fun vs H Q E h => ?_) (fun cdv A outer s H vs Q E hr h => ?_)
  · obtain ⟨x, n, rfl, _⟩ := h
    rfl
  · obtain ⟨x, n, rfl, kd, q⟩ := h
    refine ⟨_, (pss_cons (ps_if (PW.pt (pw_or (pt_not (pt_val (pe_callB call_isi (by rfl) n_isinstance (by decide +kernel) (pa_cons (pv 0) (pa_cons (pe_bltn (v := .ty "tuple") (by rfl) n_tuple (by decide +kernel) rfl) pa_nil))))) (pw_or (pt_cmpR op_ne (pe_callB call_len_seq (by rfl) n_len (by decide +kernel) (pa_cons (pv 0) pa_nil)) pe_int (nomark _)) (pw_or1 (pt_cmpR (op_neD (hu64 hr)) (pe_lc (own := [("part", 1)]) (tt := tNot (tB (tCall (spIn K) [] E0 (tCons (tVar 1) tNil)))) (by rfl) sc_if.nd (pi_tup (pv 0)) (blkOk_by (own := [("part", 1)]) (N := N_if) (sc := defScope s_if) (by decide +kernel)) (fun _ _ _ _ _ => (pg_name (i := 1) sc_if.nd rfl (.inl rfl))) (fun _ _ _ _ _ => (pts_one (pt_not (pt_val (pe_call G_in hr (by rfl) g_in F_in.kp b_in .nil pass0 (pa_cons (pv 1) pa_nil)))))) (fun _ _ _ _ _ => (pv 1))) (pe_lst pa_nil) (nomark _))))))
        (pss_one (ps_ret pe_bl))
        pss_nil)
      (pss_one (ps_ret (pe_and (pe_cmpR op_gt (pe_ix ix_tup (pv 0) pe_int (fun _ _ => rfl)) pe_int (nomark _)) (pe_one (pe_cmpR (op_eqD (hu64 hr)) (pe_call G_lo hr (by rfl) g_lo F_lo.kp b_lo .nil pass0 (pa_cons (pe_ix ix_tup (pv 0) pe_int (fun _ _ => rfl)) (pa_cons (pe_ix ix_tup (pv 0) pe_int (fun _ _ => rfl)) pa_nil))) (pv 0) (nomark _))))))), ?_⟩
    refine ⟨_, rfl, x, _, _, _, _, rfl, .ty _, kd.ty, kd.tuple, _, rfl, ?_⟩
    rcases q with ⟨hn, q⟩ | ⟨p, xs, ds, rfl, rfl, ep, ta, fl, bd, q⟩
    · have e : (n == "tuple") = false := by
        rw [beq_eq_false_iff_ne]
        exact hn
      rw [e]
      exact iteT (iteT (q H fun _ _ z => z))
    · refine ite2 (fun c => absurd c (by decide +kernel)) (fun _ => ?_)
      refine ⟨_, rfl, p, xs, rfl, .inr (SqT.of ep), rfl, _, rfl, ?_⟩
      have no : xs.length ≠ 2 → isFr ds = false := fun h => isFr_len (by rw [Th.len ta]; exact h)
      refine ite2 (fun c => iteT ?_) (fun c => ?_)
      · have h2 : xs.length ≠ 2 := by
          intro z
          rw [z] at c
          exact absurd c (by decide +kernel)
        have z := q H fun _ _ z => z
        rw [no h2] at z
        exact z
      · have h2 : xs.length = 2 := by
          apply Decidable.byContradiction
          intro z
          refine c ?_
          have y : decide (V.int (xs.length : Int) = V.int 2) = false := decide_eq_false fun y => z (Int.ofNat.inj (V.int.inj y))
          show (!decide (V.int (xs.length : Int) = V.int 2)) = true
          rw [y] <;> rfl
        cases ta with
        | nil => exact absurd h2 (by decide)
        | cons t1 r1 =>
          cases r1 with
          | nil => exact absurd h2 (by simp)
          | cons t2 r2 =>
            cases r2 with
            | cons _ _ => exact absurd h2 (by simp)
            | nil =>
              rename_i x1 d1 x2 d2
              have f1 := fl d1 (by simp)
              have f2 := fl d2 (by simp)
              refine ⟨_, rfl, p, rfl, ⟨_, SqT.of ep⟩, fun D nD => ?_⟩
              refine lc_tup (K := K) (a := p) (xs := [x1, x2]) (fun i H2 => Same H H2 ∧ H2 D = some (.lst (match i with | 0 => [] | 1 => selV x1 d1 | _ => selV x1 d1 ++ selV x2 d2))) ⟨same_new nD, upd_same⟩ (fun i H2 _ hp => SqT.of (hp.1 _ _ ep)) (fun i v H2 hv hp => ?_) (fun H2 hp => ?_)
              · rcases i with _ | _ | i
                · cases hv
                  obtain ⟨n, kn, en⟩ := Th.kind (K := K) (t1.mono (.of hp.1))
                  have hp2 : H2 D = some (.lst []) := hp.2
                  refine ⟨rfl, _, rfl, _, n, rfl, kn, _, rfl, ?_⟩
                  rw [en]
                  cases hd : isI d1 with
                  | true =>
                    refine iteF ⟨hp.1, ?_⟩
                    rw [hp2]
                    show _ = some (HO.lst (selV x1 d1))
                    simp [selV, hd]
                  | false =>
                    refine iteT ⟨_, rfl, _, hp2, ?_, same_put hp.1 nD, ?_⟩
                    · exact (show 0 < sizeLine by decide)
                    · rw [upd_same]
                      show _ = some (HO.lst (selV x1 d1))
                      simp [selV, hd]
                · cases hv
                  obtain ⟨n, kn, en⟩ := Th.kind (K := K) (t2.mono (.of hp.1))
                  have hp2 : H2 D = some (.lst (selV x1 d1)) := hp.2
                  refine ⟨rfl, _, rfl, _, n, rfl, kn, _, rfl, ?_⟩
                  rw [en]
                  cases hd : isI d2 with
                  | true =>
                    refine iteF ⟨hp.1, ?_⟩
                    rw [hp2]
                    show _ = some (HO.lst (selV x1 d1 ++ selV x2 d2))
                    simp [selV, hd]
                  | false =>
                    refine iteT ⟨_, rfl, _, hp2, ?_, same_put hp.1 nD, ?_⟩
                    · exact sel_len _ _
                    · rw [upd_same]
                      show _ = some (HO.lst (selV x1 d1 ++ selV x2 d2))
                      simp [selV, hd]
                · cases hv
              · refine ⟨Nat.zero_le _, fun p2 np2 => ?_⟩
                obtain ⟨G, hG, sG, eG⟩ := mkG (.lst []) np2
                rw [← hG]
                clear hG
                have SG : Same H G := hp.1.trans sG
                have eD : G D = some (.lst (selV x1 d1 ++ selV x2 d2)) := sG _ _ hp.2
                refine ⟨.list (selD d1 ++ selD d2), .list [], .lst (SqL.of eD) (sel_dp (t1.mono (.of SG)) (t2.mono (.of SG))), .lst (SqL.of eG) .nil, sel_shaped f1 f2, rfl, _, rfl, ?_⟩
                cases i1 : isI d1 with
                | false =>
                  have z := q G SG
                  rw [isFr_not (.inl i1)] at z
                  have y : PyData.eqv (.list (selD d1 ++ selD d2)) (.list []) = false := by
                    unfold selD
                    rw [i1]
                    rfl
                  rw [y]
                  exact iteT z
                | true =>
                  cases i2 : isI d2 with
                  | false =>
                    have z := q G SG
                    rw [isFr_not (.inr i2)] at z
                    have y : PyData.eqv (.list (selD d1 ++ selD d2)) (.list []) = false := by
                      unfold selD
                      rw [i1, i2]
                      rfl
                    rw [y]
                    exact iteT z
                  | true =>
                    have y : PyData.eqv (.list (selD d1 ++ selD d2)) (.list []) = true := by
                      unfold selD
                      rw [i1, i2]
                      rfl
                    rw [y]
                    refine iteF ?_
                    cases t1 with
                    | int a =>
                      cases t2 with
                      | int b =>
                        have eG2 : G p = some (.tup [.int a, .int b]) := SG _ _ ep
                        refine ⟨_, rfl, p, _, _, _, rfl, rfl, SqT.of eG2, rfl, _, _, rfl, rfl, _, rfl, ite2 (fun c3 => ?_) (fun c3 => ?_)⟩
                        · have b0 : 0 < b := of_decide_eq_true c3
                          refine ⟨_, rfl, p, _, _, _, rfl, rfl, SqT.of eG2, rfl, _, rfl, p, _, _, _, rfl, rfl, SqT.of eG2, rfl, a, b, rfl, by omega, bd (.int b) (by simp) b rfl, fun H3 pt S3 np3 ep3 => ?_⟩
                          refine ⟨_, rfl, .tuple [.int (low a b).1, .int (low a b).2], .tuple [.int a, .int b], .tup (SqT.of ep3) (.cons (.int _) (.cons (.int _) .nil)), .tup (SqT.of (S3 _ _ eG2)) (.cons (.int _) (.cons (.int _) .nil)), rfl, rfl, ?_⟩
                          rw [eqv_low a b b0]
                          exact q _ (SG.trans S3)
                        · have z := q G SG
                          have e : isFr [.int a, .int b] = false := by
                            show (decide (0 < b) && decide (low a b = (a, b))) = false
                            rw [decide_eq_false (fun z => c3 (decide_eq_true z))] <;> rfl
                          rw [e] at z
                          exact z
                      | _ => cases i2
                    | _ => cases i1
end
end L2.K2

set_option Elab.async false
set_option linter.all false
set_option maxRecDepth 100000
set_option maxHeartbeats 8000000
namespace L2.K2
open PySem PySem.Spec PyProof.Rows L2.Sl L2.Fr
/-- signs alone -/
def okS (x : Str) : Prop := ∀ c ∈ x.cps.toList, c < 1114112
/-- a thing that is handed to what looks at things -/
inductive Sth (m gl : Addr) (H : Hp) : V → Prop
  | non : Sth m gl H .non
  | bl (b : Bool) : Sth m gl H (.bl b)
  | int (i : Int) : i.natAbs < 2 ^ 250 → Sth m gl H (.int i)
  | str (x : Str) : x.length ≤ 100 → okS x → Sth m gl H (.str x)
  | tup {p : Addr} {xs : List V} {ds : List PyData} : H p = some (.tup xs) → ThAll H xs ds → (∀ d ∈ ds, flat d) → (∀ d ∈ ds, ∀ b, d = .int b → b.natAbs < 2 ^ 250) → xs.length ≤ 3 → Sth m gl H (.ref p)
  | lst {p : Addr} {xs : List V} : H p = some (.lst xs) → p ≠ gl → Sth m gl H (.ref p)
  | dct {p : Addr} {l : List (Key × V)} : H p = some (.dK l) → p ≠ m → Sth m gl H (.ref p)
theorem Sth.same {m gl : Addr} {H H2 : Hp} {v : V} (s : Same H H2) (h : Sth m gl H v) : Sth m gl H2 v := by
  cases h with
  | non => exact .non
  | bl b => exact .bl b
  | int i z => exact .int i z
  | str x z y => exact .str x z y
  | tup a b c d e => exact .tup (s _ _ a) (b.mono (.of s)) c d e
  | lst a b => exact .lst (s _ _ a) b
  | dct a b => exact .dct (s _ _ a) b
theorem Sth.but {m gl : Addr} {H H2 : Hp} {v : V} (D : Drw H m gl) (b : But m gl H H2) (h : Sth m gl H v) : Sth m gl H2 v := by
  obtain ⟨z, k, em⟩ := D.d
  obtain ⟨ns, el, _⟩ := D.l
  cases h with
  | non => exact .non
  | bl b => exact .bl b
  | int i z => exact .int i z
  | str x z y => exact .str x z y
  | tup a t c d e => exact .tup (b.tups D _ _ a) (t.mono (b.tups D)) c d e
  | lst a n => exact .lst (b _ _ (ne_of a em (by intro q; cases q)) n a) n
  | dct a n => exact .dct (b _ _ n (ne_of a el (by intro q; cases q)) a) n
def spSg : Sp := fun vs H Q _ => ∃ (m gl p : Addr) (a b : Int), vs = [.ref m, .ref p] ∧ Drw H m gl ∧ H p = some (.tup [.int a, .int b]) ∧ a.natAbs < 2 ^ 210 ∧ b.natAbs < 2 ^ 210 ∧ ∀ H2 v, Drw H2 m gl → But m gl H H2 → Sth m gl H2 v → Q v H2
section
variable {P : Program} {w : World} {K : PySem.W.Frag} {mg : Str → Option Value} {base : Heap}
abbrev s_sg : Stmt := topS 31
abbrev N_sg : List Str := ["m", "x", "top", "under", "some"]
theorem sc_sg : FnScope N_sg ["m", "x"] (defScope s_sg) := ⟨rfl, rfl, rfl, by decide +kernel, rfl, by decide +kernel, by decide +kernel⟩
theorem ok_sg {f fdw : Addr} {fd ddw : FuncData} {k : Nat} (F : Fun K "_law_strange" "_law_strange" s_sg f fd) (F_dw : Fun K "_law_draw" "_law_draw" s_law_draw fdw ddw) (b_dw : Binds K ddw ["m", "many"] []) (g_dw : mg "_law_draw" = some (.ref fdw)) (n_len : mg "len" = none) : FnOk P w K mg base CX0 (k + 2) f fd ["m", "x"] spSg := by
  have G_dw : FnOk P w K mg base CX0 (k + 1) fdw ddw ["m", "many"] spDraw := ok_draw F_dw n_len
  refine F.ok sc_sg (fun vs H Q E h => ?_) (fun cdv A outer s H vs Q E hr h => ?_)
  · obtain ⟨m, gl, p, a, b, rfl, _⟩ := h
    rfl
  · obtain ⟨m, gl, p, a, b, rfl, D, ep, ba, bb, q⟩ := h
    refine ⟨_, (pss_cons (ps_asg (pv 1) (pg_tup rfl (pgs_cons (pg_name (i := 2) sc_sg.nd rfl (.inl rfl)) (pgs_cons (pg_name (i := 3) sc_sg.nd rfl (.inl rfl)) pgs_nil))))
      (pss_cons (ps_set (i := 4) sc_sg.nd rfl (.inl rfl) (pe_lst (pa_cons (pe_tup (pa_cons (pe_op op_mul pe_int (pv 2)) (pa_cons (pe_op op_mul pe_int (pv 3)) pa_nil))) (pa_cons (pe_tup (pa_cons (pe_op op_sub pe_int (pv 2)) (pa_cons (pe_op op_sub pe_int (pv 3)) pa_nil))) (pa_cons (pe_tup (pa_cons (pv 2) (pa_cons pe_int pa_nil))) (pa_cons (pe_tup (pa_cons (pv 2) (pa_cons (pv 3) (pa_cons pe_int pa_nil)))) (pa_cons (pe_lst (pa_cons (pv 2) (pa_cons (pv 3) pa_nil))) (pa_cons (pv 2) (pa_cons (pe_tup (pa_cons (pv 2) pa_nil)) (pa_cons (pe_tup (pa_cons pe_int (pa_cons pe_int pa_nil))) pa_nil))))))))))
      (pss_cons (ps_set (i := 4) sc_sg.nd rfl (.inl rfl) (pe_op op_cat (pv 4) (pe_lst (pa_cons (pe_tup (pa_cons pe_bl (pa_cons pe_int pa_nil))) (pa_cons (pe_tup (pa_cons pe_int (pa_cons pe_bl pa_nil))) (pa_cons (pe_tup (pa_cons (pe_tup (pa_cons pe_int (pa_cons pe_int pa_nil))) (pa_cons pe_int pa_nil))) (pa_cons (pe_tup (pa_cons pe_str (pa_cons pe_int pa_nil))) (pa_cons (pe_tup (pa_cons pe_non (pa_cons pe_int pa_nil))) (pa_cons (pe_tup pa_nil) (pa_cons pe_non (pa_cons pe_str (pa_cons pe_int (pa_cons pe_dnewK (pa_cons (pe_tup (pa_cons (pe_op op_sub pe_int (pv 2)) (pa_cons (pv 3) pa_nil))) (pa_cons (pv 1) pa_nil)))))))))))))))
      (pss_one (ps_ret (pe_ix ix_list (pe_op op_cat (pv 4) (pe_lst (pa_cons pe_bl (pa_cons pe_bl pa_nil)))) (pe_call G_dw hr (by rfl) g_dw F_dw.kp b_dw .nil pass0 (pa_cons (pv 0) (pa_cons pe_int pa_nil))) (fun _ _ => rfl))))))), ?_⟩
    refine ⟨_, rfl, p, _, rfl, SqT.of ep, rfl, _, _, rfl, _, _, rfl, rfl, ?_⟩
    refine ⟨_, rfl, _, _, rfl, rfl, .inl ⟨by decide, by decide⟩, _, rfl, _, _, rfl, rfl, .inl ⟨by decide, by decide⟩, (show 2 ≤ sizeLine by decide), fun p1 n1 => ?_⟩
    obtain ⟨G1, hG1, s1, e1⟩ := mkG (.tup [.int (2 * a), .int (2 * b)]) n1
    rw [← hG1]
    clear hG1
    refine ⟨_, rfl, _, _, rfl, rfl, _, rfl, _, _, rfl, rfl, (show 2 ≤ sizeLine by decide), fun p2 n2 => ?_⟩
    obtain ⟨G2, hG2, s2, e2⟩ := mkG (.tup [.int (0 - a), .int (0 - b)]) n2
    rw [← hG2]
    clear hG2
    refine ⟨_, rfl, (show 2 ≤ sizeLine by decide), fun p3 n3 => ?_⟩
    obtain ⟨G3, hG3, s3, e3⟩ := mkG (.tup [.int a, .int 0]) n3
    rw [← hG3]
    clear hG3
    refine ⟨_, rfl, _, rfl, (show 3 ≤ sizeLine by decide), fun p4 n4 => ?_⟩
    obtain ⟨G4, hG4, s4, e4⟩ := mkG (.tup [.int a, .int b, .int 1]) n4
    rw [← hG4]
    clear hG4
    refine ⟨_, rfl, _, rfl, (show 2 ≤ sizeLine by decide), fun p5 n5 => ?_⟩
    obtain ⟨G5, hG5, s5, e5⟩ := mkG (.lst [.int a, .int b]) n5
    rw [← hG5]
    clear hG5
    refine ⟨_, rfl, _, rfl, (show 1 ≤ sizeLine by decide), fun p6 n6 => ?_⟩
    obtain ⟨G6, hG6, s6, e6⟩ := mkG (.tup [.int a]) n6
    rw [← hG6]
    clear hG6
    refine ⟨(show 2 ≤ sizeLine by decide), fun p7 n7 => ?_⟩
    obtain ⟨G7, hG7, s7, e7⟩ := mkG (.tup [.int 0, .int 2]) n7
    rw [← hG7]
    clear hG7
    refine ⟨(show 8 ≤ sizeLine by decide), fun p8 n8 => ?_⟩
    obtain ⟨G8, hG8, s8, e8⟩ := mkG (.lst [.ref p1, .ref p2, .ref p3, .ref p4, .ref p5, .int a, .ref p6, .ref p7]) n8
    rw [← hG8]
    clear hG8
    refine ⟨_, rfl, (show 2 ≤ sizeLine by decide), fun p9 n9 => ?_⟩
    obtain ⟨G9, hG9, s9, e9⟩ := mkG (.tup [.bl true, .int 1]) n9
    rw [← hG9]
    clear hG9
    refine ⟨(show 2 ≤ sizeLine by decide), fun p10 n10 => ?_⟩
    obtain ⟨G10, hG10, s10, e10⟩ := mkG (.tup [.int 1, .bl true]) n10
    rw [← hG10]
    clear hG10
    refine ⟨(show 2 ≤ sizeLine by decide), fun p11 n11 => ?_⟩
    obtain ⟨G11, hG11, s11, e11⟩ := mkG (.tup [.int 1, .int 2]) n11
    rw [← hG11]
    clear hG11
    refine ⟨(show 2 ≤ sizeLine by decide), fun p12 n12 => ?_⟩
    obtain ⟨G12, hG12, s12, e12⟩ := mkG (.tup [.ref p11, .int 1]) n12
    rw [← hG12]
    clear hG12
    refine ⟨(show 2 ≤ sizeLine by decide), fun p13 n13 => ?_⟩
    obtain ⟨G13, hG13, s13, e13⟩ := mkG (.tup [.str "1", .int 2]) n13
    rw [← hG13]
    clear hG13
    refine ⟨(show 2 ≤ sizeLine by decide), fun p14 n14 => ?_⟩
    obtain ⟨G14, hG14, s14, e14⟩ := mkG (.tup [.non, .int 1]) n14
    rw [← hG14]
    clear hG14
    refine ⟨(show 0 ≤ sizeLine by decide), fun p15 n15 => ?_⟩
    obtain ⟨G15, hG15, s15, e15⟩ := mkG (.tup []) n15
    rw [← hG15]
    clear hG15
    intro p16 n16
    obtain ⟨G16, hG16, s16, e16⟩ := mkG (.dK []) n16
    rw [← hG16]
    clear hG16
    refine ⟨_, rfl, _, _, rfl, rfl, _, rfl, (show 2 ≤ sizeLine by decide), fun p17 n17 => ?_⟩
    obtain ⟨G17, hG17, s17, e17⟩ := mkG (.tup [.int (0 - a), .int b]) n17
    rw [← hG17]
    clear hG17
    refine ⟨_, rfl, (show 12 ≤ sizeLine by decide), fun p18 n18 => ?_⟩
    obtain ⟨G18, hG18, s18, e18⟩ := mkG (.lst [.ref p9, .ref p10, .ref p12, .ref p13, .ref p14, .ref p15, .non, .str "1/2", .int 5, .ref p16, .ref p17, .ref p]) n18
    rw [← hG18]
    clear hG18
    have S8_18 : Same G8 G18 := (s9.trans (s10.trans (s11.trans (s12.trans (s13.trans (s14.trans (s15.trans (s16.trans (s17.trans s18)))))))))
    refine ⟨_, _, _, _, rfl, rfl, S8_18 _ _ e8, e18, (show 8 + 12 ≤ sizeLine by decide), fun p19 n19 => ?_⟩
    obtain ⟨G19, hG19, s19, e19⟩ := mkG (.lst ([.ref p1, .ref p2, .ref p3, .ref p4, .ref p5, .int a, .ref p6, .ref p7] ++ [.ref p9, .ref p10, .ref p12, .ref p13, .ref p14, .ref p15, .non, .str "1/2", .int 5, .ref p16, .ref p17, .ref p])) n19
    rw [← hG19]
    clear hG19
    refine ⟨_, rfl, (show 2 ≤ sizeLine by decide), fun p20 n20 => ?_⟩
    obtain ⟨G20, hG20, s20, e20⟩ := mkG (.lst [.bl true, .bl false]) n20
    rw [← hG20]
    clear hG20
    refine ⟨_, _, _, _, rfl, rfl, s20 _ _ e19, e20, (show 20 + 2 ≤ sizeLine by decide), fun p21 n21 => ?_⟩
    obtain ⟨G21, hG21, s21, e21⟩ := mkG (.lst (([.ref p1, .ref p2, .ref p3, .ref p4, .ref p5, .int a, .ref p6, .ref p7] ++ [.ref p9, .ref p10, .ref p12, .ref p13, .ref p14, .ref p15, .non, .str "1/2", .int 5, .ref p16, .ref p17, .ref p]) ++ [.bl true, .bl false])) n21
    rw [← hG21]
    clear hG21
    have S : Same H G21 := s1.trans (s2.trans (s3.trans (s4.trans (s5.trans (s6.trans (s7.trans (s8.trans (s9.trans (s10.trans (s11.trans (s12.trans (s13.trans (s14.trans (s15.trans (s16.trans (s17.trans (s18.trans (s19.trans (s20.trans s21)))))))))))))))))))
    have f1 := ((s2.trans (s3.trans (s4.trans (s5.trans (s6.trans (s7.trans (s8.trans (s9.trans (s10.trans (s11.trans (s12.trans (s13.trans (s14.trans (s15.trans (s16.trans (s17.trans (s18.trans (s19.trans (s20.trans s21)))))))))))))))))))) _ _ e1
    have f2 := ((s3.trans (s4.trans (s5.trans (s6.trans (s7.trans (s8.trans (s9.trans (s10.trans (s11.trans (s12.trans (s13.trans (s14.trans (s15.trans (s16.trans (s17.trans (s18.trans (s19.trans (s20.trans s21))))))))))))))))))) _ _ e2
    have f3 := ((s4.trans (s5.trans (s6.trans (s7.trans (s8.trans (s9.trans (s10.trans (s11.trans (s12.trans (s13.trans (s14.trans (s15.trans (s16.trans (s17.trans (s18.trans (s19.trans (s20.trans s21)))))))))))))))))) _ _ e3
    have f4 := ((s5.trans (s6.trans (s7.trans (s8.trans (s9.trans (s10.trans (s11.trans (s12.trans (s13.trans (s14.trans (s15.trans (s16.trans (s17.trans (s18.trans (s19.trans (s20.trans s21))))))))))))))))) _ _ e4
    have f5 := ((s6.trans (s7.trans (s8.trans (s9.trans (s10.trans (s11.trans (s12.trans (s13.trans (s14.trans (s15.trans (s16.trans (s17.trans (s18.trans (s19.trans (s20.trans s21)))))))))))))))) _ _ e5
    have f6 := ((s7.trans (s8.trans (s9.trans (s10.trans (s11.trans (s12.trans (s13.trans (s14.trans (s15.trans (s16.trans (s17.trans (s18.trans (s19.trans (s20.trans s21))))))))))))))) _ _ e6
    have f7 := ((s8.trans (s9.trans (s10.trans (s11.trans (s12.trans (s13.trans (s14.trans (s15.trans (s16.trans (s17.trans (s18.trans (s19.trans (s20.trans s21)))))))))))))) _ _ e7
    have f8 := ((s9.trans (s10.trans (s11.trans (s12.trans (s13.trans (s14.trans (s15.trans (s16.trans (s17.trans (s18.trans (s19.trans (s20.trans s21))))))))))))) _ _ e8
    have f9 := ((s10.trans (s11.trans (s12.trans (s13.trans (s14.trans (s15.trans (s16.trans (s17.trans (s18.trans (s19.trans (s20.trans s21)))))))))))) _ _ e9
    have f10 := ((s11.trans (s12.trans (s13.trans (s14.trans (s15.trans (s16.trans (s17.trans (s18.trans (s19.trans (s20.trans s21))))))))))) _ _ e10
    have f11 := ((s12.trans (s13.trans (s14.trans (s15.trans (s16.trans (s17.trans (s18.trans (s19.trans (s20.trans s21)))))))))) _ _ e11
    have f12 := ((s13.trans (s14.trans (s15.trans (s16.trans (s17.trans (s18.trans (s19.trans (s20.trans s21))))))))) _ _ e12
    have f13 := ((s14.trans (s15.trans (s16.trans (s17.trans (s18.trans (s19.trans (s20.trans s21)))))))) _ _ e13
    have f14 := ((s15.trans (s16.trans (s17.trans (s18.trans (s19.trans (s20.trans s21))))))) _ _ e14
    have f15 := ((s16.trans (s17.trans (s18.trans (s19.trans (s20.trans s21)))))) _ _ e15
    have f16 := ((s17.trans (s18.trans (s19.trans (s20.trans s21))))) _ _ e16
    have f17 := ((s18.trans (s19.trans (s20.trans s21)))) _ _ e17
    have f18 := ((s19.trans (s20.trans s21))) _ _ e18
    have f19 := ((s20.trans s21)) _ _ e19
    have f20 := (s21) _ _ e20
    have D21 := D.same S
    have ngl : p5 ≠ gl := by
      obtain ⟨ns, el, _⟩ := D.l
      exact (ne_of_none ((s1.trans (s2.trans (s3.trans s4))) _ _ el) n5).symm
    have nm : p16 ≠ m := by
      obtain ⟨z, kk, em⟩ := D.d
      exact (ne_of_none ((s1.trans (s2.trans (s3.trans (s4.trans (s5.trans (s6.trans (s7.trans (s8.trans (s9.trans (s10.trans (s11.trans (s12.trans (s13.trans (s14.trans s15)))))))))))))) _ _ em) n16).symm
    have sth : ∀ v ∈ (([.ref p1, .ref p2, .ref p3, .ref p4, .ref p5, .int a, .ref p6, .ref p7] ++ [.ref p9, .ref p10, .ref p12, .ref p13, .ref p14, .ref p15, .non, .str "1/2", .int 5, .ref p16, .ref p17, .ref p]) ++ [.bl true, .bl false] : List V), Sth m gl G21 v := by
      intro v hv
      simp only [List.cons_append, List.nil_append, List.mem_cons, List.mem_nil_iff, or_false] at hv
      rcases hv with rfl | rfl | rfl | rfl | rfl | rfl | rfl | rfl | rfl | rfl | rfl | rfl | rfl | rfl | rfl | rfl | rfl | rfl | rfl | rfl | rfl | rfl
      · exact .tup f1 (.cons (.int _) (.cons (.int _) .nil)) (by simp [flat, PyData.canLay0, PyData.canLayAll0, PyData.depth, PyData.depthAll]) (by simp <;> omega) (by simp)
      · exact .tup f2 (.cons (.int _) (.cons (.int _) .nil)) (by simp [flat, PyData.canLay0, PyData.canLayAll0, PyData.depth, PyData.depthAll]) (by simp <;> omega) (by simp)
      · exact .tup f3 (.cons (.int _) (.cons (.int _) .nil)) (by simp [flat, PyData.canLay0, PyData.canLayAll0, PyData.depth, PyData.depthAll]) (by simp <;> omega) (by simp)
      · exact .tup f4 (.cons (.int _) (.cons (.int _) (.cons (.int _) .nil))) (by simp [flat, PyData.canLay0, PyData.canLayAll0, PyData.depth, PyData.depthAll]) (by simp <;> omega) (by simp)
      · exact .lst f5 ngl
      · exact .int _ (by omega)
      · exact .tup f6 (.cons (.int _) .nil) (by simp [flat, PyData.canLay0, PyData.canLayAll0, PyData.depth, PyData.depthAll]) (by simp <;> omega) (by simp)
      · exact .tup f7 (.cons (.int _) (.cons (.int _) .nil)) (by simp [flat, PyData.canLay0, PyData.canLayAll0, PyData.depth, PyData.depthAll]) (by simp <;> omega) (by simp)
      · exact .tup f9 (.cons (.bl _) (.cons (.int _) .nil)) (by simp [flat, PyData.canLay0, PyData.canLayAll0, PyData.depth, PyData.depthAll]) (by simp <;> omega) (by simp)
      · exact .tup f10 (.cons (.int _) (.cons (.bl _) .nil)) (by simp [flat, PyData.canLay0, PyData.canLayAll0, PyData.depth, PyData.depthAll]) (by simp <;> omega) (by simp)
      · exact .tup f12 (.cons (.tup f11 (.cons (.int _) (.cons (.int _) .nil))) (.cons (.int _) .nil)) (by simp [flat, PyData.canLay0, PyData.canLayAll0, PyData.depth, PyData.depthAll]) (by simp <;> omega) (by simp)
      · exact .tup f13 (.cons (.str _) (.cons (.int _) .nil)) (by simp [flat, PyData.canLay0, PyData.canLayAll0, PyData.depth, PyData.depthAll]; decide +kernel) (by simp <;> omega) (by simp)
      · exact .tup f14 (.cons .non (.cons (.int _) .nil)) (by simp [flat, PyData.canLay0, PyData.canLayAll0, PyData.depth, PyData.depthAll]) (by simp <;> omega) (by simp)
      · exact .tup f15 .nil (by simp [flat, PyData.canLay0, PyData.canLayAll0, PyData.depth, PyData.depthAll]) (by simp <;> omega) (by simp)
      · exact .non
      · exact .str _ (by decide +kernel) (by unfold okS; decide +kernel)
      · exact .int _ (by decide)
      · exact .dct f16 nm
      · exact .tup f17 (.cons (.int _) (.cons (.int _) .nil)) (by simp [flat, PyData.canLay0, PyData.canLayAll0, PyData.depth, PyData.depthAll]) (by simp <;> omega) (by simp)
      · exact .tup (S _ _ ep) (.cons (.int _) (.cons (.int _) .nil)) (by simp [flat, PyData.canLay0, PyData.canLayAll0, PyData.depth, PyData.depthAll]) (by simp <;> omega) (by simp)
      · exact .bl _
      · exact .bl _
    refine ⟨_, rfl, m, gl, 22, rfl, D21, by decide, by decide, fun H2 j j0 j1 D2 B2 => ?_⟩
    obtain ⟨v, hv, mv⟩ := at_mem (xs := (([.ref p1, .ref p2, .ref p3, .ref p4, .ref p5, .int a, .ref p6, .ref p7] ++ [.ref p9, .ref p10, .ref p12, .ref p13, .ref p14, .ref p15, .non, .str "1/2", .int 5, .ref p16, .ref p17, .ref p]) ++ [.bl true, .bl false] : List V)) j0 (by simp only [List.length_append, List.length_cons, List.length_nil]; omega)
    have np21 : p21 ≠ gl := by
      obtain ⟨ns, el, _⟩ := D.l
      exact (ne_of_none ((s1.trans (s2.trans (s3.trans (s4.trans (s5.trans (s6.trans (s7.trans (s8.trans (s9.trans (s10.trans (s11.trans (s12.trans (s13.trans (s14.trans (s15.trans (s16.trans (s17.trans (s18.trans (s19.trans s20))))))))))))))))))) _ _ el) n21).symm
    refine ⟨p21, _, _, v, rfl, rfl, SqL.of (B2.keep D21 e21 (fun _ z => nomatch z) (fun _ _ => np21)), hv, ?_⟩
    exact q _ v D2 ((But.same S).trans B2) ((sth v mv).but D21 B2)
end
end L2.K2

set_option Elab.async false
set_option linter.all false
set_option maxRecDepth 100000
set_option maxHeartbeats 8000000
namespace L2.K2
open PySem PySem.Spec PyProof.Rows L2.Sl L2.Fr
theorem at_any {α : Type} {xs : List α} {k : Int} (h0 : 0 ≤ k) (h1 : k < (xs.length : Int)) : ∃ v, atI xs k = some v := by
  obtain ⟨j, rfl⟩ : ∃ j : Nat, k = (j : Int) := ⟨k.toNat, by omega⟩
  have hj : j < xs.length := by omega
  exact ⟨xs[j], atI_nat (by simp [hj])⟩
theorem But.put {m gl p : Addr} {H H2 : Hp} {o : HO} (b : But m gl H H2) (n : H p = none) : But m gl H (upd H2 p o) := fun x o2 h1 h2 e => by
  rw [upd_ne (ne_of_none e n)]
  exact b x o2 h1 h2 e
theorem Drw.put {H : Hp} {m gl p : Addr} {o : HO} (D : Drw H m gl) (h1 : p ≠ m) (h2 : p ≠ gl) : Drw (upd H p o) m gl := by
  obtain ⟨⟨z, k, em⟩, ⟨ns, el, ln⟩, ne⟩ := D
  exact ⟨⟨z, k, by rw [upd_ne h1.symm]; exact em⟩, ⟨ns, by rw [upd_ne h2.symm]; exact el, ln⟩, ne⟩
theorem sum_ones : ∀ {ys : List Str}, (∀ y ∈ ys, y.length = 1) → (ys.map (·.length)).sum = ys.length
  | [], _ => rfl
  | y :: r, h => by
    rw [List.map_cons, List.sum_cons, List.length_cons, sum_ones (fun z hz => h z (List.mem_cons_of_mem _ hz))]
    show y.length + r.length = r.length + 1
    rw [h y List.mem_cons_self, Nat.add_comm]
theorem okS_app {x y : Str} (h1 : okS x) (h2 : okS y) : okS (x ++ y) := fun c hc => by
  have e : (x ++ y).cps.toList = x.cps.toList ++ y.cps.toList := Array.toList_append ..
  rw [e] at hc
  rcases List.mem_append.mp hc with h | h
  · exact h1 c h
  · exact h2 c h
theorem okS_cut {x : Str} {lo hi : Option Int} (h : okS x) : okS (cutS x lo hi) := fun c hc => h c (List.mem_of_mem_drop (List.mem_of_mem_take hc))
theorem okS_join : ∀ {ys : List Str}, (∀ y ∈ ys, okS y) → okS (Str.join (Str.ofString "") ys)
  | [], _ => by unfold okS; decide +kernel
  | [y], h => h y (by simp)
  | y :: z :: r, h => okS_app (okS_app (h y (by simp)) (by unfold okS; decide +kernel)) (okS_join (ys := z :: r) fun u hu => h u (List.mem_cons_of_mem _ hu))
theorem okS_Join {ys : List Str} (h : ∀ y ∈ ys, okS y) : okS (Txt.join (Str.ofString "") ys) := by
  show okS (Builtin.Str.glued (Str.ofString "") ys)
  rw [StrLaws.glued_eq_join]
  exact okS_join h
theorem okS_at {z : Str} {j : Int} {c : Nat} (hz : okS z) (h : atI z.cps.toList j = some c) : okS ⟨#[c]⟩ := fun d hd => by
  have e : d = c := by simpa using hd
  rw [e]
  unfold atI at h
  cases q : ixN z.cps.toList.length j with
  | none => rw [q] at h; cases h
  | some i =>
    rw [q] at h
    exact hz c (List.mem_of_getElem? h)
def spTx : Sp := fun vs H Q _ => ∃ (m gl : Addr), vs = [.ref m] ∧ Drw H m gl ∧ ∀ H2 x, x.length ≤ 30 → okS x → Drw H2 m gl → But m gl H H2 → Q (.str x) H2
section
variable {P : Program} {w : World} {K : PySem.W.Frag} {mg : Str → Option Value} {base : Heap}
abbrev s_tx : Stmt := topS 32
abbrev N_tx : List Str := ["m", "small", "k", "signs", "at", "far", "sign", "way"]
theorem sc_tx : FnScope N_tx ["m"] (defScope s_tx) := ⟨rfl, rfl, rfl, by decide +kernel, rfl, by decide +kernel, by decide +kernel⟩
theorem ok_tx {f fdw : Addr} {fd ddw : FuncData} {k : Nat} (F : Fun K "_law_text" "_law_text" s_tx f fd) (F_dw : Fun K "_law_draw" "_law_draw" s_law_draw fdw ddw) (b_dw : Binds K ddw ["m", "many"] []) (g_dw : mg "_law_draw" = some (.ref fdw)) (n_len : mg "len" = none) (n_range : mg "range" = none) : FnOk P w K mg base CX0 (k + 2) f fd ["m"] spTx := by
  have G_dw : FnOk P w K mg base CX0 (k + 1) fdw ddw ["m", "many"] spDraw := ok_draw F_dw n_len
  refine F.ok sc_tx (fun vs H Q E h => ?_) (fun cdv A outer s H vs Q E hr h => ?_)
  · obtain ⟨m, gl, rfl, _⟩ := h
    rfl
  · obtain ⟨m, gl, rfl, D, q⟩ := h
    refine ⟨_, (pss_cons (ps_set (i := 1) sc_tx.nd rfl (.inl rfl) (pe_join pe_str (pe_lc (own := [("k", 2)]) (te := tOp rIxS (tC (.str "abcdefghijklmnopqrstuvwxyz")) (tCall spDraw [] E0 (tCons (tVar 0) (tCons (tC (.int 26)) tNil)))) (by rfl) sc_tx.nd (pi_range1 (by rfl) n_range (pa_cons (pe_call G_dw hr (by rfl) g_dw F_dw.kp b_dw .nil pass0 (pa_cons (pv 0) (pa_cons pe_int pa_nil))) pa_nil)) (blkOk_by (own := [("k", 2)]) (N := N_tx) (sc := defScope s_tx) (by decide +kernel)) (fun _ _ _ _ _ => (pg_name (i := 2) sc_tx.nd rfl (.inl rfl))) (fun _ _ _ _ _ => pts_nil) (fun _ _ _ _ _ => (pe_ix ix_str pe_str (pe_call G_dw hr (by rfl) g_dw F_dw.kp b_dw .nil pass0 (pa_cons (pv 0) (pa_cons pe_int pa_nil))) (fun _ _ => rfl))))))
      (pss_cons (ps_set (i := 3) sc_tx.nd rfl (.inl rfl) pe_str)
      (pss_cons (ps_asg (pe_tup (pa_cons (pe_call G_dw hr (by rfl) g_dw F_dw.kp b_dw .nil pass0 (pa_cons (pv 0) (pa_cons pe_int pa_nil))) (pa_cons (pe_call G_dw hr (by rfl) g_dw F_dw.kp b_dw .nil pass0 (pa_cons (pv 0) (pa_cons pe_int pa_nil))) (pa_cons (pe_ix ix_str (pv 3) (pe_call G_dw hr (by rfl) g_dw F_dw.kp b_dw .nil pass0 (pa_cons (pv 0) (pa_cons (pe_callB call_len_str (by rfl) n_len (by decide +kernel) (pa_cons (pv 3) pa_nil)) pa_nil))) (fun _ _ => rfl)) (pa_cons (pe_call G_dw hr (by rfl) g_dw F_dw.kp b_dw .nil pass0 (pa_cons (pv 0) (pa_cons pe_int pa_nil))) pa_nil))))) (pg_tup rfl (pgs_cons (pg_name (i := 4) sc_tx.nd rfl (.inl rfl)) (pgs_cons (pg_name (i := 5) sc_tx.nd rfl (.inl rfl)) (pgs_cons (pg_name (i := 6) sc_tx.nd rfl (.inl rfl)) (pgs_cons (pg_name (i := 7) sc_tx.nd rfl (.inl rfl)) pgs_nil))))))
      (pss_one (ps_ret (pe_ifExp (pt_cmpR op_eq (pv 7) pe_int (nomark _)) (pv 1) (pe_op op_add_str (pe_op op_add_str (pe_slice sl_str (pv 1) po_none (po_some (pv 4))) (pv 6)) (pe_slice sl_str (pv 1) (po_some (pe_op op_add (pv 4) (pv 5))) po_none)))))))), ?_⟩
    refine ⟨⟨_, rfl⟩, _, rfl, m, gl, 11, rfl, D, by decide, by decide, fun H1 r r0 r1 D1 B1 => ⟨r, rfl, by omega, by omega, fun L nL => ?_⟩⟩
    have Lm : L ≠ m := by
      obtain ⟨z, kk, em⟩ := D1.d
      exact (ne_of_none em nL).symm
    have Lg : L ≠ gl := by
      obtain ⟨ns, el, _⟩ := D1.l
      exact (ne_of_none el nL).symm
    refine lc_range (lo := 0) (n := r.toNat) (fun i H2 => Drw H2 m gl ∧ But m gl H1 H2 ∧ ∃ ys : List Str, H2 L = some (.lst (ys.map V.str)) ∧ ys.length = i ∧ (∀ y ∈ ys, y.length = 1) ∧ ∀ y ∈ ys, okS y) ⟨D1.put Lm Lg, But.refl.put nL, [], upd_same, rfl, (fun _ z => nomatch z), (fun _ z => nomatch z)⟩ (fun i H2 hi hP => ?_) (fun H2 hP => ?_)
    · obtain ⟨D2, B2, ys, eL, ly, one, oks⟩ := hP
      refine ⟨rfl, ?_⟩
      refine ⟨_, rfl, m, gl, 26, rfl, D2, by decide, by decide, fun H3 j j0 j1 D3 B3 => ?_⟩
      obtain ⟨c, hc⟩ := at_any (xs := (Str.ofString "abcdefghijklmnopqrstuvwxyz").cps.toList) j0 (show j < (26 : Int) from j1)
      have eL3 : H3 L = some (.lst (ys.map V.str)) := B3.keep D2 eL (fun _ z => nomatch z) (fun _ _ => Lg)
      refine ⟨_, j, c, rfl, rfl, by decide, hc, _, eL3, ?_, D3.put Lm Lg, (B2.trans B3).put nL, ys ++ [⟨#[c]⟩], ?_, ?_, ?_, ?_⟩
      · rw [List.length_map, ly]
        exact Nat.lt_trans hi (Nat.lt_of_lt_of_le (show r.toNat < 11 by omega) (by decide))
      · rw [upd_same, List.map_append]
        rfl
      · rw [List.length_append, ly]
        rfl
      · intro y hy
        rcases List.mem_append.mp hy with h | h
        · exact one y h
        · rw [List.mem_singleton.mp h]
          rfl
      · intro y hy
        rcases List.mem_append.mp hy with h | h
        · exact oks y h
        · rw [List.mem_singleton.mp h]
          exact okS_at (by unfold okS; decide +kernel) hc
    · obtain ⟨D2, B2, ys, eL, ly, one, oks⟩ := hP
      have l10 : ys.length ≤ 10 := by omega
      have ez : (Str.ofString "").length = 0 := by decide
      refine ⟨_, L, ys, rfl, rfl, .inl (SqL.of eL), by rw [sum_ones one, ez]; omega, ?_⟩
      have xl : (Txt.join (Str.ofString "") ys).length ≤ 10 := by rw [PySem.W.KT.join_ones ys one]; exact l10
      have xo : okS (Txt.join (Str.ofString "") ys) := okS_Join oks
      generalize Txt.join (Str.ofString "") ys = x at xl xo
      have B02 : But m gl H H2 := B1.trans B2
      refine ⟨_, rfl, m, gl, 10, rfl, D2, by decide, by decide, fun H3 aT a0 a1 D3 B3 => ⟨_, rfl, m, gl, 2, rfl, D3, by decide, by decide, fun H4 far f0 f1 D4 B4 => ?_⟩⟩
      refine ⟨_, rfl, _, rfl, _, rfl, _, rfl, by decide +kernel, m, gl, _, rfl, D4, by decide +kernel, by decide +kernel, fun H5 j j0 j1 D5 B5 => ?_⟩
      obtain ⟨c, hc⟩ := at_any (xs := (Str.ofString " !\"#$&'()*+,-./0123456789:;<=>?@ABCDEFGHIJKLMNOPQRSTUVWXYZ[\\]^_`{|}~\n").cps.toList) j0 (by exact j1)
      refine ⟨_, j, c, rfl, rfl, by decide +kernel, hc, ?_⟩
      refine ⟨_, rfl, m, gl, 2, rfl, D5, by decide, by decide, fun H6 way w0 w1 D6 B6 => ⟨(show 4 ≤ sizeLine by decide), fun p np => ?_⟩⟩
      obtain ⟨G, hG, sG, eG⟩ := mkG (.tup [.int aT, .int far, .str ⟨#[c]⟩, .int way]) np
      rw [← hG]
      clear hG
      have D7 := D6.same sG
      have B7 : But m gl H G := B02.trans (B3.trans (B4.trans (B5.trans (B6.trans (.same sG)))))
      refine ⟨p, _, rfl, SqT.of eG, rfl, _, _, rfl, _, _, rfl, _, _, rfl, _, _, rfl, rfl, ?_⟩
      refine ⟨_, rfl, rfl, _, rfl, ite2 (fun c2 => ?_) (fun c2 => ?_)⟩
      · exact ⟨_, rfl, q G x (by omega) xo D7 B7⟩
      · have h1 := cutS_length x none (some aT)
        have h2 := cutS_length x (some (aT + far)) none
        have hs : ∀ n : Nat, n ≤ 30 → n ≤ sizeLine := fun n hn => Nat.le_trans hn (by decide)
        have lc : ∀ z : Str, (z ++ (⟨#[c]⟩ : Str)).length = z.length + 1 := fun z => Array.size_append ..
        refine ⟨_, rfl, _, rfl, _, rfl, x, rfl, hs _ (by omega), _, rfl, _, _, rfl, rfl, hs _ (by show _ + 1 ≤ 30; omega), _, rfl, _, rfl, _, rfl, _, _, rfl, rfl, _, rfl, x, rfl, hs _ (by omega), _, _, rfl, rfl, hs _ (by rw [lc]; omega), ?_⟩
        refine q G _ ?_ (okS_app (okS_app (okS_cut xo) (okS_at (by unfold okS; decide +kernel) hc)) (okS_cut xo)) D7 B7
        have e : ∀ y z : Str, (y ++ z).length = y.length + z.length := fun y z => Array.size_append ..
        rw [e, lc]
        omega
end
end L2.K2

set_option Elab.async false
set_option linter.all false
set_option maxRecDepth 100000
set_option maxHeartbeats 8000000
namespace L2.K2
open PySem PySem.Spec PyProof.Rows L2.Sl L2.Fr
abbrev alph : Str := "abcdefghijklmnopqrstuvwxyz"
/-- a sign that stands in the small letters -/
def hit (c : Nat) : Bool := !(Builtin.Str.occurrences alph ⟨#[c]⟩ 0 alph.length 1).isEmpty
def isNm (z : Str) : Bool := decide (0 < z.length) && (decide (z.length < 9) && z.cps.toList.all hit)
def nameOf : V → Bool
  | .str z => isNm z
  | _ => false
def isS : V → Bool
  | .str _ => true
  | _ => false
theorem Sth.kind {K : PySem.W.Frag} {m gl : Addr} {H : Hp} {v : V} (h : Sth m gl H v) : ∃ n, Kind K H v n ∧ (n == "str") = isS v := by
  cases h with
  | non => exact ⟨_, ⟨.base .non, .inr (.inr (.inr (.inl rfl)))⟩, (by decide +kernel : ("NoneType" == "str") = false)⟩
  | bl b => exact ⟨_, ⟨.base (.bl b), .inr (.inl rfl)⟩, (by decide +kernel : ("bool" == "str") = false)⟩
  | int i => exact ⟨_, ⟨.base (.int i), .inl rfl⟩, (by decide +kernel : ("int" == "str") = false)⟩
  | str x => exact ⟨_, ⟨.base (.str x), .inr (.inr (.inl rfl))⟩, (by decide +kernel : ("str" == "str") = true)⟩
  | tup e r => exact ⟨_, ⟨.base (.tup e), .inr (.inr (.inr (.inr (.inl rfl))))⟩, (by decide +kernel : ("tuple" == "str") = false)⟩
  | lst e _ => exact ⟨_, ⟨.base (.lst e), .inr (.inr (.inr (.inr (.inr (.inl rfl)))))⟩, (by decide +kernel : ("list" == "str") = false)⟩
  | dct e _ => exact ⟨_, ⟨.base (.dK e), .inr (.inr (.inr (.inr (.inr (.inr rfl)))))⟩, (by decide +kernel : ("dict" == "str") = false)⟩
def bad (z : Str) (i : Nat) : List Nat := (z.cps.toList.take i).filter fun c => !hit c
def oneV (c : Nat) : V := .str ⟨#[c]⟩
def oneD (c : Nat) : PyData := .str ⟨#[c]⟩
theorem bad_more {z : Str} {i c : Nat} (h : z.cps[i]? = some c) : bad z (i + 1) = bad z i ++ (if hit c then [] else [c]) := by
  have e : z.cps.toList[i]? = some c := by rw [Array.getElem?_toList]; exact h
  unfold bad
  rw [List.take_succ, e, List.filter_append]
  congr 1
  show List.filter (fun c => !hit c) [c] = _
  cases q : hit c <;> simp [q]
theorem bad_all {z : Str} : (bad z z.cps.size).isEmpty = z.cps.toList.all hit := by
  unfold bad
  rw [← Array.length_toList, List.take_length]
  induction z.cps.toList with
  | nil => rfl
  | cons c r ih => cases q : hit c <;> simp_all
theorem bad_dp {K : PySem.W.Frag} {H : Hp} : ∀ l : List Nat, DpAll K H (l.map oneV) (l.map oneD)
  | [] => .nil
  | _ :: r => .cons (.str _) (bad_dp r)
theorem bad_lay : ∀ {l : List Nat}, (∀ c ∈ l, c < 1114112) → PyData.canLayAll0 (l.map oneD) = true
  | [], _ => rfl
  | c :: r, h => by
    have h1 : PyData.canLay0 (oneD c) = true := by
      have := h c List.mem_cons_self
      simp [oneD, PyData.canLay0, PyData.strOk, this]
    show (PyData.canLay0 (oneD c) && PyData.canLayAll0 (r.map oneD)) = true
    rw [h1, bad_lay fun d hd => h d (List.mem_cons_of_mem _ hd)] <;> rfl
theorem bad_depth : ∀ l : List Nat, PyData.depthAll (l.map oneD) = 0
  | [] => rfl
  | c :: r => by
    show max (PyData.depth (oneD c)) (PyData.depthAll (r.map oneD)) = 0
    rw [bad_depth r] <;> rfl
theorem bad_ok {z : Str} {i : Nat} (h : okS z) : ∀ c ∈ bad z i, c < 1114112 := fun c hc => h c (List.mem_of_mem_take (List.mem_filter.mp hc).1)
theorem bad_shaped {z : Str} {i : Nat} (h : okS z) : SeqAt.shaped (.list ((bad z i).map oneD)) = true := by
  unfold SeqAt.shaped
  rw [Bool.and_eq_true]
  refine ⟨bad_lay (bad_ok h), decide_eq_true ?_⟩
  show PyData.depthAll ((bad z i).map oneD) + 1 ≤ 64
  rw [bad_depth] <;> decide
theorem bad_eqv (l : List Nat) : PyData.eqv (.list (l.map oneD)) (.list []) = l.isEmpty := by
  cases l <;> rfl
def spNm : Sp := fun vs H Q _ => ∃ (m gl : Addr) (x : V), vs = [x] ∧ Sth m gl H x ∧ ∀ H2, Same H H2 → Q (.bl (nameOf x)) H2
section
variable {P : Program} {w : World} {K : PySem.W.Frag} {mg : Str → Option Value} {base : Heap}
abbrev s_nm : Stmt := topS 33
abbrev N_nm : List Str := ["it", "sign"]
theorem sc_nm : FnScope N_nm ["it"] (defScope s_nm) := ⟨rfl, rfl, rfl, by decide +kernel, rfl, by decide +kernel, by decide +kernel⟩
theorem ok_nm {f : Addr} {fd : FuncData} {k : Nat} (F : Fun K "_law_is_name" "_law_is_name" s_nm f fd) (n_len : mg "len" = none) (n_isinstance : mg "isinstance" = none) (n_str : mg "str" = none) : FnOk P w K mg base CX0 (k + 1) f fd ["it"] spNm := by
  refine F.ok sc_nm (fun vs H Q E h => ?_) (fun cdv A outer s H vs Q E hr h => ?_)
  · obtain ⟨m, gl, x, rfl, _⟩ := h
    rfl
  · obtain ⟨m, gl, x, rfl, th, q⟩ := h
    refine ⟨_, (pss_cons (ps_if (PW.pt (pw_or (pt_not (pt_val (pe_callB call_isi (by rfl) n_isinstance (by decide +kernel) (pa_cons (pv 0) (pa_cons (pe_bltn (v := .ty "str") (by rfl) n_str (by decide +kernel) rfl) pa_nil))))) (pw_or1 (pt_not (pt_chain op_lt op_lt pe_int (pe_callB call_len_str (by rfl) n_len (by decide +kernel) (pa_cons (pv 0) pa_nil)) pe_int)))))
        (pss_one (ps_ret pe_bl))
        pss_nil)
      (pss_one (ps_ret (pe_cmpR (op_eqD (hu64 hr)) (pe_lc (own := [("sign", 1)]) (by rfl) sc_nm.nd (pi_str (pv 0)) (blkOk_by (own := [("sign", 1)]) (N := N_nm) (sc := defScope s_nm) (by decide +kernel)) (fun _ _ _ _ _ => (pg_name (i := 1) sc_nm.nd rfl (.inl rfl))) (fun _ _ _ _ _ => (pts_one (pt_cmpR op_notIn_str (pv 1) pe_str (by with_unfolding_all rfl)))) (fun _ _ _ _ _ => (pv 1))) (pe_lst pa_nil) (nomark _))))), ?_⟩
    obtain ⟨n, kn, en⟩ := Sth.kind (K := K) th
    refine ⟨_, rfl, x, _, _, _, _, rfl, .ty _, kn.ty, kn.str, _, rfl, ?_⟩
    rw [en]
    have no : isS x = false → nameOf x = false := fun h => by
      cases x <;> first | rfl | cases h
    cases hx : isS x with
    | false =>
      have z := q H fun _ _ z => z
      rw [no hx] at z
      exact iteT (iteT z)
    | true =>
      cases th with
      | str z zl zo =>
        have zs : z.length ≤ sizeLine := Nat.le_trans zl (by decide)
        refine iteF ?_
        have no9 : ¬ (0 < z.length ∧ z.length < 9) → nameOf (.str z) = false := fun h => by
          show (decide (0 < z.length) && (decide (z.length < 9) && z.cps.toList.all hit)) = false
          by_cases h1 : 0 < z.length
          · have h2 : ¬ z.length < 9 := fun h2 => h ⟨h1, h2⟩
            simp [h2]
          · simp [h1]
        have bye : nameOf (.str z) = false → Q (.bl false) H := fun e => by
          have y := q H fun _ _ z => z
          rw [e] at y
          exact y
        refine ⟨_, rfl, z, rfl, zs, _, _, rfl, rfl, _, rfl, ite2 (fun c1 => ⟨_, _, rfl, rfl, _, rfl, ?_⟩) (fun c1 => ⟨_, rfl, iteT (bye (no9 fun h => c1 (decide_eq_true (by omega))))⟩)⟩
        have l0 : (0 : Int) < (z.length : Int) := of_decide_eq_true c1
        by_cases c2 : (z.length : Int) < 9
        · rw [decide_eq_true c2]
          refine iteF ?_
          refine ⟨_, rfl, z, rfl, fun D nD => ?_⟩
          refine lc_it (walk_str (z := z)) (fun i H2 => Same H H2 ∧ H2 D = some (.lst ((bad z i).map oneV))) ⟨same_new nD, upd_same⟩ (fun _ _ _ _ => trivial) (fun i v H2 H3 hi hP hY => ?_) (fun H2 hP => ?_)
          · obtain ⟨rfl, c, hc, rfl⟩ := hY
            refine ⟨rfl, _, rfl, _, _, rfl, rfl, _, rfl, ?_⟩
            change if (!hit c) = true then _ else _
            have more := bad_more (z := z) hc
            cases q2 : hit c with
            | true =>
              refine iteF ⟨hP.1, ?_⟩
              rw [hP.2, more, q2]
              show _ = some (HO.lst ((bad z i ++ []).map oneV))
              rw [List.append_nil]
            | false =>
              have ll : ((bad z i).map oneV).length < sizeLine := by
                have h1 : (bad z i).length ≤ z.cps.toList.length := by
                  unfold bad
                  exact Nat.le_trans (List.length_filter_le ..) (by rw [List.length_take]; omega)
                have h2 : z.cps.toList.length ≤ 100 := zl
                rw [List.length_map]
                exact Nat.lt_of_le_of_lt (Nat.le_trans h1 h2) (by decide)
              refine iteT ⟨_, rfl, _, hP.2, ll, same_put hP.1 nD, ?_⟩
              rw [upd_same, more, q2]
              show _ = some (HO.lst ((bad z i ++ [c]).map oneV))
              rw [List.map_append] <;> rfl
          · obtain ⟨S2, eD⟩ := hP
            refine ⟨Nat.zero_le _, fun p2 np2 => ?_⟩
            have s3 : Same H2 (upd H2 p2 (.lst [])) := same_new np2
            refine ⟨.list ((bad z z.cps.size).map oneD), .list [], .lst (SqL.of (s3 _ _ eD)) (bad_dp _), .lst (SqL.of upd_same) .nil, bad_shaped zo, rfl, ?_⟩
            rw [bad_eqv, bad_all]
            have y := q _ (S2.trans s3)
            have e : nameOf (.str z) = z.cps.toList.all hit := by
              show (decide (0 < z.length) && (decide (z.length < 9) && z.cps.toList.all hit)) = _
              rw [decide_eq_true (show 0 < z.length by omega), decide_eq_true (show z.length < 9 by omega)] <;> rfl
            rw [e] at y
            exact y
        · rw [decide_eq_false c2]
          exact iteT (bye (no9 fun h => c2 (by omega)))
      | _ => cases hx
end
end L2.K2

set_option Elab.async false
set_option linter.all false
set_option maxRecDepth 100000
set_option maxHeartbeats 8000000
namespace L2.K2
open PySem PySem.Spec PyProof.Rows L2.Sl L2.Fr
/-- at v: the fraction x, both of fewer than n bits -/
structure Fq (H : Hp) (v : V) (x : Int × Int) (n : Nat) : Prop where
  at_ : ∃ p, v = .ref p ∧ H p = some (.tup [.int x.1, .int x.2])
  low : LowP x
  b1 : x.1.natAbs < 2 ^ n
  b2 : x.2.natAbs < 2 ^ n
theorem Fq.same {H H2 : Hp} {v : V} {x : Int × Int} {n : Nat} (s : Same H H2) (h : Fq H v x n) : Fq H2 v x n := by
  obtain ⟨⟨p, e, hp⟩, l, b1, b2⟩ := h
  exact ⟨⟨p, e, s _ _ hp⟩, l, b1, b2⟩
def dat (x : Int × Int) : PyData := .tuple [.int x.1, .int x.2]
theorem Fq.dp {K : PySem.W.Frag} {H : Hp} {v : V} {x : Int × Int} {n : Nat} (h : Fq H v x n) : Dp K H v (dat x) := by
  obtain ⟨⟨p, rfl, hp⟩, _, _, _⟩ := h
  exact .tup (SqT.of hp) (.cons (.int _) (.cons (.int _) .nil))
theorem eqv_dat (x y : Int × Int) : PyData.eqv (dat x) (dat y) = decide (x = y) := by
  show (x.1 == y.1 && (x.2 == y.2 && true)) = decide (x = y)
  rw [Bool.eq_iff_iff]
  simp [Prod.ext_iff]
/-- sums, products of two fractions -/
def spTwo (op : Int × Int → Int × Int → Int × Int) : Sp := fun vs H Q _ => ∃ (v u : V) (x y : Int × Int) (n1 n2 : Nat), vs = [v, u] ∧ Fq H v x n1 ∧ Fq H u y n2 ∧ n1 + n2 ≤ 3000 ∧ ∀ H2 r, Same H H2 → Fq H2 r (op x y) (n1 + n2 + 1) → Q r H2
/-- read from any heap above H0, it gives the fraction x -/
def EvF (te : TE) (σ : St) (H0 : Hp) (x : Int × Int) (n : Nat) : Prop := ∀ H Q, Same H0 H → (∀ H2 v, Same H H2 → Fq H2 v x n → Q v H2) → te σ H Q
theorem evf_var {σ : St} {H0 : Hp} {x : Int × Int} {n i : Nat} {v : V} (h : Fq H0 v x n) (e : σ[i]? = some (some v)) : EvF (tVar i) σ H0 x n := fun H Q s q => ⟨v, e, q H v (fun _ _ z => z) (h.same s)⟩
theorem evf_tup {σ : St} {H0 : Hp} {a b : Int} {n : Nat} (l : Low a b) (h1 : a.natAbs < 2 ^ n) (h2 : b.natAbs < 2 ^ n) : EvF (tTup (tCons (tC (.int a)) (tCons (tC (.int b)) tNil))) σ H0 (a, b) n :=
  fun H Q s q => ⟨(show 2 ≤ sizeLine by decide), fun p np => q _ _ (same_new np) ⟨⟨p, rfl, upd_same⟩, l, h1, h2⟩⟩
theorem evf_two {op : Int × Int → Int × Int → Int × Int} {t1 t2 : TE} {σ : St} {H0 : Hp} {x y : Int × Int} {n1 n2 : Nat} (h1 : EvF t1 σ H0 x n1) (h2 : EvF t2 σ H0 y n2) (hb : n1 + n2 ≤ 3000) : EvF (tCall (spTwo op) [] E0 (tCons t1 (tCons t2 tNil))) σ H0 (op x y) (n1 + n2 + 1) :=
  fun H Q s q => h1 H _ s fun H1 v s1 f1 => h2 H1 _ (s.trans s1) fun H2 u s2 f2 => ⟨v, u, x, y, n1, n2, rfl, f1.same s2, f2, hb, fun H3 r s3 f3 => q H3 r (s1.trans (s2.trans s3)) f3⟩
theorem test_ne {K : PySem.W.Frag} {t1 t2 : TE} {σ : St} {H0 H : Hp} {x : Int × Int} {n1 n2 : Nat} {Q : Bool → Hp → Prop} (h1 : EvF t1 σ H0 x n1) (h2 : EvF t2 σ H0 x n2) (s : Same H0 H) (q : ∀ H2, Same H H2 → Q false H2) : tTest (tOp (rNeD K) t1 t2) σ H Q :=
  h1 H _ s fun H1 v s1 f1 => h2 H1 _ (s.trans s1) fun H2 u s2 f2 => ⟨dat x, dat x, (f1.same s2).dp, f2.dp, rfl, rfl, by
    rw [eqv_dat, decide_eq_true rfl]
    exact ⟨_, rfl, q H2 (s1.trans s2)⟩⟩
theorem eval_eq {K : PySem.W.Frag} {t1 t2 : TE} {σ : St} {H0 H : Hp} {x : Int × Int} {n1 n2 : Nat} {Q : VK} (h1 : EvF t1 σ H0 x n1) (h2 : EvF t2 σ H0 x n2) (s : Same H0 H) (q : ∀ H2, Same H H2 → Q (.bl true) H2) : tOp (rEqD K) t1 t2 σ H Q :=
  h1 H _ s fun H1 v s1 f1 => h2 H1 _ (s.trans s1) fun H2 u s2 f2 => ⟨dat x, dat x, (f1.same s2).dp, f2.dp, rfl, rfl, by
    rw [eqv_dat, decide_eq_true rfl]
    exact q H2 (s1.trans s2)⟩
theorem EvF.eq {te : TE} {σ : St} {H0 : Hp} {x y : Int × Int} {n : Nat} (h : EvF te σ H0 x n) (e : x = y) : EvF te σ H0 y n := e ▸ h
def spRu : Sp := fun vs H Q _ => ∃ (v u t : V) (x y z : Int × Int), vs = [v, u, t] ∧ Fq H v x 210 ∧ Fq H u y 210 ∧ Fq H t z 210 ∧ ∀ H2, Same H H2 → Q (.bl true) H2
section
variable {P : Program} {w : World} {K : PySem.W.Frag} {mg : Str → Option Value} {base : Heap}
abbrev s_ru : Stmt := topS 36
abbrev N_ru : List Str := ["x", "y", "z"]
theorem sc_ru : FnScope N_ru ["x", "y", "z"] (defScope s_ru) := ⟨rfl, rfl, rfl, by decide +kernel, rfl, by decide +kernel, by decide +kernel⟩
theorem ok_ru {f fpl fti : Addr} {fd dpl dti : FuncData} {k : Nat} (F : Fun K "_law_rules_right" "_law_rules_right" s_ru f fd) (G_pl : FnOk P w K mg base CX0 k fpl dpl ["one", "other"] (spTwo fadd)) (k_pl : PySem.W.keepIn K (.ref fpl) = true) (b_pl : Binds K dpl ["one", "other"] []) (g_pl : mg "plus" = some (.ref fpl))
    (G_ti : FnOk P w K mg base CX0 k fti dti ["one", "other"] (spTwo fmul)) (k_ti : PySem.W.keepIn K (.ref fti) = true) (b_ti : Binds K dti ["one", "other"] []) (g_ti : mg "times" = some (.ref fti)) : FnOk P w K mg base CX0 (k + 1) f fd ["x", "y", "z"] spRu := by
  refine F.ok sc_ru (fun vs H Q E h => ?_) (fun cdv A outer s H vs Q E hr h => ?_)
  · obtain ⟨v, u, t, x, y, z, rfl, _⟩ := h
    rfl
  · obtain ⟨v, u, t, x, y, z, rfl, hx, hy, hz, q⟩ := h
    refine ⟨_, (pss_cons (ps_if (PW.pt (pw_or (pt_cmpR (op_neD (hu64 hr)) (pe_call G_pl hr (by rfl) g_pl k_pl b_pl .nil pass0 (pa_cons (pv 0) (pa_cons (pv 1) pa_nil))) (pe_call G_pl hr (by rfl) g_pl k_pl b_pl .nil pass0 (pa_cons (pv 1) (pa_cons (pv 0) pa_nil))) (nomark _)) (pw_or (pt_cmpR (op_neD (hu64 hr)) (pe_call G_ti hr (by rfl) g_ti k_ti b_ti .nil pass0 (pa_cons (pv 0) (pa_cons (pv 1) pa_nil))) (pe_call G_ti hr (by rfl) g_ti k_ti b_ti .nil pass0 (pa_cons (pv 1) (pa_cons (pv 0) pa_nil))) (nomark _)) (pw_or (pt_cmpR (op_neD (hu64 hr)) (pe_call G_pl hr (by rfl) g_pl k_pl b_pl .nil pass0 (pa_cons (pv 0) (pa_cons (pe_tup (pa_cons pe_int (pa_cons pe_int pa_nil))) pa_nil))) (pv 0) (nomark _)) (pw_or1 (pt_cmpR (op_neD (hu64 hr)) (pe_call G_ti hr (by rfl) g_ti k_ti b_ti .nil pass0 (pa_cons (pv 0) (pa_cons (pe_tup (pa_cons pe_int (pa_cons pe_int pa_nil))) pa_nil))) (pv 0) (nomark _)))))))
        (pss_one (ps_ret pe_bl))
        pss_nil)
      (pss_cons (ps_if (PW.pt (pw_or (pt_cmpR (op_neD (hu64 hr)) (pe_call G_pl hr (by rfl) g_pl k_pl b_pl .nil pass0 (pa_cons (pe_call G_pl hr (by rfl) g_pl k_pl b_pl .nil pass0 (pa_cons (pv 0) (pa_cons (pv 1) pa_nil))) (pa_cons (pv 2) pa_nil))) (pe_call G_pl hr (by rfl) g_pl k_pl b_pl .nil pass0 (pa_cons (pv 0) (pa_cons (pe_call G_pl hr (by rfl) g_pl k_pl b_pl .nil pass0 (pa_cons (pv 1) (pa_cons (pv 2) pa_nil))) pa_nil))) (nomark _)) (pw_or1 (pt_cmpR (op_neD (hu64 hr)) (pe_call G_ti hr (by rfl) g_ti k_ti b_ti .nil pass0 (pa_cons (pe_call G_ti hr (by rfl) g_ti k_ti b_ti .nil pass0 (pa_cons (pv 0) (pa_cons (pv 1) pa_nil))) (pa_cons (pv 2) pa_nil))) (pe_call G_ti hr (by rfl) g_ti k_ti b_ti .nil pass0 (pa_cons (pv 0) (pa_cons (pe_call G_ti hr (by rfl) g_ti k_ti b_ti .nil pass0 (pa_cons (pv 1) (pa_cons (pv 2) pa_nil))) pa_nil))) (nomark _)))))
        (pss_one (ps_ret pe_bl))
        pss_nil)
      (pss_one (ps_ret (pe_and (pe_cmpR (op_eqD (hu64 hr)) (pe_call G_ti hr (by rfl) g_ti k_ti b_ti .nil pass0 (pa_cons (pv 0) (pa_cons (pe_call G_pl hr (by rfl) g_pl k_pl b_pl .nil pass0 (pa_cons (pv 1) (pa_cons (pv 2) pa_nil))) pa_nil))) (pe_call G_pl hr (by rfl) g_pl k_pl b_pl .nil pass0 (pa_cons (pe_call G_ti hr (by rfl) g_ti k_ti b_ti .nil pass0 (pa_cons (pv 0) (pa_cons (pv 1) pa_nil))) (pa_cons (pe_call G_ti hr (by rfl) g_ti k_ti b_ti .nil pass0 (pa_cons (pv 0) (pa_cons (pv 2) pa_nil))) pa_nil))) (nomark _)) (pe_one (pe_cmpR (op_eqD (hu64 hr)) (pe_call G_pl hr (by rfl) g_pl k_pl b_pl .nil pass0 (pa_cons (pv 0) (pa_cons (pe_call G_ti hr (by rfl) g_ti k_ti b_ti .nil pass0 (pa_cons (pv 0) (pa_cons (pe_tup (pa_cons (pe_op op_sub pe_int pe_int) (pa_cons pe_int pa_nil))) pa_nil))) pa_nil))) (pe_tup (pa_cons pe_int (pa_cons pe_int pa_nil))) (nomark _)))))))), ?_⟩
    have X : EvF (tVar 0) (start N_ru [v, u, t]) H x 210 := evf_var hx rfl
    have Y : EvF (tVar 1) (start N_ru [v, u, t]) H y 210 := evf_var hy rfl
    have Z : EvF (tVar 2) (start N_ru [v, u, t]) H z 210 := evf_var hz rfl
    have O : EvF (tTup (tCons (tC (.int 0)) (tCons (tC (.int 1)) tNil))) (start N_ru [v, u, t]) H (0, 1) 1 := evf_tup ⟨by decide, by decide⟩ (by decide) (by decide)
    have I : EvF (tTup (tCons (tC (.int 1)) (tCons (tC (.int 1)) tNil))) (start N_ru [v, u, t]) H (1, 1) 1 := evf_tup ⟨by decide, by decide⟩ (by decide) (by decide)
    have M : EvF (tTup (tCons (tOp (rI0 fun i j => V.int (i - j)) (tC (.int 0)) (tC (.int 1))) (tCons (tC (.int 1)) tNil))) (start N_ru [v, u, t]) H (0 - 1, 1) 1 :=
      fun H Q s q => ⟨_, _, rfl, rfl, (show 2 ≤ sizeLine by decide), fun p np => q _ _ (same_new np) ⟨⟨p, rfl, upd_same⟩, ⟨by decide, by decide⟩, by decide, by decide⟩⟩
    refine test_ne (evf_two X Y (by decide)) ((evf_two Y X (by decide)).eq (fadd_comm _ _)) (fun _ _ e => e) fun H1 s1 => iteF ?_
    refine test_ne (evf_two X Y (by decide)) ((evf_two Y X (by decide)).eq (fmul_comm _ _)) s1 fun H2 s2 => iteF ?_
    refine test_ne (evf_two X O (by decide)) (X.eq (fadd_nought hx.low).symm) (s1.trans s2) fun H3 s3 => iteF ?_
    refine test_ne (evf_two X I (by decide)) (X.eq (fmul_one hx.low).symm) (s1.trans (s2.trans s3)) fun H4 s4 => iteF ?_
    have S4 : Same H H4 := s1.trans (s2.trans (s3.trans s4))
    refine test_ne (evf_two (evf_two X Y (by decide)) Z (by decide)) ((evf_two X (evf_two Y Z (by decide)) (by decide)).eq (fadd_assoc hx.low hy.low hz.low).symm) S4 fun H5 s5 => iteF ?_
    refine test_ne (evf_two (evf_two X Y (by decide)) Z (by decide)) ((evf_two X (evf_two Y Z (by decide)) (by decide)).eq (fmul_assoc hx.low hy.low hz.low).symm) (S4.trans s5) fun H6 s6 => iteF ?_
    have S6 : Same H H6 := S4.trans (s5.trans s6)
    refine eval_eq (evf_two X (evf_two Y Z (by decide)) (by decide)) ((evf_two (evf_two X Y (by decide)) (evf_two X Z (by decide)) (by decide)).eq (fmul_fadd hx.low hy.low hz.low).symm) S6 fun H7 s7 => ⟨_, rfl, iteT ?_⟩
    exact eval_eq (evf_two X (evf_two X M (by decide)) (by decide)) (O.eq (fadd_neg hx.low).symm) (S6.trans s7) fun H8 s8 => q _ (S6.trans (s7.trans s8))
end
end L2.K2

set_option Elab.async false
set_option linter.all false
set_option maxRecDepth 100000
set_option maxHeartbeats 8000000
namespace L2.K2
open PySem PySem.Spec PyProof.Rows L2.Sl L2.Fr
/-- the built-in kinds -/
def kinds7 : List String := ["int", "bool", "str", "NoneType", "tuple", "list", "dict"]
theorem meta7 {a : String} (h : a ∈ kinds7) (s' : Shared) : s'.TypeIs (.type a) "type" := by
  simp only [kinds7, List.mem_cons, List.mem_nil_iff, or_false] at h
  rcases h with rfl | rfl | rfl | rfl | rfl | rfl | rfl
  · exact PySem.TypeEq.meta_int s'
  · exact PySem.TypeEq.meta_bool s'
  · exact PySem.TypeEq.meta_str s'
  · exact PySem.TypeEq.meta_NoneType s'
  · exact PySem.TypeEq.meta_tuple s'
  · exact PySem.TypeEq.meta_list s'
  · exact PySem.TypeEq.meta_dict s'
/-- == of two built-in kinds -/
def rEqTy : R2 := fun x y H Q => ∃ a b, x = .ty a ∧ y = .ty b ∧ a ∈ kinds7 ∧ b ∈ kinds7 ∧ Q (.bl (decide (a = b))) H
theorem op_eqTy {X : Cx} : OpR X (compareOp .Eq) rEqTy := by
  intro pins s σ H x y v u Q I rx ry h
  obtain ⟨a, b, rfl, rfl, ha, hb, q⟩ := h
  cases (show v = Value.type a from rx)
  cases (show u = Value.type b from ry)
  by_cases e : a = b
  · subst e
    exact PySem.TypeEq.eq_type_same (meta7 ha) (fin_bl I q (decide_eq_true rfl))
  · exact PySem.TypeEq.eq_type_other (meta7 ha) (meta7 hb) (beq_eq_false_iff_ne.mpr fun z => e (Value.type.inj z)) (fin_bl I q (decide_eq_false e))
theorem Sth.tyB {K : PySem.W.Frag} {m gl : Addr} {H : Hp} {v : V} (h : Sth m gl H v) : ∃ T, TyB K H v T ∧ T ∈ kinds7 ∧ decide (T = "int") = (match v with | .int _ => true | _ => false) := by
  cases h with
  | non => exact ⟨_, .non, by decide +kernel, (by decide +kernel : decide ("NoneType" = "int") = false)⟩
  | bl b => exact ⟨_, .bl b, by decide +kernel, (by decide +kernel : decide ("bool" = "int") = false)⟩
  | int i => exact ⟨_, .int i, by decide +kernel, (by decide +kernel : decide ("int" = "int") = true)⟩
  | str x => exact ⟨_, .str x, by decide +kernel, (by decide +kernel : decide ("str" = "int") = false)⟩
  | tup e r => exact ⟨_, .tup (SqT.of e), by decide +kernel, (by decide +kernel : decide ("tuple" = "int") = false)⟩
  | lst e _ => exact ⟨_, .lst (SqL.of e), by decide +kernel, (by decide +kernel : decide ("list" = "int") = false)⟩
  | dct e _ => exact ⟨_, .dK e, by decide +kernel, (by decide +kernel : decide ("dict" = "int") = false)⟩
def wholeOf (lo hi : Int) : V → Bool
  | .int i => decide (lo ≤ i) && decide (i ≤ hi)
  | _ => false
def spWh : Sp := fun vs H Q _ => ∃ (m gl : Addr) (x : V) (lo hi : Int), vs = [x, .int lo, .int hi] ∧ Sth m gl H x ∧ ∀ H2, Same H H2 → Q (.bl (wholeOf lo hi x)) H2
section
variable {P : Program} {w : World} {K : PySem.W.Frag} {mg : Str → Option Value} {base : Heap}
abbrev s_wh : Stmt := topS 9
abbrev N_wh : List Str := ["thing", "least", "most"]
theorem sc_wh : FnScope N_wh ["thing", "least", "most"] (defScope s_wh) := ⟨rfl, rfl, rfl, by decide +kernel, rfl, by decide +kernel, by decide +kernel⟩
theorem ok_wh {f : Addr} {fd : FuncData} {k : Nat} (F : Fun K "is_whole" "is_whole" s_wh f fd) (n_type : mg "type" = none) (n_int : mg "int" = none) : FnOk P w K mg base CX0 (k + 1) f fd ["thing", "least", "most"] spWh := by
  refine F.ok sc_wh (fun vs H Q E h => ?_) (fun cdv A outer s H vs Q E hr h => ?_)
  · obtain ⟨m, gl, x, lo, hi, rfl, _⟩ := h
    rfl
  · obtain ⟨m, gl, x, lo, hi, rfl, th, q⟩ := h
    refine ⟨_, (pss_one (ps_ret (pe_and (pe_cmpR op_eqTy (pe_callTy call_type1 (by rfl) n_type (by decide +kernel) (pa_cons (pv 0) pa_nil)) (pe_bltn (v := .ty "int") (by rfl) n_int (by decide +kernel) rfl) (nomark _)) (pe_one (pe_chain op_le op_le (pv 1) (pv 0) (pv 2)))))), ?_⟩
    obtain ⟨T, tb, mt, eT⟩ := Sth.tyB (K := K) th
    refine ⟨_, rfl, x, T, rfl, tb, T, "int", rfl, rfl, mt, by decide +kernel, _, rfl, ?_⟩
    rw [eT]
    cases th with
    | int i z =>
      refine iteT ⟨_, rfl, _, rfl, _, _, rfl, rfl, _, rfl, ite2 (fun c => ?_) (fun c => ?_)⟩
      · have y := q H fun _ _ z => z
        have e : wholeOf lo hi (.int i) = decide (i ≤ hi) := by
          show (decide (lo ≤ i) && decide (i ≤ hi)) = _
          rw [show decide (lo ≤ i) = true from c] <;> rfl
        rw [e] at y
        exact ⟨_, rfl, _, _, rfl, rfl, y⟩
      · have y := q H fun _ _ z => z
        have e : wholeOf lo hi (.int i) = false := by
          show (decide (lo ≤ i) && decide (i ≤ hi)) = _
          rw [show decide (lo ≤ i) = false from Bool.eq_false_iff.mpr c] <;> rfl
        rw [e] at y
        exact y
    | _ => exact iteF (q H fun _ _ z => z)
end
end L2.K2

set_option Elab.async false
set_option linter.all false
set_option maxRecDepth 100000
set_option maxHeartbeats 8000000
/-! != of two built-in kinds -/
namespace TyN
open PySem PySem.TypeEq PySem.Builtin
theorem slot_ne : Slot "type" (cmpInfo .NotEq).2.1 "object.__ne__" :=
  .of (owner := "object") (n := "__ne__") (by rw [typeLookup_type, builtinLookup_eq_fast] <;> kernel_rfl) (by decide +kernel) (by decide +kernel) (by decide +kernel) (Or.inl (by decide +kernel)) (by rw [isSubtype_type] <;> kernel_rfl)
theorem slot_ne2 : Slot "type" (cmpInfo .NotEq).2.2 "object.__ne__" :=
  .of (owner := "object") (n := "__ne__") (by rw [typeLookup_type, builtinLookup_eq_fast] <;> kernel_rfl) (by decide +kernel) (by decide +kernel) (by decide +kernel) (Or.inl (by decide +kernel)) (by rw [isSubtype_type] <;> kernel_rfl)
section
variable {prog : Program} {w : World} {A : Around} {E : Value → Shared → Prop} {s : Shared}
theorem entry_ne {X Y : String} {Q : Fin → Shared → Prop} (hX : ∀ s' : Shared, s'.TypeIs (.type X) "type") (h : Q (.done (.ret (if (Value.type X == Value.type Y) = true then .bool false else .notImplemented))) s) :
    wpAny (model prog w) A (Builtin.«object.__ne__» ⟨[.type X, .type Y], []⟩) Q E s := by
  unfold Builtin.«object.__ne__»
  have key : wpAny (model prog w) A (callSpecialIfBound? (.type X) (Str.ofString "__eq__") [.type Y]) (fun v s' => v = some (if (Value.type X == Value.type Y) = true then .bool true else .notImplemented) ∧ s' = s) E s := by
    refine wpAny_callSpecialIfBound?_slot (hX s) slot_type_eq ?_
    cases e : (Value.type X == Value.type Y) with
    | true => exact call_gives slot_type_eq (hX s) F.entry_object_eq (F.args_object_eq_2 _ _) (object_eq_same rfl e) ⟨rfl, rfl⟩
    | false => exact call_gives slot_type_eq (hX s) F.entry_object_eq (F.args_object_eq_2 _ _) (object_eq_other rfl e) ⟨rfl, rfl⟩
  repeat (first
    | (with_reducible refine wpAny_cRoomFor_or (.inl rfl) ?_)
    | (refine wpAny_bind (m := callSpecialIfBound? (.type X) (Str.ofString "__eq__") [.type Y]) (wpAny_mono key (fun v s' hv => ?_) fun _ _ x => x))
    | wp_step)
  obtain ⟨rfl, rfl⟩ := hv
  cases e : (Value.type X == Value.type Y) with
  | true =>
    rw [e] at h
    show wpAny (model prog w) A (truthy (.bool true) >>= fun c => ret (.bool !c)) Q E s'
    exact wpAny_bind (wpAny_truthy_bool (wpAny_pure h))
  | false =>
    rw [e] at h
    exact wpAny_pure h
/-- the call of the slot -/
theorem call_ne {X Y : String} {Q : Value → Shared → Prop} (hX : ∀ s' : Shared, s'.TypeIs (.type X) "type") {n : Str} (sl : Slot "type" n "object.__ne__") (h : Q (if (Value.type X == Value.type Y) = true then .bool false else .notImplemented) s) :
    wpAny (model prog w) A (call (.builtin "object.__ne__") [.type X, .type Y]) Q E s :=
  wpAny_call_entry sl (hX s) F.cmpEntry_ne (entry_ne hX ⟨_, rfl, h⟩) (F.cmpArgs_ne _ _)
theorem ne_same {X : String} {Q : Value → Shared → Prop} (hX : ∀ s' : Shared, s'.TypeIs (.type X) "type") (h : Q (.bool false) s) : wpAny (model prog w) A (compareOp .NotEq (.type X) (.type X)) Q E s := by
  show wpAny _ A (richCompare .NotEq _ _) Q E s
  refine wpAny_richCompare_same (T := "type") (hX s) (hX s) slot_ne (call_ne hX slot_ne ?_)
  rw [if_pos (beq_self_eq_true (Value.type X))]
  exact ⟨(fun z => by cases z), h⟩
theorem ne_other {X Y : String} {Q : Value → Shared → Prop} (hX : ∀ s' : Shared, s'.TypeIs (.type X) "type") (hY : ∀ s' : Shared, s'.TypeIs (.type Y) "type") (hne : X ≠ Y) (h : Q (.bool true) s) : wpAny (model prog w) A (compareOp .NotEq (.type X) (.type Y)) Q E s := by
  have b1 : (Value.type X == Value.type Y) = false := beq_eq_false_iff_ne.mpr fun z => hne (Value.type.inj z)
  have b2 : (Value.type Y == Value.type X) = false := beq_eq_false_iff_ne.mpr fun z => hne (Value.type.inj z).symm
  have q1 := slot_ne
  have q2 := slot_ne2
  show wpAny _ A (richCompare .NotEq _ _) Q E s
  rcases hi : cmpInfo CmpOp.NotEq with ⟨sym, f, r⟩
  rw [hi] at q1 q2
  simp only [richCompare, hi, (hX s).oneThing_none]
  refine wpAny_holding ?_
  refine wpAny_bind (wpAny_cRoomFor_or (.inl rfl) (wpAny_bind (wpAny_typeOf (hX s) (wpAny_bind (wpAny_typeOf (hY s) ?_)))))
  simp only [bne_self_eq_false, Bool.false_eq_true, if_false, pure_bind, Bool.not_false, if_true]
  refine wpAny_bind (wpAny_tryCompare_declines (hX s) q1 (call_ne hX q1 ?_))
  rw [if_neg (by rw [b1]; exact Bool.false_ne_true)]
  refine ⟨rfl, wpAny_bind (wpAny_tryCompare_declines (hY s) q2 (call_ne hY q2 ?_))⟩
  rw [if_neg (by rw [b2]; exact Bool.false_ne_true)]
  refine ⟨rfl, ?_⟩
  have sm : isSame (.type X) (.type Y) = pure false := by rw [isSame_plain (a := .type X) (b := .type Y) rfl, b1]
  exact wpAny_bind (wpAny_rule (wpAny_bind (wpAny_of_eq sm (wpAny_pure h))))
end
end TyN
namespace L2.K2
open PySem PySem.Spec PyProof.Rows L2.Sl L2.Fr
/-- != of two built-in kinds -/
def rNeTy : R2 := fun x y H Q => ∃ a b, x = .ty a ∧ y = .ty b ∧ a ∈ kinds7 ∧ b ∈ kinds7 ∧ Q (.bl (!decide (a = b))) H
theorem op_neTy {X : Cx} : OpR X (compareOp .NotEq) rNeTy := by
  intro pins s σ H x y v u Q I rx ry h
  obtain ⟨a, b, rfl, rfl, ha, hb, q⟩ := h
  cases (show v = Value.type a from rx)
  cases (show u = Value.type b from ry)
  by_cases e : a = b
  · subst e
    exact TyN.ne_same (meta7 ha) (fin_bl I q (by rw [decide_eq_true rfl] <;> rfl))
  · exact TyN.ne_other (meta7 ha) (meta7 hb) e (fin_bl I q (by rw [decide_eq_false e] <;> rfl))
end L2.K2

set_option Elab.async false
set_option linter.all false
set_option maxRecDepth 100000
set_option maxHeartbeats 8000000
namespace L2.K2
open PySem PySem.Spec PyProof.Rows L2.Sl L2.Fr
theorem Sth.tyS {K : PySem.W.Frag} {m gl : Addr} {H : Hp} {v : V} (h : Sth m gl H v) : ∃ T, TyB K H v T ∧ T ∈ kinds7 ∧ decide (T = "str") = isS v := by
  cases h with
  | non => exact ⟨_, .non, by decide +kernel, (by decide +kernel : decide ("NoneType" = "str") = false)⟩
  | bl b => exact ⟨_, .bl b, by decide +kernel, (by decide +kernel : decide ("bool" = "str") = false)⟩
  | int i => exact ⟨_, .int i, by decide +kernel, (by decide +kernel : decide ("int" = "str") = false)⟩
  | str x => exact ⟨_, .str x, by decide +kernel, (by decide +kernel : decide ("str" = "str") = true)⟩
  | tup e r => exact ⟨_, .tup (SqT.of e), by decide +kernel, (by decide +kernel : decide ("tuple" = "str") = false)⟩
  | lst e _ => exact ⟨_, .lst (SqL.of e), by decide +kernel, (by decide +kernel : decide ("list" = "str") = false)⟩
  | dct e _ => exact ⟨_, .dK e, by decide +kernel, (by decide +kernel : decide ("dict" = "str") = false)⟩
section
variable {P : Program} {w : World} {K : PySem.W.Frag} {mg : Str → Option Value} {base : Heap}
abbrev s_na : Stmt := topS 10
abbrev N_na : List Str := ["thing", "sign"]
theorem sc_na : FnScope N_na ["thing"] (defScope s_na) := ⟨rfl, rfl, rfl, by decide +kernel, rfl, by decide +kernel, by decide +kernel⟩
theorem ok_na {f : Addr} {fd : FuncData} {k : Nat} {t1 t2 : Tok} (F : Fun K "is_name" "is_name" s_na f fd) (n_type : mg "type" = none) (n_str : mg "str" = none) (n_len : mg "len" = none) (n_all : mg "all" = none) (g_LONGEST : mg "_LONGEST" = some (.int 8 t1)) (g_LETTERS : mg "_LETTERS" = some (.str alph t2)) :
    FnOk P w K mg base CX0 (k + 1) f fd ["thing"] spNm := by
  refine F.ok sc_na (fun vs H Q E h => ?_) (fun cdv A outer s H vs Q E hr h => ?_)
  · obtain ⟨m, gl, x, rfl, _⟩ := h
    rfl
  · obtain ⟨m, gl, x, rfl, th, q⟩ := h
    refine ⟨_, (pss_cons (ps_if (PW.pt (pw_or (pt_cmpR op_neTy (pe_callTy call_type1 (by rfl) n_type (by decide +kernel) (pa_cons (pv 0) pa_nil)) (pe_bltn (v := .ty "str") (by rfl) n_str (by decide +kernel) rfl) (nomark _)) (pw_or1 (pt_not (pt_chain op_le op_le pe_int (pe_callB call_len_str (by rfl) n_len (by decide +kernel) (pa_cons (pv 0) pa_nil)) (pe_glob (v := .int 8) rfl g_LONGEST ⟨_, rfl⟩))))))
        (pss_one (ps_ret pe_bl))
        pss_nil)
      (pss_one (ps_ret (pe_callB (cr_all rfl) (by rfl) n_all (by decide +kernel) (pa_cons (pe_lc (own := [("sign", 1)]) (te := tOp (fun x y H Q => ∃ i j, x = .str i ∧ y = .str j ∧ Q (.bl (!(Builtin.Str.occurrences j i 0 j.length 1).isEmpty)) H) (tVar 1) (tC (.str alph))) (by rfl) sc_na.nd (pi_str (pv 0)) (blkOk_by (own := [("sign", 1)]) (N := N_na) (sc := defScope s_na) (by decide +kernel)) (fun _ _ _ _ _ => (pg_name (i := 1) sc_na.nd rfl (.inl rfl))) (fun _ _ _ _ _ => pts_nil) (fun _ _ _ _ _ => (pe_cmpR op_in_str (pv 1) (pe_glob (v := .str alph) rfl g_LETTERS ⟨_, rfl⟩) (by with_unfolding_all rfl)))) pa_nil))))), ?_⟩
    obtain ⟨T, tb, mt, eT⟩ := Sth.tyS (K := K) th
    refine ⟨_, rfl, x, T, rfl, tb, T, "str", rfl, rfl, mt, by decide +kernel, _, rfl, ?_⟩
    rw [eT]
    have no : isS x = false → nameOf x = false := fun h => by
      cases x <;> first | rfl | cases h
    cases hx : isS x with
    | false =>
      have z := q H fun _ _ z => z
      rw [no hx] at z
      exact iteT (iteT z)
    | true =>
      cases th with
      | str z zl zo =>
        have zs : z.length ≤ sizeLine := Nat.le_trans zl (by decide)
        refine iteF ?_
        have no9 : ¬ (0 < z.length ∧ z.length < 9) → nameOf (.str z) = false := fun h => by
          show (decide (0 < z.length) && (decide (z.length < 9) && z.cps.toList.all hit)) = false
          by_cases h1 : 0 < z.length
          · have h2 : ¬ z.length < 9 := fun h2 => h ⟨h1, h2⟩
            simp [h2]
          · simp [h1]
        have bye : nameOf (.str z) = false → Q (.bl false) H := fun e => by
          have y := q H fun _ _ z => z
          rw [e] at y
          exact y
        refine ⟨_, rfl, z, rfl, zs, _, _, rfl, rfl, _, rfl, ite2 (fun c1 => ⟨_, _, rfl, rfl, _, rfl, ?_⟩) (fun c1 => ⟨_, rfl, iteT (bye (no9 fun h => c1 (decide_eq_true (by omega))))⟩)⟩
        have l0 : (1 : Int) ≤ (z.length : Int) := of_decide_eq_true c1
        by_cases c2 : (z.length : Int) ≤ 8
        · rw [decide_eq_true c2]
          refine iteF ?_
          refine ⟨_, rfl, z, rfl, fun D nD => ?_⟩
          refine lc_it (walk_str (z := z)) (fun i H2 => Same H H2 ∧ H2 D = some (.lst (((z.cps.toList.take i).map hit).map V.bl))) ⟨same_new nD, upd_same⟩ (fun _ _ _ _ => trivial) (fun i v H2 H3 hi hP hY => ?_) (fun H2 hP => ?_)
          · obtain ⟨rfl, c, hc, rfl⟩ := hY
            have e : z.cps.toList[i]? = some c := by rw [Array.getElem?_toList]; exact hc
            refine ⟨rfl, _, rfl, _, _, rfl, rfl, _, hP.2, ?_, same_put hP.1 nD, ?_⟩
            · have h2 : z.cps.toList.length ≤ 100 := zl
              rw [List.length_map, List.length_map, List.length_take]
              exact Nat.lt_of_le_of_lt (show _ ≤ 100 by omega) (by decide)
            · rw [upd_same, List.take_succ, e, List.map_append, List.map_append] <;> rfl
          · obtain ⟨S2, eD⟩ := hP
            refine ⟨D, (z.cps.toList.take z.cps.size).map hit, rfl, SqL.of eD, ?_⟩
            have y := q _ S2
            have e : nameOf (.str z) = ((z.cps.toList.take z.cps.size).map hit).all id := by
              show (decide (0 < z.length) && (decide (z.length < 9) && z.cps.toList.all hit)) = _
              rw [decide_eq_true (show 0 < z.length by omega), decide_eq_true (show z.length < 9 by omega), ← Array.length_toList, List.take_length, List.all_map] <;> rfl
            rw [e] at y
            exact y
        · rw [decide_eq_false c2]
          exact iteT (bye (no9 fun h => c2 (by omega)))
      | _ => cases hx
end
end L2.K2

set_option Elab.async false
set_option linter.all false
set_option maxRecDepth 100000
set_option maxHeartbeats 8000000
namespace L2.K2
open PySem PySem.Spec PyProof.Rows L2.Sl L2.Fr
theorem sum_lt {a b : Int} {n : Nat} (h1 : a.natAbs < 2 ^ n) (h2 : b.natAbs < 2 ^ n) : (a + b).natAbs < 2 ^ (n + 1) := by
  have h := Int.natAbs_add_le a b
  rw [Nat.pow_succ]
  omega
theorem fadd_b {x y : Int × Int} {n1 n2 : Nat} (hx : LowP x) (hy : LowP y) (a1 : x.1.natAbs < 2 ^ n1) (a2 : x.2.natAbs < 2 ^ n1) (b1 : y.1.natAbs < 2 ^ n2) (b2 : y.2.natAbs < 2 ^ n2) :
    (fadd x y).1.natAbs < 2 ^ (n1 + n2 + 1) ∧ (fadd x y).2.natAbs < 2 ^ (n1 + n2 + 1) := by
  have ne : x.2 * y.2 ≠ 0 := Int.mul_ne_zero hx.ne hy.ne
  have l1 : (x.1 * y.2).natAbs < 2 ^ (n1 + n2) := wide_lt a1 b2
  have l2 : (y.1 * x.2).natAbs < 2 ^ (n1 + n2) := by rw [Nat.add_comm]; exact wide_lt b1 a2
  have l3 : (x.2 * y.2).natAbs < 2 ^ (n1 + n2) := wide_lt a2 b2
  refine ⟨Nat.lt_of_le_of_lt (low_le1 ne) (sum_lt l1 l2), Nat.lt_of_le_of_lt (low_le2 ne) (Nat.lt_of_lt_of_le l3 (Nat.pow_le_pow_right (by decide) (by omega)))⟩
theorem fmul_b {x y : Int × Int} {n1 n2 : Nat} (hx : LowP x) (hy : LowP y) (a1 : x.1.natAbs < 2 ^ n1) (a2 : x.2.natAbs < 2 ^ n1) (b1 : y.1.natAbs < 2 ^ n2) (b2 : y.2.natAbs < 2 ^ n2) :
    (fmul x y).1.natAbs < 2 ^ (n1 + n2 + 1) ∧ (fmul x y).2.natAbs < 2 ^ (n1 + n2 + 1) := by
  have ne : x.2 * y.2 ≠ 0 := Int.mul_ne_zero hx.ne hy.ne
  have up : ∀ {z : Nat}, z < 2 ^ (n1 + n2) → z < 2 ^ (n1 + n2 + 1) := fun h => Nat.lt_of_lt_of_le h (Nat.pow_le_pow_right (by decide) (by omega))
  exact ⟨Nat.lt_of_le_of_lt (low_le1 ne) (up (wide_lt a1 b1)), Nat.lt_of_le_of_lt (low_le2 ne) (up (wide_lt a2 b2))⟩
/-- what sums come to -/
theorem Fq.add {H : Hp} {v u r : V} {x y : Int × Int} {n1 n2 : Nat} (h1 : Fq H v x n1) (h2 : Fq H u y n2) {p : Addr} (e : r = .ref p) (hp : H p = some (.tup [.int (fadd x y).1, .int (fadd x y).2])) : Fq H r (fadd x y) (n1 + n2 + 1) :=
  ⟨⟨p, e, hp⟩, fadd_low h1.low h2.low, (fadd_b h1.low h2.low h1.b1 h1.b2 h2.b1 h2.b2).1, (fadd_b h1.low h2.low h1.b1 h1.b2 h2.b1 h2.b2).2⟩
theorem Fq.mul {H : Hp} {v u r : V} {x y : Int × Int} {n1 n2 : Nat} (h1 : Fq H v x n1) (h2 : Fq H u y n2) {p : Addr} (e : r = .ref p) (hp : H p = some (.tup [.int (fmul x y).1, .int (fmul x y).2])) : Fq H r (fmul x y) (n1 + n2 + 1) :=
  ⟨⟨p, e, hp⟩, fmul_low h1.low h2.low, (fmul_b h1.low h2.low h1.b1 h1.b2 h2.b1 h2.b2).1, (fmul_b h1.low h2.low h1.b1 h1.b2 h2.b1 h2.b2).2⟩
end L2.K2

set_option Elab.async false
set_option linter.all false
set_option maxRecDepth 100000
set_option maxHeartbeats 8000000
namespace L2.K2
open PySem PySem.Spec PyProof.Rows L2.Sl L2.Fr
abbrev s_sd : Stmt := topS 34
abbrev N_sd : List Str := ["deed", "e", "error"]
theorem sc_sd : FnScope N_sd ["deed"] (defScope s_sd) := ⟨rfl, rfl, rfl, by decide +kernel, rfl, by decide +kernel, by decide +kernel⟩
/-- what _law_said makes of the deed's reading: "" behind it; an exception of the three families is asked for BadNumber -/
def EEsaid (K : PySem.W.Frag) (c1 c2 c3 : Value) (CB : Addr) (Q : VK) : XK := fun cls d H2 => ∃ (D dd : Addr) (fs : List (Str × V)) (b : Bool), cls = .ref D ∧ d = some dd ∧ PySem.W.exmAny K cls [c1, c2, c3] = some true ∧ ExR K D ∧ PySem.W.kitOne K (.ref D) (.ref CB) = some b ∧ H2 dd = some (.xd fs) ∧
    ∀ a, H2 a = none → Q (.str (if b then "number" else "other")) (upd H2 a (exH cls d a))
def TTsaid (K : PySem.W.Frag) (c1 c2 c3 : Value) (CB : Addr) : (XK → Hp → VK → Prop) → Hp → VK → Prop := fun tl H Q =>
  ∀ S : Prop, S → tl (EEsaid K c1 c2 c3 CB Q) H (fun _ H2 => S ∧ Q (.str "") H2)
theorem said_gives {X : Cx} {g CB : Addr} {c1 c2 c3 cdg : Value} {q : Str} (h1 : X.mg "Refused" = some c1) (h2 : X.mg "Barred" = some c2) (h3 : X.mg "Beyond" = some c3) (hB : X.mg "BadNumber" = some (.ref CB)) (n_isinstance : X.mg "isinstance" = none) :
    LamX.GivesTo X N_sd "_law_said" (defScope s_sd) g cdg (defBody s_sd) "deed" q (TTsaid X.K c1 c2 c3 CB) := by
  intro f c' s H Q tl act hc h
  refine ⟨_, (pss_cons (ps_set (i := 1) sc_sd.nd rfl (.inl rfl) pe_non)
      (pss_cons (ps_try_keep3c (X := (cxOf C8.CX0 X.prog X.w X.K X.mg X.base N_sd "_law_said" (defScope s_sd) g cdg X.A X.stack s H C8.E0).nox) (c1 := c1) (c2 := c2) (c3 := c3) (i := 2) (Wout := fun _ _ _ _ => False) (ts := fun _ _ _ => tAsg (tVar 2) (gName 1))
          (tb := fun W D σ H => ∃ Ech : XK, (∀ cls d σ' H', Ech cls d H' → W cls d σ' H') ∧ σ[0]? = some (some (.ref f)) ∧ H c' = some (LamX.CodeO c' q) ∧ ∃ R : St → Hp → Prop, (tl Ech H fun _ H2 => R σ H2) ∧ ∀ σ2 H2, R σ2 H2 → D.nx σ2 H2)
          rfl rfl sc_sd.nd rfl LamX.takes0 (fun W pn xe tk _ => ?_) ⟨rfl, by decide, .inl h1⟩ ⟨rfl, by decide, .inl h2⟩ ⟨rfl, by decide, .inl h3⟩ rfl rfl (fun a oe cls d pn _ _ => pss_one (ps_set (i := 1) sc_sd.nd rfl (.inl rfl) (pv 2))))
      (pss_one (ps_ret (pe_ifExp (pt_cmpR op_isN (pv 1) pe_non (nomark _)) pe_str (pe_ifExp (pt_val (pe_callB call_isH (by rfl) n_isinstance (by decide +kernel) (pa_cons (pv 1) (pa_cons (pe_glob (v := .ref CB) rfl hB rfl) pa_nil)))) pe_str pe_str)))))), ?_⟩
  · refine ⟨fun pins s2 σ2 H2 D I hw => ?_⟩
    obtain ⟨Ech, hW, e1, e2, R, e3, e4⟩ := hw
    refine wpAny_mono ((pss_one (ps_expr (act W pn xe Ech _ _ tk hW))).run pins s2 σ2 H2 { D with nx := R } I ⟨e1, e2, e3⟩) (fun fl s3 hs => ?_) fun _ _ z => z
    cases fl with
    | next =>
      obtain ⟨σ3, H3, I3, r⟩ := hs
      exact ⟨σ3, H3, I3, e4 _ _ r⟩
    | _ => exact hs
  · refine ⟨EEsaid X.K c1 c2 c3 CB Q, fun cls d σ2 H2 hx => ?_, rfl, hc, fun σ2 H2 => σ2 = [some (.ref f), some .non, none] ∧ Q (.str "") H2, h _ rfl, fun σ2 H2 r => ?_⟩
    · obtain ⟨D, dd, fs, b, rfl, rfl, m, xr, kt, ed, q2⟩ := hx
      intro hl
      match σ2, hl with
      | [y0, y1, y2], _ =>
        refine ⟨true, m, fun _ a na => ⟨_, rfl, fun nn => ?_⟩, fun z => nomatch z⟩
        have ed2 : (upd H2 a (exH (.ref D) (some dd) a)) dd = some (.xd fs) := by
          rw [upd_ne (ne_of_none ed na)]
          exact ed
        refine ⟨_, rfl, rfl, _, rfl, ite2 (fun z => absurd (of_decide_eq_true z) (by intro z2; cases z2)) (fun _ => ?_)⟩
        refine ⟨_, rfl, a, D, dd, fs, .ref CB, _, b, rfl, upd_same, ed2, xr, .own CB, kt, b, rfl, ?_⟩
        have y := q2 a na
        cases b with
        | true => exact iteT y
        | false => exact iteF y
    · obtain ⟨rfl, y⟩ := r
      exact ⟨_, rfl, rfl, _, rfl, iteT y⟩
end L2.K2

set_option Elab.async false
set_option linter.all false
set_option maxRecDepth 100000
set_option maxHeartbeats 8000000
namespace L2.K2
open PySem PySem.Spec PyProof.Rows L2.Sl L2.Fr
/-- a thing of a built-in kind, whatever stands in it -/
inductive Kd (H : Hp) : V → Prop
  | non : Kd H .non
  | bl (b : Bool) : Kd H (.bl b)
  | int (i : Int) : Kd H (.int i)
  | str (x : Str) : Kd H (.str x)
  | tup {p : Addr} {xs : List V} : H p = some (.tup xs) → Kd H (.ref p)
  | lst {p : Addr} {xs : List V} : H p = some (.lst xs) → Kd H (.ref p)
  | dct {p : Addr} {l : List (Key × V)} : H p = some (.dK l) → Kd H (.ref p)
theorem Kd.same {H H2 : Hp} {v : V} (s : Same H H2) (h : Kd H v) : Kd H2 v := by
  cases h with
  | non => exact .non
  | bl b => exact .bl b
  | int i => exact .int i
  | str x => exact .str x
  | tup e => exact .tup (s _ _ e)
  | lst e => exact .lst (s _ _ e)
  | dct e => exact .dct (s _ _ e)
theorem Sth.kd {m gl : Addr} {H : Hp} {v : V} (h : Sth m gl H v) : Kd H v := by
  cases h with
  | non => exact .non
  | bl b => exact .bl b
  | int i _ => exact .int i
  | str x _ _ => exact .str x
  | tup e _ _ _ _ => exact .tup e
  | lst e _ => exact .lst e
  | dct e _ => exact .dct e
theorem Th.kd {H : Hp} {v : V} {d : PyData} (h : Th H v d) : Kd H v := by
  cases h with
  | non => exact .non
  | bl b => exact .bl b
  | int i => exact .int i
  | str x => exact .str x
  | tup e _ => exact .tup e
theorem ThAll.kd {H : Hp} : ∀ {vs : List V} {ds : List PyData}, ThAll H vs ds → ∀ v ∈ vs, Kd H v
  | _, _, .nil => fun v hv => by cases hv
  | _, _, .cons t r => fun v hv => by
    rcases List.mem_cons.mp hv with e | h
    · rw [e]
      exact Th.kd t
    · exact ThAll.kd r v h
def isIV : V → Bool
  | .int _ => true
  | _ => false
/-- no tuple -/
def NoT (H : Hp) (v : V) : Prop := ∀ p xs, v = .ref p → H p ≠ some (.tup xs)
theorem Kd.ty {K : PySem.W.Frag} {H : Hp} {v : V} (h : Kd H v) : ∃ T, TyB K H v T ∧ T ∈ kinds7 ∧ decide (T = "int") = isIV v ∧ ((decide (T = "tuple") = true ∧ ∃ p xs, v = .ref p ∧ H p = some (.tup xs)) ∨ (decide (T = "tuple") = false ∧ NoT H v)) := by
  cases h with
  | non => exact ⟨_, .non, by decide +kernel, (by decide +kernel : decide ("NoneType" = "int") = false), .inr ⟨(by decide +kernel : decide ("NoneType" = "tuple") = false), fun _ _ z => nomatch z⟩⟩
  | bl b => exact ⟨_, .bl b, by decide +kernel, (by decide +kernel : decide ("bool" = "int") = false), .inr ⟨(by decide +kernel : decide ("bool" = "tuple") = false), fun _ _ z => nomatch z⟩⟩
  | int i => exact ⟨_, .int i, by decide +kernel, (by decide +kernel : decide ("int" = "int") = true), .inr ⟨(by decide +kernel : decide ("int" = "tuple") = false), fun _ _ z => nomatch z⟩⟩
  | str x => exact ⟨_, .str x, by decide +kernel, (by decide +kernel : decide ("str" = "int") = false), .inr ⟨(by decide +kernel : decide ("str" = "tuple") = false), fun _ _ z => nomatch z⟩⟩
  | tup e => exact ⟨_, .tup (SqT.of e), by decide +kernel, (by decide +kernel : decide ("tuple" = "int") = false), .inl ⟨(by decide +kernel : decide ("tuple" = "tuple") = true), _, _, rfl, e⟩⟩
  | lst e => exact ⟨_, .lst (SqL.of e), by decide +kernel, (by decide +kernel : decide ("list" = "int") = false), .inr ⟨(by decide +kernel : decide ("list" = "tuple") = false), fun _ _ z y => by cases z; rw [e] at y; cases y⟩⟩
  | dct e => exact ⟨_, .dK e, by decide +kernel, (by decide +kernel : decide ("dict" = "int") = false), .inr ⟨(by decide +kernel : decide ("dict" = "tuple") = false), fun _ _ z y => by cases z; rw [e] at y; cases y⟩⟩
def spRow : Sp := fun vs H Q _ => ∃ (x : V) (lo hi : Int), vs = [x, .int lo, .int hi] ∧ Kd H x ∧ (∀ p xs, x = .ref p → H p = some (.tup xs) → Q (.bl (decide (lo ≤ (xs.length : Int)) && decide ((xs.length : Int) ≤ hi))) H) ∧ (NoT H x → Q (.bl false) H)
def spAre : Sp := fun vs H Q _ => ∃ (p : Addr) (xs : List V), vs = [.ref p] ∧ H p = some (.tup xs) ∧ (∀ v ∈ xs, Kd H v) ∧ xs.length ≤ 100 ∧ ∀ H2, Same H H2 → Q (.bl (xs.all isIV)) H2
section
variable {P : Program} {w : World} {K : PySem.W.Frag} {mg : Str → Option Value} {base : Heap}
abbrev s_is_row : Stmt := topS 11
abbrev N_is_row : List Str := ["thing", "least", "most"]
theorem sc_is_row : FnScope N_is_row ["thing", "least", "most"] (defScope s_is_row) := ⟨rfl, rfl, rfl, by decide +kernel, rfl, by decide +kernel, by decide +kernel⟩
theorem ok_is_row {f : Addr} {fd : FuncData} {k : Nat} (F : Fun K "is_row" "is_row" s_is_row f fd) (n_type : mg "type" = none) (n_tuple : mg "tuple" = none) (n_len : mg "len" = none) : FnOk P w K mg base CX0 (k + 1) f fd ["thing", "least", "most"] spRow := by
  refine F.ok sc_is_row (fun vs H Q E h => ?_) (fun cdv A outer s H vs Q E hr h => ?_)
  · obtain ⟨x, lo, hi, rfl, _⟩ := h
    rfl
  · obtain ⟨x, lo, hi, rfl, kd, q1, q2⟩ := h
    refine ⟨_, (pss_one (ps_ret (pe_and (pe_cmpR op_eqTy (pe_callTy call_type1 (by rfl) n_type (by decide +kernel) (pa_cons (pv 0) pa_nil)) (pe_bltn (v := .ty "tuple") (by rfl) n_tuple (by decide +kernel) rfl) (nomark _)) (pe_one (pe_chain op_le op_le (pv 1) (pe_callB call_len_seq (by rfl) n_len (by decide +kernel) (pa_cons (pv 0) pa_nil)) (pv 2)))))), ?_⟩
    obtain ⟨T, tb, mt, _, eT⟩ := Kd.ty (K := K) kd
    refine ⟨_, rfl, x, T, rfl, tb, T, "tuple", rfl, rfl, mt, by decide +kernel, _, rfl, ?_⟩
    rcases eT with ⟨eT, p, xs, rfl, ep⟩ | ⟨eT, no⟩
    · rw [eT]
      have y := q1 p xs rfl ep
      refine iteT ⟨_, rfl, _, rfl, p, xs, rfl, .inr (SqT.of ep), _, _, rfl, rfl, _, rfl, ite2 (fun c => ?_) (fun c => ?_)⟩
      · rw [show decide (lo ≤ (xs.length : Int)) = true from c] at y
        exact ⟨_, rfl, _, _, rfl, rfl, y⟩
      · rw [show decide (lo ≤ (xs.length : Int)) = false from Bool.eq_false_iff.mpr c] at y
        exact y
    · rw [eT]
      exact iteF (q2 no)
abbrev s_are_ints : Stmt := topS 21
abbrev N_are_ints : List Str := ["things", "thing"]
theorem sc_are_ints : FnScope N_are_ints ["things"] (defScope s_are_ints) := ⟨rfl, rfl, rfl, by decide +kernel, rfl, by decide +kernel, by decide +kernel⟩
theorem ok_are_ints {f : Addr} {fd : FuncData} {k : Nat} (F : Fun K "_are_ints" "_are_ints" s_are_ints f fd) (n_all : mg "all" = none) (n_type : mg "type" = none) (n_int : mg "int" = none) : FnOk P w K mg base CX0 (k + 1) f fd ["things"] spAre := by
  refine F.ok sc_are_ints (fun vs H Q E h => ?_) (fun cdv A outer s H vs Q E hr h => ?_)
  · obtain ⟨p, xs, rfl, _⟩ := h
    rfl
  · obtain ⟨p, xs, rfl, ep, kd, hl, q⟩ := h
    refine ⟨_, (pss_one (ps_ret (pe_callB (cr_all rfl) (by rfl) n_all (by decide +kernel) (pa_cons (pe_lc (own := [("thing", 1)]) (te := tOp rEqTy (tCB (rTyp K) (tCons (tVar 1) tNil)) (tC (.ty "int"))) (by rfl) sc_are_ints.nd (pi_tup (pv 0)) (blkOk_by (own := [("thing", 1)]) (N := N_are_ints) (sc := defScope s_are_ints) (by decide +kernel)) (fun _ _ _ _ _ => (pg_name (i := 1) sc_are_ints.nd rfl (.inl rfl))) (fun _ _ _ _ _ => pts_nil) (fun _ _ _ _ _ => (pe_cmpR op_eqTy (pe_callTy call_type1 (by rfl) n_type (by decide +kernel) (pa_cons (pv 1) pa_nil)) (pe_bltn (v := .ty "int") (by rfl) n_int (by decide +kernel) rfl) (nomark _)))) pa_nil)))), ?_⟩
    refine ⟨_, rfl, p, rfl, ⟨_, SqT.of ep⟩, fun D nD => ?_⟩
    refine lc_tup (K := K) (a := p) (xs := xs) (fun i H2 => Same H H2 ∧ H2 D = some (.lst (((xs.take i).map isIV).map V.bl))) ⟨same_new nD, upd_same⟩ (fun i H2 _ hp => SqT.of (hp.1 _ _ ep)) (fun i v H2 hv hp => ?_) (fun H2 hp => ?_)
    · obtain ⟨T, tb, mt, eT, _⟩ := Kd.ty (K := K) ((kd v (List.mem_of_getElem? hv)).same hp.1)
      refine ⟨rfl, _, rfl, v, T, rfl, tb, T, "int", rfl, rfl, mt, by decide +kernel, _, hp.2, ?_, same_put hp.1 nD, ?_⟩
      · rw [List.length_map, List.length_map, List.length_take]
        exact Nat.lt_of_le_of_lt (show _ ≤ 100 by omega) (by decide)
      · rw [upd_same, List.take_succ, hv, List.map_append, List.map_append, eT] <;> rfl
    · obtain ⟨S2, eD⟩ := hp
      rw [List.take_length] at eD
      refine ⟨D, xs.map isIV, rfl, SqL.of eD, ?_⟩
      have y := q _ S2
      rw [List.all_map] 
      exact y
end
end L2.K2

set_option Elab.async false
set_option linter.all false
set_option maxRecDepth 100000
set_option maxHeartbeats 8000000
set_option exponentiation.threshold 10000
namespace L2.K2
open PySem PySem.Spec PyProof.Rows L2.Sl L2.Fr
theorem gcd_low {a b : Int} (h : 0 < b) : (Int.gcd a b = 1) ↔ low a b = (a, b) := by
  constructor
  · intro g
    exact low_self ⟨h, g⟩
  · intro e
    have z := low_low (t := a) (u := b) (by omega)
    rw [e] at z
    exact z.2
def spSh : Sp := fun vs H Q _ => ∃ x, vs = [x] ∧ Kd H x ∧ ((NoT H x ∧ ∀ H2, Same H H2 → Q (.bl false) H2) ∨ ∃ p xs ds, x = .ref p ∧ H p = some (.tup xs) ∧ ThAll H xs ds ∧ xs.length ≤ 100 ∧ ∀ H2, Same H H2 → Q (.bl (isFr ds)) H2)
theorem th_isI {H : Hp} {v : V} {d : PyData} (h : Th H v d) : isIV v = isI d := by
  cases h <;> rfl
section
variable {P : Program} {w : World} {K : PySem.W.Frag} {mg : Str → Option Value} {base : Heap}
abbrev s_is_share : Stmt := topS 13
abbrev N_is_share : List Str := ["thing"]
theorem sc_is_share : FnScope N_is_share ["thing"] (defScope s_is_share) := ⟨rfl, rfl, rfl, by decide +kernel, rfl, by decide +kernel, by decide +kernel⟩
theorem ok_is_share {f frw far : Addr} {fd drw dar : FuncData} {k : Nat} (F : Fun K "is_share" "is_share" s_is_share f fd) (F_rw : Fun K "is_row" "is_row" s_is_row frw drw) (b_rw : Binds K drw ["thing", "least", "most"] []) (g_rw : mg "is_row" = some (.ref frw))
    (F_ar : Fun K "_are_ints" "_are_ints" s_are_ints far dar) (b_ar : Binds K dar ["things"] []) (g_ar : mg "_are_ints" = some (.ref far)) (n_type : mg "type" = none) (n_tuple : mg "tuple" = none) (n_len : mg "len" = none) (n_all : mg "all" = none) (n_int : mg "int" = none)
    (g_gcd : mg "gcd" = some (.builtin "math.gcd")) : FnOk P w K mg base CX0 (k + 2) f fd ["thing"] spSh := by
  have G_rw : FnOk P w K mg base CX0 (k + 1) frw drw ["thing", "least", "most"] spRow := ok_is_row F_rw n_type n_tuple n_len
  have G_ar : FnOk P w K mg base CX0 (k + 1) far dar ["things"] spAre := ok_are_ints F_ar n_all n_type n_int
  refine F.ok sc_is_share (fun vs H Q E h => ?_) (fun cdv A outer s H vs Q E hr h => ?_)
  · obtain ⟨x, rfl, _⟩ := h
    rfl
  · obtain ⟨x, rfl, kd, q⟩ := h
    refine ⟨_, (pss_cons (ps_if (PW.pt (pw_or (pt_not (pt_val (pe_call G_rw hr (by rfl) g_rw F_rw.kp b_rw .nil pass0 (pa_cons (pv 0) (pa_cons pe_int (pa_cons pe_int pa_nil)))))) (pw_or1 (pt_not (pt_val (pe_call G_ar hr (by rfl) g_ar F_ar.kp b_ar .nil pass0 (pa_cons (pv 0) pa_nil)))))))
        (pss_one (ps_ret pe_bl))
        pss_nil)
      (pss_one (ps_ret (pe_and (pe_cmpR op_ge (pe_ix ix_tup (pv 0) pe_int (fun _ _ => rfl)) pe_int (nomark _)) (pe_one (pe_cmpR op_eq (pe_callBfun cr_gcd (by rfl) g_gcd (pa_cons (pe_ix ix_tup (pv 0) pe_int (fun _ _ => rfl)) (pa_cons (pe_ix ix_tup (pv 0) pe_int (fun _ _ => rfl)) pa_nil))) pe_int (nomark _))))))), ?_⟩
    refine ⟨_, rfl, x, 2, 2, rfl, kd, fun p xs e ep => ?_, fun no => ?_⟩
    · subst e
      rcases q with ⟨no, _⟩ | ⟨p', xs', ds, e, ep', ta, hl, q⟩
      · exact absurd ep (no p xs rfl)
      · cases e
        cases ep.symm.trans ep'
        have no2 : xs.length ≠ 2 → isFr ds = false := fun h => isFr_len (by rw [Th.len ta]; exact h)
        by_cases h2 : xs.length = 2
        · rw [show (decide ((2 : Int) ≤ (xs.length : Int)) && decide ((xs.length : Int) ≤ 2)) = true by rw [h2]; rfl]
          refine ⟨_, rfl, iteF ⟨_, rfl, p, xs, rfl, ep, ThAll.kd ta, hl, fun H2 S2 => ⟨_, rfl, ?_⟩⟩⟩
          cases ta with
          | nil => exact absurd h2 (by decide)
          | cons t1 r1 =>
            cases r1 with
            | nil => exact absurd h2 (by simp)
            | cons t2 r2 =>
              cases r2 with
              | cons _ _ => exact absurd h2 (by simp)
              | nil =>
                rename_i x1 d1 x2 d2
                have e1 := th_isI t1
                have e2 := th_isI t2
                show if (!([x1, x2].all isIV)) = true then _ else _
                rw [show [x1, x2].all isIV = (isI d1 && isI d2) by simp [e1, e2]]
                cases hd1 : isI d1 with
                | false =>
                  have y := q H2 S2
                  rw [isFr_not (.inl hd1)] at y
                  exact iteT y
                | true =>
                  cases hd2 : isI d2 with
                  | false =>
                    have y := q H2 S2
                    rw [isFr_not (.inr hd2)] at y
                    exact iteT y
                  | true =>
                    refine iteF ?_
                    cases t1 <;> first | (cases hd1; done) | skip
                    cases t2 <;> first | (cases hd2; done) | skip
                    rename_i a b
                    have ep2 := S2 _ _ ep
                    have y := q H2 S2
                    refine ⟨_, rfl, p, _, _, _, rfl, rfl, SqT.of ep2, at_of (j := 1) rfl rfl, _, _, rfl, rfl, _, rfl, ite2 (fun c => ?_) (fun c => ?_)⟩
                    · have b1 : (1 : Int) ≤ b := of_decide_eq_true c
                      refine ⟨_, rfl, p, _, _, _, rfl, rfl, SqT.of ep2, at_of (j := 0) rfl rfl, _, rfl, p, _, _, _, rfl, rfl, SqT.of ep2, at_of (j := 1) rfl rfl, a, b, rfl, rfl, ?_⟩
                      have e : isFr [.int a, .int b] = decide (V.int ((Nat.gcd a.natAbs b.natAbs : Nat) : Int) = V.int 1) := by
                        show (decide (0 < b) && decide (low a b = (a, b))) = _
                        rw [decide_eq_true (show 0 < b by omega), Bool.true_and]
                        exact decide_eq_decide.mpr ⟨fun z => by rw [show Nat.gcd a.natAbs b.natAbs = 1 from (gcd_low (by omega)).mpr z] <;> rfl, fun z => (gcd_low (by omega)).mp (Int.ofNat.inj (V.int.inj z))⟩
                      rw [e] at y
                      exact y
                    · have b1 : ¬ (1 : Int) ≤ b := fun z => c (decide_eq_true z)
                      have e : isFr [.int a, .int b] = false := by
                        show (decide (0 < b) && decide (low a b = (a, b))) = _
                        rw [decide_eq_false (show ¬ 0 < b by omega)] <;> rfl
                      rw [e] at y
                      exact y
        · rw [show (decide ((2 : Int) ≤ (xs.length : Int)) && decide ((xs.length : Int) ≤ 2)) = false by
            rw [Bool.and_eq_false_iff]
            rcases Nat.lt_or_gt_of_ne h2 with h | h
            · exact .inl (decide_eq_false (by omega))
            · exact .inr (decide_eq_false (by omega))]
          have y := q H (fun _ _ z => z)
          rw [no2 h2] at y
          exact ⟨_, rfl, iteT (iteT y)⟩
    · rcases q with ⟨_, q⟩ | ⟨p', xs', ds, e, ep', _⟩
      · exact ⟨_, rfl, iteT (iteT (q H fun _ _ z => z))⟩
      · exact absurd ep' (no _ _ e)
end
end L2.K2

set_option Elab.async false
set_option linter.all false
set_option maxRecDepth 100000
set_option maxHeartbeats 8000000
set_option exponentiation.threshold 10000
namespace L2.K2
open PySem PySem.W PySem.Spec PyProof.Rows L2.Sl L2.Fr SlX
abbrev iniB : Stmt := inClass (topS 5) 0
theorem it_B : InitTxt iniB ["why"] := ⟨(.cons _ _ _ _ .nil : Inits (defBody iniB) ["why"]), by decide +kernel, by decide +kernel, rfl, rfl, rfl⟩
theorem bi_B : ∀ us : List Value, us.length = (["why"] : List Str).length → BindI iniB "BadNumber.__init__" ["why"] (fun u => ⟨u :: us, []⟩) us := fun us h => match us, h with | [_], _ => fun _ _ _ _ _ _ _ _ => .of_eq rfl
structure BNum (K : Frag) (mg : Str → Option Value) (CB IB : Addr) : Prop where
  e : EC K CB IB "BadNumber.__init__" iniB ["why"]
  g : mg "BadNumber" = some (.ref CB)
/-- a BadNumber is let out -/
def EB (CB : Addr) (H : Hp) (E : XK) : Prop := ∀ H2 d t, Same H H2 → H2 d = none → E (.ref CB) (some d) (upd H2 d (.xd [("why", .str t)]))
theorem EB.same {CB : Addr} {H H1 : Hp} {E : XK} (s : Same H H1) (h : EB CB H E) : EB CB H1 E := fun H2 d t s2 nd => h H2 d t (s.trans s2) nd
theorem eqI (a b : Int) : decide (V.int a = V.int b) = decide (a = b) := decide_eq_decide.mpr ⟨fun z => V.int.inj z, fun z => by rw [z]⟩
theorem common_eq {a b : Int} (h : b ≠ 0) : (if b < 0 then -((Nat.gcd a.natAbs b.natAbs : Nat) : Int) else ((Nat.gcd a.natAbs b.natAbs : Nat) : Int)) = parts a b := by
  unfold parts
  show _ = if b > 0 then ((Nat.gcd a.natAbs b.natAbs : Nat) : Int) else 0 - ((Nat.gcd a.natAbs b.natAbs : Nat) : Int)
  split <;> split <;> omega
def spShare (CB : Addr) : Sp := fun vs H Q E => ∃ x y, vs = [x, y] ∧ Kd H x ∧ Kd H y ∧
  ((∃ a b : Int, x = .int a ∧ y = .int b ∧ b ≠ 0 ∧ b.natAbs < 2 ^ 8000 ∧ ∀ H2 p, Same H H2 → H p = none → H2 p = some (.tup [.int (low a b).1, .int (low a b).2]) → Q (.ref p) H2) ∨
   ((isIV x = false ∨ isIV y = false ∨ y = .int 0) ∧ EB CB H E))
section
variable {P : Program} {w : World} {K : PySem.W.Frag} {mg : Str → Option Value} {base : Heap} {CB IB : Addr}
abbrev s_lowest : Stmt := topS 20
abbrev N_lowest : List Str := ["a", "b", "common"]
theorem sc_lowest : FnScope N_lowest ["a", "b"] (defScope s_lowest) := ⟨rfl, rfl, rfl, by decide +kernel, rfl, by decide +kernel, by decide +kernel⟩
def spLw : Sp := fun vs H Q _ => ∃ a b : Int, vs = [.int a, .int b] ∧ 0 < b ∧ b.natAbs < 2 ^ 8000 ∧ ∀ H2 p, Same H H2 → H p = none → H2 p = some (.tup [.int (low a b).1, .int (low a b).2]) → Q (.ref p) H2
theorem ok_lowest {f : Addr} {fd : FuncData} {k : Nat} (F : Fun K "_lowest" "_lowest" s_lowest f fd) (g_gcd : mg "gcd" = some (.builtin "math.gcd")) : FnOk P w K mg base CX0 (k + 1) f fd ["a", "b"] spLw := by
  refine F.ok sc_lowest (fun vs H Q E h => ?_) (fun cdv A outer s H vs Q E hr h => ?_)
  · obtain ⟨a, b, rfl, _⟩ := h
    rfl
  · obtain ⟨a, b, rfl, b0, bb, q⟩ := h
    refine ⟨_, (pss_cons (ps_set (i := 2) sc_lowest.nd rfl (.inl rfl) (pe_callBfun cr_gcd (by rfl) g_gcd (pa_cons (pv 0) (pa_cons (pv 1) pa_nil))))
      (pss_one (ps_ret (pe_tup (pa_cons (pe_op op_fdivNW (pv 0) (pv 2)) (pa_cons (pe_op op_fdivNW (pv 1) (pv 2)) pa_nil)))))), ?_⟩
    have bn : b ≠ 0 := by omega
    have n0 : parts a b ≠ 0 := parts_ne bn
    have nb : (parts a b).natAbs.log2 < 9000 := by
      rw [parts_abs]
      have l1 : Int.gcd a b ≤ b.natAbs := Nat.le_of_dvd (by omega) (Int.gcd_dvd_natAbs_right ..)
      exact Nat.lt_of_lt_of_le (PySem.Flt.log2_lt_of (by decide) (Nat.lt_of_le_of_lt l1 bb)) (by decide)
    have ce := common_eq (a := a) bn
    rw [if_neg (show ¬ b < 0 by omega)] at ce
    have last : ∀ (c : Int), c = parts a b → tRet (tTup (tCons (tOp (rI CDivNW fun i j => V.int (i.fdiv j)) (tVar 0) (tVar 2)) (tCons (tOp (rI CDivNW fun i j => V.int (i.fdiv j)) (tVar 1) (tVar 2)) tNil))) { nx := fun x H' => Q V.non H', rt := Q } [some (.int a), some (.int b), some (.int c)] H := by
      rintro c rfl
      refine ⟨_, rfl, _, rfl, _, _, rfl, rfl, ⟨n0, nb⟩, _, rfl, _, rfl, _, _, rfl, rfl, ⟨n0, nb⟩, (show 2 ≤ sizeLine by decide), fun p np => ?_⟩
      refine q _ p (same_new np) np ?_
      rw [upd_same]
      show some (HO.tup [V.int (a.fdiv (parts a b)), V.int (b.fdiv (parts a b))]) = _
      rw [fdiv_low1, fdiv_low2]
    exact ⟨_, rfl, _, rfl, a, b, rfl, last _ ce⟩
theorem low_neg {a b : Int} (h : b < 0) : low (-a) (-b) = low a b := by
  have p1 : parts (-a) (-b) = -(parts a b) := by
    unfold parts
    rw [if_pos (show -b > 0 by omega), if_neg (show ¬ b > 0 by omega), Int.gcd_neg, Int.neg_gcd]
    omega
  have d1 : parts a b ∣ a := parts_left a b
  have d2 : parts a b ∣ b := parts_right a b
  unfold low
  rw [p1, Int.neg_ediv_of_dvd (Int.neg_dvd.mpr d1), Int.neg_ediv_of_dvd (Int.neg_dvd.mpr d2), Int.ediv_neg, Int.ediv_neg, Int.neg_neg, Int.neg_neg]
abbrev s_share : Stmt := topS 14
abbrev N_share : List Str := ["a", "b"]
theorem sc_share : FnScope N_share ["a", "b"] (defScope s_share) := ⟨rfl, rfl, rfl, by decide +kernel, rfl, by decide +kernel, by decide +kernel⟩
theorem ok_share {f far flw : Addr} {fd dar dlw : FuncData} {k : Nat} (F : Fun K "share" "share" s_share f fd) (F_ar : Fun K "_are_ints" "_are_ints" s_are_ints far dar) (b_ar : Binds K dar ["things"] []) (g_ar : mg "_are_ints" = some (.ref far)) (F_lw : Fun K "_lowest" "_lowest" s_lowest flw dlw) (b_lw : Binds K dlw ["a", "b"] []) (g_lw : mg "_lowest" = some (.ref flw)) (B : BNum K mg CB IB)
    (n_type : mg "type" = none) (n_all : mg "all" = none) (n_int : mg "int" = none) (g_gcd : mg "gcd" = some (.builtin "math.gcd")) : FnOk P w K mg base (L2.CX P w) (k + 2) f fd ["a", "b"] (spShare CB) := by
  have G_ar : FnOk P w K mg base CX0 (k + 1) far dar ["things"] spAre := ok_are_ints F_ar n_all n_type n_int
  have G_lw : FnOk P w K mg base CX0 (k + 1) flw dlw ["a", "b"] spLw := ok_lowest F_lw g_gcd
  refine okX F sc_share (fun vs H Q E h => ?_) (fun cdv A outer s H vs Q E hr h tk => ?_)
  · obtain ⟨x, y, rfl, _⟩ := h
    rfl
  · obtain ⟨x, y, rfl, kx, ky, q⟩ := h
    refine ⟨_, (pss_cons (ps_if (pt_not (pt_val (pe_call G_ar hr (by rfl) g_ar F_ar.kp b_ar .nil pass0 (pa_cons (pe_tup (pa_cons (pv 0) (pa_cons (pv 1) pa_nil))) pa_nil))))
        (pss_one (ps_raise rfl tk (pmk_down (pmk_E B.e it_B bi_B ⟨by decide, by decide⟩ hr B.g (pa_cons pe_str pa_nil)))))
        pss_nil)
      (pss_cons (ps_if (pt_cmpR op_eq (pv 1) pe_int (nomark _))
        (pss_one (ps_raise rfl tk (pmk_down (pmk_E B.e it_B bi_B ⟨by decide, by decide⟩ hr B.g (pa_cons pe_str pa_nil)))))
        pss_nil)
      (pss_one (ps_ret (pe_ifExp (pt_cmpR op_gt (pv 1) pe_int (nomark _)) (pe_call G_lw hr (by rfl) g_lw F_lw.kp b_lw .nil pass0 (pa_cons (pv 0) (pa_cons (pv 1) pa_nil))) (pe_call G_lw hr (by rfl) g_lw F_lw.kp b_lw .nil pass0 (pa_cons (pe_un un_neg (pv 0)) (pa_cons (pe_un un_neg (pv 1)) pa_nil)))))))), ?_⟩
    refine ⟨_, rfl, _, rfl, (show 2 ≤ sizeLine by decide), fun t nt => ?_⟩
    have s1 : Same H (upd H t (.tup [x, y])) := same_new nt
    refine ⟨t, [x, y], rfl, upd_same, ?_, (show 2 ≤ 100 by decide), fun H2 s2 => ⟨_, rfl, ?_⟩⟩
    · intro v hv
      simp only [List.mem_cons, List.mem_nil_iff, or_false] at hv
      rcases hv with rfl | rfl
      · exact kx.same s1
      · exact ky.same s1
    have S2 : Same H H2 := s1.trans s2
    have out : ∀ H3 : Hp, Same H H3 → ∀ (ms : Str), (isIV x = false ∨ isIV y = false ∨ y = .int 0) → EB CB H E → ∀ σ : St, tMkE CB ["why"] id (tCons (tC (.str ms)) tNil) σ H3 fun cls d H4 => WD E cls d σ H4 := fun H3 S3 ms _ eb σ => ⟨rfl, rfl, fun d nd => eb H3 d ms S3 nd⟩
    show if (!(isIV x && (isIV y && true))) = true then _ else _
    rcases q with ⟨a, b, rfl, rfl, b0, bb, q⟩ | ⟨bad, eb⟩
    · refine iteF ⟨_, rfl, rfl, _, rfl, ite2 (fun c => absurd (V.int.inj (of_decide_eq_true c)) b0) (fun _ => ?_)⟩
      refine ⟨_, rfl, _, _, rfl, rfl, _, rfl, ite2 (fun c => ?_) (fun c => ?_)⟩
      · have c1 : 0 < b := of_decide_eq_true c
        exact ⟨_, rfl, _, rfl, a, b, rfl, c1, bb, fun H3 p s3 np ep => q H3 p (S2.trans s3) (S2.free np) ep⟩
      · have c1 : ¬ 0 < b := fun z => c (decide_eq_true z)
        refine ⟨_, rfl, _, rfl, _, rfl, _, rfl, -a, -b, rfl, by omega, by rw [Int.natAbs_neg]; exact bb, fun H3 p s3 np ep => ?_⟩
        rw [low_neg (by omega)] at ep
        exact q H3 p (S2.trans s3) (S2.free np) ep
    · cases hx : isIV x with
      | false => exact iteT (out H2 S2 _ bad eb _)
      | true =>
        cases hy : isIV y with
        | false => exact iteT (out H2 S2 _ bad eb _)
        | true =>
          have y0 : y = .int 0 := by
            rcases bad with z | z | z
            · rw [z] at hx
              cases hx
            · rw [z] at hy
              cases hy
            · exact z
          subst y0
          exact iteF ⟨_, rfl, rfl, _, rfl, iteT (out H2 S2 _ bad eb _)⟩
end
end L2.K2

set_option Elab.async false
set_option linter.all false
set_option maxRecDepth 100000
set_option maxHeartbeats 8000000
set_option exponentiation.threshold 10000
namespace L2.K2
open PySem PySem.W PySem.Spec PyProof.Rows L2.Sl L2.Fr SlX
/-- a thing that is handed to what wants a fraction: a fraction of small numbers, or none -/
def FrB (H : Hp) (v : V) (b : Bool) : Prop := (b = true ∧ ∃ (x : Int × Int) (n : Nat), Fq H v x n ∧ n ≤ 3000) ∨ (b = false ∧ Kd H v ∧ (NoT H v ∨ ∃ p xs ds, v = .ref p ∧ H p = some (.tup xs) ∧ ThAll H xs ds ∧ xs.length ≤ 100 ∧ isFr ds = false))
theorem Fq.th {H : Hp} {v : V} {x : Int × Int} {n : Nat} (h : Fq H v x n) : ∃ p, v = .ref p ∧ H p = some (.tup [.int x.1, .int x.2]) ∧ ThAll H [.int x.1, .int x.2] [.int x.1, .int x.2] ∧ isFr [.int x.1, .int x.2] = true := by
  obtain ⟨⟨p, e, hp⟩, l, _, _⟩ := h
  refine ⟨p, e, hp, .cons (.int _) (.cons (.int _) .nil), ?_⟩
  show (decide (0 < x.2) && decide (L2.Fr.low x.1 x.2 = (x.1, x.2))) = true
  rw [decide_eq_true l.1, decide_eq_true (low_self l)] <;> rfl
theorem NoT.same {H H2 : Hp} {v : V} (s : Same H H2) (k : Kd H v) (n : NoT H v) : NoT H2 v := fun p xs e z => by
  subst e
  cases k with
  | tup e => exact n _ _ rfl e
  | lst e =>
    have y := s _ _ e
    rw [y] at z
    cases z
  | dct e =>
    have y := s _ _ e
    rw [y] at z
    cases z
theorem FrB.same {H H2 : Hp} {v : V} {b : Bool} (s : Same H H2) (h : FrB H v b) : FrB H2 v b := by
  rcases h with ⟨e, x, n, f, l⟩ | ⟨e, k, no | ⟨p, xs, ds, e1, e2, e3, e4, e5⟩⟩
  · exact .inl ⟨e, x, n, f.same s, l⟩
  · exact .inr ⟨e, k.same s, .inl (no.same s k)⟩
  · exact .inr ⟨e, k.same s, .inr ⟨p, xs, ds, e1, s _ _ e2, e3.mono (.of s), e4, e5⟩⟩
def spNeed (CB : Addr) : Sp := fun vs H Q E => ∃ (v : V) (b : Bool), vs = [v] ∧ FrB H v b ∧ (b = true → ∀ H2, Same H H2 → Q .non H2) ∧ (b = false → EB CB H E)
/-- sums, products: of two fractions what op tells, else refused -/
def spBin (CB : Addr) (op : Int × Int → Int × Int → Int × Int) : Sp := fun vs H Q E => ∃ (v u : V) (b c : Bool), vs = [v, u] ∧ FrB H v b ∧ FrB H u c ∧ (b = false ∨ c = false → EB CB H E) ∧
  (b = true → c = true → ∀ x y n m, Fq H v x n → Fq H u y m → n ≤ 3000 → m ≤ 3000 → ∀ H2 p, Same H H2 → H p = none → H2 p = some (.tup [.int (op x y).1, .int (op x y).2]) → Q (.ref p) H2)
section
variable {P : Program} {w : World} {K : PySem.W.Frag} {mg : Str → Option Value} {base : Heap} {CB IB : Addr}
abbrev s_need_share : Stmt := topS 17
abbrev N_need_share : List Str := ["thing"]
theorem sc_need_share : FnScope N_need_share ["thing"] (defScope s_need_share) := ⟨rfl, rfl, rfl, by decide +kernel, rfl, by decide +kernel, by decide +kernel⟩
theorem ok_need_share {f fish : Addr} {fd dish : FuncData} {k : Nat} (F : Fun K "need_share" "need_share" s_need_share f fd) (G_ish : FnOk P w K mg base CX0 (k + 2) fish dish ["thing"] spSh) (k_ish : keepIn K (.ref fish) = true) (b_ish : Binds K dish ["thing"] []) (g_ish : mg "is_share" = some (.ref fish)) (B : BNum K mg CB IB) :
    FnOk P w K mg base (L2.CX P w) (k + 3) f fd ["thing"] (spNeed CB) := by
  refine okX F sc_need_share (fun vs H Q E h => ?_) (fun cdv A outer s H vs Q E hr h tk => ?_)
  · obtain ⟨v, b, rfl, _⟩ := h
    rfl
  · obtain ⟨v, b, rfl, fb, q1, q2⟩ := h
    refine ⟨_, (pss_one (ps_if (pt_not (pt_val (pe_call G_ish hr (by rfl) g_ish k_ish b_ish .nil pass0 (pa_cons (pv 0) pa_nil))))
        (pss_one (ps_raise rfl tk (pmk_down (pmk_E B.e it_B bi_B ⟨by decide, by decide⟩ hr B.g (pa_cons pe_str pa_nil)))))
        pss_nil)), ?_⟩
    refine ⟨_, rfl, v, rfl, ?_⟩
    rcases fb with ⟨rfl, x, n, fq, _⟩ | ⟨rfl, kd, no | ⟨p, xs, ds, rfl, ep, ta, hl, nf⟩⟩
    · obtain ⟨p, rfl, ep, ta, tf⟩ := fq.th
      refine ⟨.tup ep, .inr ⟨p, _, _, rfl, ep, ta, (show 2 ≤ 100 by decide), fun H2 s2 => ⟨_, rfl, ?_⟩⟩⟩
      rw [tf]
      exact iteF (q1 rfl H2 s2)
    · exact ⟨kd, .inl ⟨no, fun H2 s2 => ⟨_, rfl, iteT ⟨rfl, rfl, fun d nd => q2 rfl H2 d _ s2 nd⟩⟩⟩⟩
    · refine ⟨kd, .inr ⟨p, xs, ds, rfl, ep, ta, hl, fun H2 s2 => ⟨_, rfl, ?_⟩⟩⟩
      rw [nf]
      exact iteT ⟨rfl, rfl, fun d nd => q2 rfl H2 d _ s2 nd⟩
theorem mul_ok {a b : Int} (h1 : a.natAbs < 2 ^ 3000) (h2 : b.natAbs < 2 ^ 3000) : CMulW a b := wide_mul h1 h2 (by decide) (by decide) (by decide)
theorem mul_lt {a b : Int} (h1 : a.natAbs < 2 ^ 3000) (h2 : b.natAbs < 2 ^ 3000) : (a * b).natAbs < 2 ^ 8000 := Nat.lt_of_lt_of_le (wide_lt h1 h2) (Nat.pow_le_pow_right (by decide) (by decide))
theorem Fq.b3 {H : Hp} {v : V} {x : Int × Int} {n : Nat} (h : Fq H v x n) (l : n ≤ 3000) : x.1.natAbs < 2 ^ 3000 ∧ x.2.natAbs < 2 ^ 3000 :=
  ⟨Nat.lt_of_lt_of_le h.b1 (Nat.pow_le_pow_right (by decide) l), Nat.lt_of_lt_of_le h.b2 (Nat.pow_le_pow_right (by decide) l)⟩
/-- of two fractions what op tells -/
def spQuick (op : Int × Int → Int × Int → Int × Int) : Sp := fun vs H Q _ => ∃ (v u : V) (x y : Int × Int) (n m : Nat), vs = [v, u] ∧ Fq H v x n ∧ Fq H u y m ∧ n ≤ 3000 ∧ m ≤ 3000 ∧
  ∀ H2 p, Same H H2 → H p = none → H2 p = some (.tup [.int (op x y).1, .int (op x y).2]) → Q (.ref p) H2
theorem low_one {a : Int} : L2.Fr.low a 1 = (a, 1) := by
  unfold L2.Fr.low
  have p : parts a 1 = 1 := by
    unfold parts
    rw [if_pos (by decide), Int.gcd_one_right] <;> rfl
  rw [p]
  simp
abbrev s_quick_plus : Stmt := topS 18
abbrev N_quick_plus : List Str := ["one", "other", "a", "b", "c", "d"]
theorem sc_quick_plus : FnScope N_quick_plus ["one", "other"] (defScope s_quick_plus) := ⟨rfl, rfl, rfl, by decide +kernel, rfl, by decide +kernel, by decide +kernel⟩
theorem ok_quick_plus {f flw : Addr} {fd dlw : FuncData} {k : Nat} (F : Fun K "quick_plus" "quick_plus" s_quick_plus f fd) (G_lw : FnOk P w K mg base CX0 k flw dlw ["a", "b"] spLw) (k_lw : keepIn K (.ref flw) = true) (b_lw : Binds K dlw ["a", "b"] []) (g_lw : mg "_lowest" = some (.ref flw)) :
    FnOk P w K mg base CX0 (k + 1) f fd ["one", "other"] (spQuick fadd) := by
  refine F.ok sc_quick_plus (fun vs H Q E h => ?_) (fun cdv A outer s H vs Q E hr h => ?_)
  · obtain ⟨v, u, x, y, n, m, rfl, _⟩ := h
    rfl
  · obtain ⟨v, u, x, y, n, m, rfl, fx, fy, ln, lm, q⟩ := h
    refine ⟨_, (pss_cons (ps_asg (pv 0) (pg_tup rfl (pgs_cons (pg_name (i := 2) sc_quick_plus.nd rfl (.inl rfl)) (pgs_cons (pg_name (i := 3) sc_quick_plus.nd rfl (.inl rfl)) pgs_nil))))
      (pss_cons (ps_asg (pv 1) (pg_tup rfl (pgs_cons (pg_name (i := 4) sc_quick_plus.nd rfl (.inl rfl)) (pgs_cons (pg_name (i := 5) sc_quick_plus.nd rfl (.inl rfl)) pgs_nil))))
      (pss_cons (ps_if (pt_chain op_eq op_eq (pv 3) (pv 5) pe_int)
        (pss_one (ps_ret (pe_tup (pa_cons (pe_op op_add (pv 2) (pv 4)) (pa_cons pe_int pa_nil)))))
        pss_nil)
      (pss_one (ps_ret (pe_call G_lw hr (by rfl) g_lw k_lw b_lw .nil pass0 (pa_cons (pe_op op_add (pe_op op_mulW (pv 2) (pv 5)) (pe_op op_mulW (pv 4) (pv 3))) (pa_cons (pe_op op_mulW (pv 3) (pv 5)) pa_nil)))))))), ?_⟩
    obtain ⟨x1, x2⟩ := fx.b3 ln
    obtain ⟨y1, y2⟩ := fy.b3 lm
    obtain ⟨⟨p, rfl, ep⟩, lx, _, _⟩ := fx
    obtain ⟨⟨r, rfl, er⟩, ly, _, _⟩ := fy
    refine ⟨_, rfl, p, _, rfl, SqT.of ep, rfl, _, _, rfl, _, _, rfl, rfl, ?_⟩
    refine ⟨_, rfl, r, _, rfl, SqT.of er, rfl, _, _, rfl, _, _, rfl, rfl, ?_⟩
    have tail : ∀ (hh : x.2 = 1 ∧ y.2 = 1), tRet (tTup (tCons (tOp (rI0 fun i j => V.int (i + j)) (tVar 2) (tVar 4)) (tCons (tC (.int 1)) tNil))) { nx := fun x H' => Q V.non H', rt := Q } [some (.ref p), some (.ref r), some (.int x.1), some (.int x.2), some (.int y.1), some (.int y.2)] H := by
      rintro ⟨e1, e2⟩
      refine ⟨_, rfl, _, rfl, _, _, rfl, rfl, (show 2 ≤ sizeLine by decide), fun p np => q _ p (same_new np) np ?_⟩
      rw [upd_same]
      show some (HO.tup [V.int (x.1 + y.1), V.int 1]) = _
      have e : fadd x y = (x.1 + y.1, 1) := by
        show L2.Fr.low _ _ = _
        rw [e1, e2, Int.mul_one, Int.mul_one, Int.mul_one, low_one]
      rw [e]
    refine ⟨_, rfl, _, rfl, rfl, _, rfl, ite2 (fun c => ⟨rfl, _, rfl, ite2 (fun c2 => tail ⟨(V.int.inj (of_decide_eq_true c)).trans (V.int.inj (of_decide_eq_true c2)), V.int.inj (of_decide_eq_true c2)⟩) (fun _ => ?_)⟩) (fun c => ⟨_, rfl, iteF ?_⟩)⟩
    · exact ⟨_, rfl, _, rfl, _, _, rfl, rfl, mul_ok x1 y2, _, rfl, _, rfl, _, _, rfl, rfl, mul_ok y1 x2, _, _, rfl, rfl, _, rfl, _, rfl, _, _, rfl, rfl, mul_ok x2 y2, _, _, rfl, Int.mul_pos lx.1 ly.1, mul_lt x2 y2, q⟩
    · exact ⟨_, rfl, _, rfl, _, _, rfl, rfl, mul_ok x1 y2, _, rfl, _, rfl, _, _, rfl, rfl, mul_ok y1 x2, _, _, rfl, rfl, _, rfl, _, rfl, _, _, rfl, rfl, mul_ok x2 y2, _, _, rfl, Int.mul_pos lx.1 ly.1, mul_lt x2 y2, q⟩
abbrev s_quick_times : Stmt := topS 19
abbrev N_quick_times : List Str := ["one", "other", "a", "b", "c", "d"]
theorem sc_quick_times : FnScope N_quick_times ["one", "other"] (defScope s_quick_times) := ⟨rfl, rfl, rfl, by decide +kernel, rfl, by decide +kernel, by decide +kernel⟩
theorem ok_quick_times {f flw : Addr} {fd dlw : FuncData} {k : Nat} (F : Fun K "quick_times" "quick_times" s_quick_times f fd) (G_lw : FnOk P w K mg base CX0 k flw dlw ["a", "b"] spLw) (k_lw : keepIn K (.ref flw) = true) (b_lw : Binds K dlw ["a", "b"] []) (g_lw : mg "_lowest" = some (.ref flw)) :
    FnOk P w K mg base CX0 (k + 1) f fd ["one", "other"] (spQuick fmul) := by
  refine F.ok sc_quick_times (fun vs H Q E h => ?_) (fun cdv A outer s H vs Q E hr h => ?_)
  · obtain ⟨v, u, x, y, n, m, rfl, _⟩ := h
    rfl
  · obtain ⟨v, u, x, y, n, m, rfl, fx, fy, ln, lm, q⟩ := h
    refine ⟨_, (pss_cons (ps_asg (pv 0) (pg_tup rfl (pgs_cons (pg_name (i := 2) sc_quick_times.nd rfl (.inl rfl)) (pgs_cons (pg_name (i := 3) sc_quick_times.nd rfl (.inl rfl)) pgs_nil))))
      (pss_cons (ps_asg (pv 1) (pg_tup rfl (pgs_cons (pg_name (i := 4) sc_quick_times.nd rfl (.inl rfl)) (pgs_cons (pg_name (i := 5) sc_quick_times.nd rfl (.inl rfl)) pgs_nil))))
      (pss_cons (ps_if (pt_chain op_eq op_eq (pv 3) (pv 5) pe_int)
        (pss_one (ps_ret (pe_tup (pa_cons (pe_op op_mulW (pv 2) (pv 4)) (pa_cons pe_int pa_nil)))))
        pss_nil)
      (pss_one (ps_ret (pe_call G_lw hr (by rfl) g_lw k_lw b_lw .nil pass0 (pa_cons (pe_op op_mulW (pv 2) (pv 4)) (pa_cons (pe_op op_mulW (pv 3) (pv 5)) pa_nil)))))))), ?_⟩
    obtain ⟨x1, x2⟩ := fx.b3 ln
    obtain ⟨y1, y2⟩ := fy.b3 lm
    obtain ⟨⟨p, rfl, ep⟩, lx, _, _⟩ := fx
    obtain ⟨⟨r, rfl, er⟩, ly, _, _⟩ := fy
    refine ⟨_, rfl, p, _, rfl, SqT.of ep, rfl, _, _, rfl, _, _, rfl, rfl, ?_⟩
    refine ⟨_, rfl, r, _, rfl, SqT.of er, rfl, _, _, rfl, _, _, rfl, rfl, ?_⟩
    have tail : ∀ (hh : x.2 = 1 ∧ y.2 = 1), tRet (tTup (tCons (tOp (rI CMulW fun i j => V.int (i * j)) (tVar 2) (tVar 4)) (tCons (tC (.int 1)) tNil))) { nx := fun x H' => Q V.non H', rt := Q } [some (.ref p), some (.ref r), some (.int x.1), some (.int x.2), some (.int y.1), some (.int y.2)] H := by
      rintro ⟨e1, e2⟩
      refine ⟨_, rfl, _, rfl, _, _, rfl, rfl, mul_ok x1 y1, (show 2 ≤ sizeLine by decide), fun p np => q _ p (same_new np) np ?_⟩
      rw [upd_same]
      show some (HO.tup [V.int (x.1 * y.1), V.int 1]) = _
      have e : fmul x y = (x.1 * y.1, 1) := by
        show L2.Fr.low _ _ = _
        rw [e1, e2, Int.mul_one, low_one]
      rw [e]
    refine ⟨_, rfl, _, rfl, rfl, _, rfl, ite2 (fun c => ⟨rfl, _, rfl, ite2 (fun c2 => tail ⟨(V.int.inj (of_decide_eq_true c)).trans (V.int.inj (of_decide_eq_true c2)), V.int.inj (of_decide_eq_true c2)⟩) (fun _ => ?_)⟩) (fun c => ⟨_, rfl, iteF ?_⟩)⟩
    · exact ⟨_, rfl, _, rfl, _, _, rfl, rfl, mul_ok x1 y1, _, rfl, _, rfl, _, _, rfl, rfl, mul_ok x2 y2, _, _, rfl, Int.mul_pos lx.1 ly.1, mul_lt x2 y2, q⟩
    · exact ⟨_, rfl, _, rfl, _, _, rfl, rfl, mul_ok x1 y1, _, rfl, _, rfl, _, _, rfl, rfl, mul_ok x2 y2, _, _, rfl, Int.mul_pos lx.1 ly.1, mul_lt x2 y2, q⟩
abbrev s_plus : Stmt := topS 15
abbrev N_plus : List Str := ["one", "other"]
theorem sc_plus : FnScope N_plus ["one", "other"] (defScope s_plus) := ⟨rfl, rfl, rfl, by decide +kernel, rfl, by decide +kernel, by decide +kernel⟩
theorem ok_plus {f fne fsh : Addr} {fd dne dsh : FuncData} {k : Nat} (F : Fun K "plus" "plus" s_plus f fd) (G_ne : FnOk P w K mg base (L2.CX P w) (k + 3) fne dne ["thing"] (spNeed CB)) (k_ne : keepIn K (.ref fne) = true) (b_ne : Binds K dne ["thing"] []) (g_ne : mg "need_share" = some (.ref fne))
    (G_qk : FnOk P w K mg base CX0 (k + 3) fsh dsh ["one", "other"] (spQuick fadd)) (k_qk : keepIn K (.ref fsh) = true) (b_qk : Binds K dsh ["one", "other"] []) (g_qk : mg "quick_plus" = some (.ref fsh)) :
    FnOk P w K mg base (L2.CX P w) (k + 4) f fd ["one", "other"] (spBin CB fadd) := by
  refine okX F sc_plus (fun vs H Q E h => ?_) (fun cdv A outer s H vs Q E hr h tk => ?_)
  · obtain ⟨v, u, b, c, rfl, _⟩ := h
    rfl
  · obtain ⟨v, u, b, c, rfl, fb, fc, q1, q2⟩ := h
    refine ⟨_, (pss_cons (ps_expr (pe_call G_ne hr (by rfl) g_ne k_ne b_ne .nil (passD tk) (pa_cons (pv 0) pa_nil)))
      (pss_cons (ps_expr (pe_call G_ne hr (by rfl) g_ne k_ne b_ne .nil (passD tk) (pa_cons (pv 1) pa_nil)))
      (pss_one (ps_ret (pe_call G_qk hr (by rfl) g_qk k_qk b_qk .nil pass0 (pa_cons (pv 0) (pa_cons (pv 1) pa_nil))))))), ?_⟩
    refine ⟨_, rfl, v, b, rfl, fb, fun eb H1 s1 => ?_, fun eb => q1 (.inl eb)⟩
    refine ⟨_, rfl, u, c, rfl, fc.same s1, fun ec H2 s2 => ?_, fun ec => (q1 (.inr ec)).same s1⟩
    rcases fb with ⟨_, x, n, fx, ln⟩ | ⟨e, _⟩
    · rcases fc with ⟨_, y, m, fy, lm⟩ | ⟨e, _⟩
      · have S := s1.trans s2
        exact ⟨_, rfl, _, rfl, v, u, x, y, n, m, rfl, fx.same S, fy.same S, ln, lm, fun H3 p s3 np ep => q2 eb ec x y n m fx fy ln lm H3 p (S.trans s3) (S.free np) ep⟩
      · rw [e] at ec
        cases ec
    · rw [e] at eb
      cases eb
abbrev s_times : Stmt := topS 16
abbrev N_times : List Str := ["one", "other"]
theorem sc_times : FnScope N_times ["one", "other"] (defScope s_times) := ⟨rfl, rfl, rfl, by decide +kernel, rfl, by decide +kernel, by decide +kernel⟩
theorem ok_times {f fne fsh : Addr} {fd dne dsh : FuncData} {k : Nat} (F : Fun K "times" "times" s_times f fd) (G_ne : FnOk P w K mg base (L2.CX P w) (k + 3) fne dne ["thing"] (spNeed CB)) (k_ne : keepIn K (.ref fne) = true) (b_ne : Binds K dne ["thing"] []) (g_ne : mg "need_share" = some (.ref fne))
    (G_qk : FnOk P w K mg base CX0 (k + 3) fsh dsh ["one", "other"] (spQuick fmul)) (k_qk : keepIn K (.ref fsh) = true) (b_qk : Binds K dsh ["one", "other"] []) (g_qk : mg "quick_times" = some (.ref fsh)) :
    FnOk P w K mg base (L2.CX P w) (k + 4) f fd ["one", "other"] (spBin CB fmul) := by
  refine okX F sc_times (fun vs H Q E h => ?_) (fun cdv A outer s H vs Q E hr h tk => ?_)
  · obtain ⟨v, u, b, c, rfl, _⟩ := h
    rfl
  · obtain ⟨v, u, b, c, rfl, fb, fc, q1, q2⟩ := h
    refine ⟨_, (pss_cons (ps_expr (pe_call G_ne hr (by rfl) g_ne k_ne b_ne .nil (passD tk) (pa_cons (pv 0) pa_nil)))
      (pss_cons (ps_expr (pe_call G_ne hr (by rfl) g_ne k_ne b_ne .nil (passD tk) (pa_cons (pv 1) pa_nil)))
      (pss_one (ps_ret (pe_call G_qk hr (by rfl) g_qk k_qk b_qk .nil pass0 (pa_cons (pv 0) (pa_cons (pv 1) pa_nil))))))), ?_⟩
    refine ⟨_, rfl, v, b, rfl, fb, fun eb H1 s1 => ?_, fun eb => q1 (.inl eb)⟩
    refine ⟨_, rfl, u, c, rfl, fc.same s1, fun ec H2 s2 => ?_, fun ec => (q1 (.inr ec)).same s1⟩
    rcases fb with ⟨_, x, n, fx, ln⟩ | ⟨e, _⟩
    · rcases fc with ⟨_, y, m, fy, lm⟩ | ⟨e, _⟩
      · have S := s1.trans s2
        exact ⟨_, rfl, _, rfl, v, u, x, y, n, m, rfl, fx.same S, fy.same S, ln, lm, fun H3 p s3 np ep => q2 eb ec x y n m fx fy ln lm H3 p (S.trans s3) (S.free np) ep⟩
      · rw [e] at ec
        cases ec
    · rw [e] at eb
      cases eb
theorem bin_two {f : Addr} {fd : FuncData} {k : Nat} {ps : List Str} {op : Int × Int → Int × Int → Int × Int} (G : FnOk P w K mg base (L2.CX P w) k f fd ps (spBin CB op))
    (res : ∀ {H H2 : Hp} {v u : V} {x y : Int × Int} {n1 n2 : Nat} {p : Addr}, Fq H v x n1 → Fq H u y n2 → H2 p = some (.tup [.int (op x y).1, .int (op x y).2]) → Fq H2 (.ref p) (op x y) (n1 + n2 + 1)) : FnOk P w K mg base CX0 k f fd ps (spTwo op) :=
  FnOk.to (FnOk.quiet G) fun vs H Q E h => by
    obtain ⟨v, u, x, y, n1, n2, rfl, f1, f2, hn, q⟩ := h
    refine ⟨v, u, true, true, rfl, .inl ⟨rfl, x, n1, f1, by omega⟩, .inl ⟨rfl, y, n2, f2, by omega⟩, (fun (z : true = false ∨ true = false) => by rcases z with z | z <;> cases z), fun _ _ x' y' n m g1 g2 _ _ H2 p s np ep => ?_⟩
    have ex : x' = x := by
      obtain ⟨⟨p1, e1, h1⟩, _⟩ := g1
      obtain ⟨⟨p2, e2, h2⟩, _⟩ := f1
      cases e1.symm.trans e2
      rw [h1] at h2
      have z := HO.tup.inj (Option.some.inj h2)
      simp only [List.cons.injEq, V.int.injEq, and_true] at z
      exact Prod.ext z.1 z.2
    have ey : y' = y := by
      obtain ⟨⟨p1, e1, h1⟩, _⟩ := g2
      obtain ⟨⟨p2, e2, h2⟩, _⟩ := f2
      cases e1.symm.trans e2
      rw [h1] at h2
      have z := HO.tup.inj (Option.some.inj h2)
      simp only [List.cons.injEq, V.int.injEq, and_true] at z
      exact Prod.ext z.1 z.2
    subst ex ey
    exact q H2 (.ref p) s (res f1 f2 ep)
end
end L2.K2

set_option Elab.async false
set_option linter.all false
set_option maxRecDepth 100000
set_option maxHeartbeats 8000000
set_option exponentiation.threshold 10000
namespace L2.K2
open PySem PySem.W PySem.Spec PyProof.Rows L2.Sl L2.Fr SlX LamX
theorem Same.ext {H H2 : Hp} (s : Same H H2) : ExtN H H2 := .of s
theorem Same.tabs {T : List (Addr × Str)} {H H2 : Hp} (s : Same H H2) (t : Tabs T H) : Tabs T H2 := t.ext s
theorem ext_tups {H H2 : Hp} (e : ExtN H H2) : Tups H H2 := fun a xs h => e _ _ h fun _ z => nomatch z
theorem Kd.ext {H H2 : Hp} {v : V} (e : ExtN H H2) (h : Kd H v) : Kd H2 v := by
  cases h with
  | non => exact .non
  | bl b => exact .bl b
  | int i => exact .int i
  | str x => exact .str x
  | tup h => exact .tup (e _ _ h fun _ z => nomatch z)
  | lst h => exact .lst (e _ _ h fun _ z => nomatch z)
  | dct h => exact .dct (e _ _ h fun _ z => nomatch z)
theorem Sth.ext {m gl : Addr} {H H2 : Hp} {v : V} (e : ExtN H H2) (h : Sth m gl H v) : Sth m gl H2 v := by
  cases h with
  | non => exact .non
  | bl b => exact .bl b
  | int i z => exact .int i z
  | str x z y => exact .str x z y
  | tup a b c d l => exact .tup (e _ _ a fun _ z => nomatch z) (b.mono (ext_tups e)) c d l
  | lst a n => exact .lst (e _ _ a fun _ z => nomatch z) n
  | dct a n => exact .dct (e _ _ a fun _ z => nomatch z) n
theorem Fq.ext {H H2 : Hp} {v : V} {x : Int × Int} {n : Nat} (e : ExtN H H2) (h : Fq H v x n) : Fq H2 v x n := by
  obtain ⟨⟨p, e1, hp⟩, l, b1, b2⟩ := h
  exact ⟨⟨p, e1, e _ _ hp fun _ z => nomatch z⟩, l, b1, b2⟩
theorem NoT.ext {H H2 : Hp} {v : V} (e : ExtN H H2) (k : Kd H v) (n : NoT H v) : NoT H2 v := fun p xs ev z => by
  subst ev
  cases k with
  | tup h => exact n _ _ rfl h
  | lst h =>
    have y := e _ _ h fun _ z => nomatch z
    rw [y] at z
    cases z
  | dct h =>
    have y := e _ _ h fun _ z => nomatch z
    rw [y] at z
    cases z
theorem FrB.ext {H H2 : Hp} {v : V} {b : Bool} (e : ExtN H H2) (h : FrB H v b) : FrB H2 v b := by
  rcases h with ⟨eb, x, n, f, l⟩ | ⟨eb, k, no | ⟨p, xs, ds, e1, e2, e3, e4, e5⟩⟩
  · exact .inl ⟨eb, x, n, f.ext e, l⟩
  · exact .inr ⟨eb, k.ext e, .inl (no.ext e k)⟩
  · exact .inr ⟨eb, k.ext e, .inr ⟨p, xs, ds, e1, e _ _ e2 (fun _ z => nomatch z), e3.mono (ext_tups e), e4, e5⟩⟩
theorem Drw.ext {H H2 : Hp} {m gl : Addr} (e : ExtN H H2) (D : Drw H m gl) : Drw H2 m gl := by
  obtain ⟨⟨z, k, em⟩, ⟨ns, el, ln⟩, ne⟩ := D
  exact ⟨⟨z, k, e _ _ em fun _ z => nomatch z⟩, ⟨ns, e _ _ el (fun _ z => nomatch z), ln⟩, ne⟩
theorem FrB.det {H : Hp} {v : V} {b c : Bool} (h1 : FrB H v b) (h2 : FrB H v c) : b = c := by
  have key : ∀ {x : Int × Int} {n : Nat}, Fq H v x n → Kd H v → (NoT H v ∨ ∃ p xs ds, v = .ref p ∧ H p = some (.tup xs) ∧ ThAll H xs ds ∧ xs.length ≤ 100 ∧ isFr ds = false) → False := fun {x n} f _ h => by
    obtain ⟨p, rfl, ep, ta, tf⟩ := f.th
    rcases h with no | ⟨p', xs, ds, e, ep', ta', _, nf⟩
    · exact no _ _ rfl ep
    · cases e
      cases ep.symm.trans ep'
      cases ta' with
      | cons t1 r1 =>
        cases r1 with
        | cons t2 r2 =>
          cases r2
          cases t1
          cases t2
          rw [tf] at nf
          cases nf
  rcases h1 with ⟨rfl, x, n, f, _⟩ | ⟨rfl, k, h1⟩ <;> rcases h2 with ⟨rfl, y, m, g, _⟩ | ⟨rfl, k2, h2⟩
  · rfl
  · exact (key f k2 h2).elim
  · exact (key g k h1).elim
  · rfl
/-- what the law's own looks want of a thing -/
theorem Sth.looks {K : Frag} {m gl : Addr} {H : Hp} {v : V} (h : Sth m gl H v) : ∃ n b, Kind K H v n ∧ (n == "int") = isIV v ∧ FrB H v b ∧ ((n ≠ "tuple" ∧ b = false) ∨ ∃ p xs ds, n = "tuple" ∧ v = .ref p ∧ H p = some (.tup xs) ∧ ThAll H xs ds ∧ (∀ d ∈ ds, flat d) ∧ (∀ i ∈ ds, ∀ b, i = .int b → b.natAbs < 2 ^ 4000) ∧ isFr ds = b) := by
  cases h with
  | non => exact ⟨_, false, ⟨.base .non, .inr (.inr (.inr (.inl rfl)))⟩, (by decide +kernel : ("NoneType" == "int") = false), .inr ⟨rfl, .non, .inl fun _ _ z => nomatch z⟩, .inl ⟨by decide +kernel, rfl⟩⟩
  | bl b => exact ⟨_, false, ⟨.base (.bl b), .inr (.inl rfl)⟩, (by decide +kernel : ("bool" == "int") = false), .inr ⟨rfl, .bl b, .inl fun _ _ z => nomatch z⟩, .inl ⟨by decide +kernel, rfl⟩⟩
  | int i _ => exact ⟨_, false, ⟨.base (.int i), .inl rfl⟩, (by decide +kernel : ("int" == "int") = true), .inr ⟨rfl, .int i, .inl fun _ _ z => nomatch z⟩, .inl ⟨by decide +kernel, rfl⟩⟩
  | str x _ _ => exact ⟨_, false, ⟨.base (.str x), .inr (.inr (.inl rfl))⟩, (by decide +kernel : ("str" == "int") = false), .inr ⟨rfl, .str x, .inl fun _ _ z => nomatch z⟩, .inl ⟨by decide +kernel, rfl⟩⟩
  | tup e ta fl bd ln =>
    rename_i p xs ds
    refine ⟨_, isFr ds, ⟨.base (.tup e), .inr (.inr (.inr (.inr (.inl rfl))))⟩, (by decide +kernel : ("tuple" == "int") = false), ?_, .inr ⟨p, xs, ds, rfl, rfl, e, ta, fl, fun i hi b eb => Nat.lt_of_lt_of_le (bd i hi b eb) (Nat.pow_le_pow_right (by decide) (by decide)), rfl⟩⟩
    cases hf : isFr ds with
    | false => exact .inr ⟨rfl, .tup e, .inr ⟨p, xs, ds, rfl, e, ta, Nat.le_trans ln (by decide), hf⟩⟩
    | true =>
      unfold isFr at hf
      split at hf
      · rename_i a b
        have h2 : 0 < b ∧ L2.Fr.low a b = (a, b) := by
          obtain ⟨h1, h2⟩ := Bool.and_eq_true_iff.mp hf
          exact ⟨of_decide_eq_true h1, of_decide_eq_true h2⟩
        cases ta with
        | cons t1 r1 =>
          cases r1 with
          | cons t2 r2 =>
            cases r2
            cases t1
            cases t2
            have lw : LowP (a, b) := by
              have z := low_low (t := a) (u := b) (by omega)
              rw [h2.2] at z
              exact z
            refine .inl ⟨rfl, (a, b), 250, ⟨⟨p, rfl, e⟩, lw, bd _ (by simp) a rfl, bd _ (by simp) b rfl⟩, by decide⟩
      · cases hf
  | lst e _ => exact ⟨_, false, ⟨.base (.lst e), .inr (.inr (.inr (.inr (.inr (.inl rfl)))))⟩, (by decide +kernel : ("list" == "int") = false), .inr ⟨rfl, .lst e, .inl fun _ _ z y => by cases z; rw [e] at y; cases y⟩, .inl ⟨by decide +kernel, rfl⟩⟩
  | dct e _ => exact ⟨_, false, ⟨.base (.dK e), .inr (.inr (.inr (.inr (.inr (.inr rfl)))))⟩, (by decide +kernel : ("dict" == "int") = false), .inr ⟨rfl, .dct e, .inl fun _ _ z y => by cases z; rw [e] at y; cases y⟩, .inl ⟨by decide +kernel, rfl⟩⟩
end L2.K2

set_option Elab.async false
set_option linter.all false
set_option maxRecDepth 100000
set_option maxHeartbeats 8000000
set_option exponentiation.threshold 10000
namespace L2.K2
open PySem PySem.W PySem.Spec PyProof.Rows L2.Sl L2.Fr SlX LamX
/-- what is known of the classes -/
structure CTxt (K : Frag) (mg : Str → Option Value) (CB IB : Addr) (c1 c2 c3 : Value) : Prop where
  B : BNum K mg CB IB
  h1 : mg "Refused" = some c1
  h2 : mg "Barred" = some c2
  h3 : mg "Beyond" = some c3
  ex : exmAny K (.ref CB) [c1, c2, c3] = some true
  kt : kitOne K (.ref CB) (.ref CB) = some true
  xr : ExR K CB
def said (b : Bool) : Str := if b then "" else "number"
/-- asked through a lambda: the word behind it -/
theorem ask {K : Frag} {mg : Str → Option Value} {CB IB : Addr} {c1 c2 c3 : Value} (C : CTxt K mg CB IB c1 c2 c3) {T : List (Addr × Str)} {σ : St} {H0 : Hp} {Q : VK} {t : XK → TE} {b : Bool} (hT : Tabs T H0)
    (ht : ∀ (E : XK) (H1 : Hp) (R : VK), ExtN H0 H1 → (b = true → ∀ v H2, Same H1 H2 → R v H2) → (b = false → EB CB H1 E) → t E σ H1 R)
    (q : ∀ H2, ExtN H0 H2 → Tabs T H2 → Q (.str (said b)) H2) : tLam T (TTsaid K c1 c2 c3 CB) t σ H0 Q := by
  refine ⟨hT, fun H1 e1 T1 S hS => ht _ H1 _ e1 (fun hb v H2 e2 => ⟨hS, ?_⟩) fun hb H2 d tx s2 nd => ?_⟩
  · have y := q H2 (e1.trans (.of e2)) (T1.ext e2)
    rw [hb] at y
    exact y
  · refine ⟨CB, d, _, true, rfl, rfl, C.ex, C.xr, C.kt, upd_same, fun a na => ?_⟩
    have s3 : Same H2 (upd H2 d (.xd [("why", .str tx)])) := same_new nd
    have s4 := same_new (o := exH (.ref CB) (some d) a) na
    have s5 := s2.trans (s3.trans s4)
    have y := q _ (e1.trans (.of s5)) (T1.ext s5)
    rw [hb] at y
    exact y


theorem said_bin {K : Frag} {mg : Str → Option Value} {CB IB : Addr} {c1 c2 c3 : Value} (C : CTxt K mg CB IB c1 c2 c3) {T : List (Addr × Str)} {σ : St} {H0 : Hp} {Q : VK} {op : Int × Int → Int × Int → Int × Int} {v u : V} {b c : Bool} {ts : TA} (hT : Tabs T H0) (fb : FrB H0 v b) (fc : FrB H0 u c)
    (hts : ∀ H1 R, ExtN H0 H1 → R [v, u] H1 → ts σ H1 R) (q : ∀ H2, ExtN H0 H2 → Tabs T H2 → Q (.str (said (b && c))) H2) : tLam T (TTsaid K c1 c2 c3 CB) (fun E => tCall (spBin CB op) [] E ts) σ H0 Q :=
  ask C hT (fun E H1 R e1 hy hn => hts H1 _ e1 ⟨v, u, b, c, rfl, fb.ext e1, fc.ext e1, fun z => hn (by rcases z with z | z <;> rw [z] <;> simp), fun hb hc _ _ _ _ _ _ _ _ H2 p s2 _ _ => hy (by rw [hb, hc] <;> rfl) _ H2 s2⟩) q
theorem said_bink {K : Frag} {mg : Str → Option Value} {CB IB : Addr} {c1 c2 c3 : Value} (C : CTxt K mg CB IB c1 c2 c3) {T : List (Addr × Str)} {σ : St} {H0 : Hp} {Q : VK} {op : Int × Int → Int × Int → Int × Int} {v u : V} {b c : Bool} {ts : TA} (hT : Tabs T H0) (fb : FrB H0 v b) (fc : FrB H0 u c)
    (hts : ∀ H1 R, ExtN H0 H1 → R [u, v] H1 → ts σ H1 R) (q : ∀ H2, ExtN H0 H2 → Tabs T H2 → Q (.str (said (b && c))) H2) : tLam T (TTsaid K c1 c2 c3 CB) (fun E => fun σ H Q => ts σ H fun zs H2 => zs.length = 2 ∧ spBin CB op (swV [] zs) H2 Q E) σ H0 Q :=
  ask C hT (fun E H1 R e1 hy hn => hts H1 _ e1 ⟨rfl, v, u, b, c, rfl, fb.ext e1, fc.ext e1, fun z => hn (by rcases z with z | z <;> rw [z] <;> simp), fun hb hc _ _ _ _ _ _ _ _ H2 p s2 _ _ => hy (by rw [hb, hc] <;> rfl) _ H2 s2⟩) q
/-- the word of share(x, y) -/
theorem said_share {K : Frag} {mg : Str → Option Value} {CB IB : Addr} {c1 c2 c3 : Value} (C : CTxt K mg CB IB c1 c2 c3) {T : List (Addr × Str)} {σ : St} {H0 : Hp} {Q : VK} {x y : V} {b : Bool} {ts : TA} (hT : Tabs T H0) (kx : Kd H0 x) (ky : Kd H0 y)
    (hb : (b = true ∧ ∃ i j : Int, x = .int i ∧ y = .int j ∧ j ≠ 0 ∧ j.natAbs < 2 ^ 8000) ∨ (b = false ∧ (isIV x = false ∨ isIV y = false ∨ y = .int 0)))
    (hts : ∀ H1 R, ExtN H0 H1 → R [x, y] H1 → ts σ H1 R) (q : ∀ H2, ExtN H0 H2 → Tabs T H2 → Q (.str (said b)) H2) : tLam T (TTsaid K c1 c2 c3 CB) (fun E => tCall (spShare CB) [] E ts) σ H0 Q :=
  ask C hT (fun E H1 R e1 hy hn => hts H1 _ e1 ⟨x, y, rfl, kx.ext e1, ky.ext e1, by
    rcases hb with ⟨eb, i, j, ex, ey, n0, nb⟩ | ⟨eb, bad⟩
    · exact .inl ⟨i, j, ex, ey, n0, nb, fun H2 p s2 _ _ => hy eb _ H2 s2⟩
    · exact .inr ⟨bad, hn eb⟩⟩) q
theorem said_sharek {K : Frag} {mg : Str → Option Value} {CB IB : Addr} {c1 c2 c3 : Value} (C : CTxt K mg CB IB c1 c2 c3) {T : List (Addr × Str)} {σ : St} {H0 : Hp} {Q : VK} {x y : V} {b : Bool} {ts : TA} (hT : Tabs T H0) (kx : Kd H0 x) (ky : Kd H0 y)
    (hb : (b = true ∧ ∃ i j : Int, x = .int i ∧ y = .int j ∧ j ≠ 0 ∧ j.natAbs < 2 ^ 8000) ∨ (b = false ∧ (isIV x = false ∨ isIV y = false ∨ y = .int 0)))
    (hts : ∀ H1 R, ExtN H0 H1 → R [y, x] H1 → ts σ H1 R) (q : ∀ H2, ExtN H0 H2 → Tabs T H2 → Q (.str (said b)) H2) : tLam T (TTsaid K c1 c2 c3 CB) (fun E => fun σ H Q => ts σ H fun zs H2 => zs.length = 2 ∧ spShare CB (swV [] zs) H2 Q E) σ H0 Q :=
  ask C hT (fun E H1 R e1 hy hn => hts H1 _ e1 ⟨rfl, x, y, rfl, kx.ext e1, ky.ext e1, by
    rcases hb with ⟨eb, i, j, ex, ey, n0, nb⟩ | ⟨eb, bad⟩
    · exact .inl ⟨i, j, ex, ey, n0, nb, fun H2 p s2 _ _ => hy eb _ H2 s2⟩
    · exact .inr ⟨bad, hn eb⟩⟩) q
/-- the keywords the other way about -/
theorem kbn2 {K : Frag} {x qual : Str} {st : Stmt} {f : Addr} {fd : FuncData} {p1 p2 : Str} (F : Fun K x qual st f fd)
    (h : ∀ (kV doc pm : Value) (an : Option Addr) (cdv ct a b : Value), bindArgs (fnOf x qual (defArgs st) (defBody st) (defScope st) .none kV doc pm an cdv ct) ⟨[], [p2, p1].zip [a, b]⟩ = pure ([p1, p2].zip [b, a])) : KBn K fd [p1, p2] 0 [p2, p1] swU swV := by
  refine ⟨fun s us ws _ hu hw => ?_, fun _ r2 => Vals.sw r2⟩
  obtain ⟨oc, od, kV, doc, pm, an, cdv, ct, osl, rfl, lk, hcd⟩ := F.ex
  match us, ws, hu, hw with
  | [], [a, b], _, _ => exact .of_eq (h kV doc pm an cdv ct a b)
def spRef (T : List (Addr × Str)) : Sp := fun vs H Q _ => ∃ (m gl : Addr) (it x : V) (X : Int × Int), vs = [it, x] ∧ Sth m gl H it ∧ Fq H x X 210 ∧ Tabs T H ∧ ∀ H2, ExtN H H2 → Tabs T H2 → Q (.bl true) H2
section
variable {P : Program} {w : World} {K : PySem.W.Frag} {mg : Str → Option Value} {base : Heap} {CB IB : Addr} {c1 c2 c3 : Value}
abbrev s_rf : Stmt := topS 35
abbrev N_rf : List Str := ["it", "x", "deeds", "is_good"]
theorem sc_rf : FnScope N_rf ["it", "x"] (defScope s_rf) := ⟨rfl, rfl, rfl, by decide +kernel, rfl, by decide +kernel, by decide +kernel⟩
abbrev qn_rf : Str := "_law_refused_right.<locals>.<lambda>"
structure RfTxt (P : Program) (w : World) (K : Frag) (mg : Str → Option Value) (base : Heap) (k : Nat) (CB fpl fti fsh fsd fin fif c Pt : Addr) (dpl dti dsh dsd din dif : FuncData) : Prop where
  G_pl : FnOk P w K mg base (L2.CX P w) k fpl dpl ["one", "other"] (spBin CB fadd)
  k_pl : keepIn K (.ref fpl) = true
  b_pl : Binds K dpl ["one", "other"] []
  g_pl : mg "plus" = some (.ref fpl)
  G_ti : FnOk P w K mg base (L2.CX P w) k fti dti ["one", "other"] (spBin CB fmul)
  k_ti : keepIn K (.ref fti) = true
  b_ti : Binds K dti ["one", "other"] []
  n_ti : KBn K dti ["one", "other"] 0 ["other", "one"] swU swV
  g_ti : mg "times" = some (.ref fti)
  G_sh : FnOk P w K mg base (L2.CX P w) k fsh dsh ["a", "b"] (spShare CB)
  k_sh : keepIn K (.ref fsh) = true
  b_sh : Binds K dsh ["a", "b"] []
  n_sh : KBn K dsh ["a", "b"] 0 ["b", "a"] swU swV
  g_sh : mg "share" = some (.ref fsh)
  F_sd : Fun K "_law_said" "_law_said" s_sd fsd dsd
  b_sd : Binds K dsd ["deed"] []
  g_sd : mg "_law_said" = some (.ref fsd)
  G_if : FnOk P w K mg base CX0 (k + 2) fif dif ["it"] (spIf K)
  k_if : keepIn K (.ref fif) = true
  b_if : Binds K dif ["it"] []
  g_if : mg "_law_is_fraction" = some (.ref fif)
  G_in : FnOk P w K mg base CX0 (k + 2) fin din ["it"] (spIn K)
  k_in : keepIn K (.ref fin) = true
  b_in : Binds K din ["it"] []
  g_in : mg "_law_is_number" = some (.ref fin)
  n_isinstance : mg "isinstance" = none
  TB : TabB base mg c Pt

end
end L2.K2

set_option Elab.async false
set_option linter.all false
set_option maxRecDepth 100000
set_option maxHeartbeats 8000000
set_option exponentiation.threshold 10000
namespace L2.K2
open PySem PySem.W PySem.Spec PyProof.Rows L2.Sl L2.Fr SlX LamX
theorem Fq.frB {H : Hp} {v : V} {x : Int × Int} {n : Nat} (h : Fq H v x n) (l : n ≤ 3000) : FrB H v true := .inl ⟨rfl, x, n, h, l⟩
/-- what follows, proved once for several ways -/
theorem viaG {A : Prop} {J : Hp → Prop} (G : Hp → Prop) (t : ∀ H, J H → G H) (m : (∀ H, J H → G H) → A) : A := m t
/-- no object but, perhaps, a table -/
def Nw (H : Hp) (p : Addr) : Prop := ∀ o, H p = some o → ∃ ps, o = .tbl ps
theorem ext_nw {H H1 : Hp} {p : Addr} (e : ExtN H H1) (n : H1 p = none) : Nw H p := fun o h => by
  by_cases ht : ∀ ps, o ≠ .tbl ps
  · rw [e _ _ h ht] at n
    cases n
  · exact Classical.byContradiction fun z => ht fun ps y => z ⟨ps, y⟩
theorem ext_put {H H2 : Hp} {p : Addr} {o : HO} (e : ExtN H H2) (n : Nw H p) : ExtN H (upd H2 p o) := fun b x h ht => by
  have ne : b ≠ p := fun z => by
    subst z
    obtain ⟨ps, y⟩ := n x h
    exact ht ps y
  rw [upd_ne ne]
  exact e b x h ht
theorem tabs_put {T : List (Addr × Str)} {H : Hp} {p : Addr} {l l2 : List V} (t : Tabs T H) (h : H p = some (.lst l)) : Tabs T (upd H p (.lst l2)) := fun r hr => by
  obtain ⟨ps, h1, h2, h3⟩ := t r hr
  refine ⟨ps, by rw [upd_ne (ne_of h1 h (by intro z; cases z))]; exact h1, h2, fun pos cv hc => ?_⟩
  obtain ⟨c, e1, e2⟩ := h3 pos cv hc
  exact ⟨c, e1, by rw [upd_ne (ne_of e2 h (by unfold CodeO; intro z; cases z))]; exact e2⟩
section
variable {P : Program} {w : World} {K : PySem.W.Frag} {mg : Str → Option Value} {base : Heap} {CB IB : Addr} {c1 c2 c3 : Value}
theorem ok_rf {f fpl fti fsh fsd fin fif c Pt : Addr} {fd dpl dti dsh dsd din dif : FuncData} {k : Nat} (C : CTxt K mg CB IB c1 c2 c3) (F : FunC K "_law_refused_right" "_law_refused_right" s_rf f fd c) (R : RfTxt P w K mg base k CB fpl fti fsh fsd fin fif c Pt dpl dti dsh dsd din dif) :
    FnOk P w K mg base CX0 (k + 3) f fd ["it", "x"] (spRef [(Pt, qn_rf)]) := by
  obtain ⟨oc, od, kV, doc, pm, an, cdS, ct, osl, rfl, lk, hcd⟩ := R.F_sd.ex
  refine F.ok sc_rf (fun vs H Q E h => ?_) (fun A outer s H vs Q E hr h => ?_)
  · obtain ⟨m, gl, it, x, X, rfl, _⟩ := h
    rfl
  · obtain ⟨m, gl, it, x, X, rfl, hit, hx, hT, q⟩ := h
    have px : ∀ {Y : Cx} {E : XK} (tk : L2.Takes Y fun cls d _ H => E cls d H), Passes (L2.CX Y.prog Y.w) Y E := fun tk => passes_call tk (fun _ _ _ _ h => h)
    refine ⟨_, (pss_cons (ps_set (i := 2) sc_rf.nd rfl (.inl rfl) (pe_lst (pa_cons (pe_lamcall (T := [(Pt, qn_rf)]) (TT := TTsaid K c1 c2 c3 CB) (by rfl) R.g_sd R.F_sd.kp lk hcd R.b_sd sc_sd rfl (.inl rfl) (said_gives C.h1 C.h2 C.h3 C.B.g R.n_isinstance) R.TB rfl (List.mem_singleton.mpr rfl) (fun p hp _ => by rw [List.mem_singleton.mp hp] <;> rfl) hr (lamS_by (sc := defScope s_rf) (by decide +kernel)) rfl (fun _ _ _ _ _ => rfl) (fun A outer s H E f c' hr2 => (pe_call R.G_pl hr2 (by rfl) R.g_pl R.k_pl R.b_pl .nil (px (L2.takes_of rfl rfl rfl rfl)) (pa_cons (pv 0) (pa_cons (pv 1) pa_nil))))) pa_nil)))
      (pss_cons (ps_expr (pe_bm PySem.F.plainAttrs_list PySem.F.slot_list_append PySem.F.type_list_append mt_append (pv 2) (pa_cons (pe_lamcall (T := [(Pt, qn_rf)]) (TT := TTsaid K c1 c2 c3 CB) (by rfl) R.g_sd R.F_sd.kp lk hcd R.b_sd sc_sd rfl (.inl rfl) (said_gives C.h1 C.h2 C.h3 C.B.g R.n_isinstance) R.TB rfl (List.mem_singleton.mpr rfl) (fun p hp _ => by rw [List.mem_singleton.mp hp] <;> rfl) hr (lamS_by (sc := defScope s_rf) (by decide +kernel)) rfl (fun _ _ _ _ _ => rfl) (fun A outer s H E f c' hr2 => (pe_call R.G_pl hr2 (by rfl) R.g_pl R.k_pl R.b_pl .nil (px (L2.takes_of rfl rfl rfl rfl)) (pa_cons (pv 1) (pa_cons (pv 0) pa_nil))))) pa_nil)))
      (pss_cons (ps_expr (pe_bm PySem.F.plainAttrs_list PySem.F.slot_list_append PySem.F.type_list_append mt_append (pv 2) (pa_cons (pe_lamcall (T := [(Pt, qn_rf)]) (TT := TTsaid K c1 c2 c3 CB) (by rfl) R.g_sd R.F_sd.kp lk hcd R.b_sd sc_sd rfl (.inl rfl) (said_gives C.h1 C.h2 C.h3 C.B.g R.n_isinstance) R.TB rfl (List.mem_singleton.mpr rfl) (fun p hp _ => by rw [List.mem_singleton.mp hp] <;> rfl) hr (lamS_by (sc := defScope s_rf) (by decide +kernel)) rfl (fun _ _ _ _ _ => rfl) (fun A outer s H E f c' hr2 => (pe_call R.G_ti hr2 (by rfl) R.g_ti R.k_ti R.b_ti .nil (px (L2.takes_of rfl rfl rfl rfl)) (pa_cons (pv 0) (pa_cons (pv 1) pa_nil))))) pa_nil)))
      (pss_cons (ps_expr (pe_bm PySem.F.plainAttrs_list PySem.F.slot_list_append PySem.F.type_list_append mt_append (pv 2) (pa_cons (pe_lamcall (T := [(Pt, qn_rf)]) (TT := TTsaid K c1 c2 c3 CB) (by rfl) R.g_sd R.F_sd.kp lk hcd R.b_sd sc_sd rfl (.inl rfl) (said_gives C.h1 C.h2 C.h3 C.B.g R.n_isinstance) R.TB rfl (List.mem_singleton.mpr rfl) (fun p hp _ => by rw [List.mem_singleton.mp hp] <;> rfl) hr (lamS_by (sc := defScope s_rf) (by decide +kernel)) rfl (fun _ _ _ _ _ => rfl) (fun A outer s H E f c' hr2 => (pe_callKw R.G_ti hr2 (by rfl) R.g_ti R.k_ti R.n_ti (px (L2.takes_of rfl rfl rfl rfl)) (pk_cons (pv 0) (pk_cons (pv 1) pk_nil))))) pa_nil)))
      (pss_cons (ps_if (pt_cmpR (op_neD (hu64 hr)) (pv 2) (pe_op op_rep (pe_lst (pa_cons (pe_ifExp (pt_val (pe_call R.G_if hr (by rfl) R.g_if R.k_if R.b_if .nil pass0 (pa_cons (pv 0) pa_nil))) pe_str pe_str) pa_nil)) pe_int) (nomark _))
        (pss_one (ps_ret pe_bl))
        pss_nil)
      (pss_cons (ps_set (i := 2) sc_rf.nd rfl (.inl rfl) (pe_lst (pa_cons (pe_lamcall (T := [(Pt, qn_rf)]) (TT := TTsaid K c1 c2 c3 CB) (by rfl) R.g_sd R.F_sd.kp lk hcd R.b_sd sc_sd rfl (.inl rfl) (said_gives C.h1 C.h2 C.h3 C.B.g R.n_isinstance) R.TB rfl (List.mem_singleton.mpr rfl) (fun p hp _ => by rw [List.mem_singleton.mp hp] <;> rfl) hr (lamS_by (sc := defScope s_rf) (by decide +kernel)) rfl (fun _ _ _ _ _ => rfl) (fun A outer s H E f c' hr2 => (pe_call R.G_sh hr2 (by rfl) R.g_sh R.k_sh R.b_sh .nil (px (L2.takes_of rfl rfl rfl rfl)) (pa_cons (pv 0) (pa_cons pe_int pa_nil))))) pa_nil)))
      (pss_cons (ps_expr (pe_bm PySem.F.plainAttrs_list PySem.F.slot_list_append PySem.F.type_list_append mt_append (pv 2) (pa_cons (pe_lamcall (T := [(Pt, qn_rf)]) (TT := TTsaid K c1 c2 c3 CB) (by rfl) R.g_sd R.F_sd.kp lk hcd R.b_sd sc_sd rfl (.inl rfl) (said_gives C.h1 C.h2 C.h3 C.B.g R.n_isinstance) R.TB rfl (List.mem_singleton.mpr rfl) (fun p hp _ => by rw [List.mem_singleton.mp hp] <;> rfl) hr (lamS_by (sc := defScope s_rf) (by decide +kernel)) rfl (fun _ _ _ _ _ => rfl) (fun A outer s H E f c' hr2 => (pe_call R.G_sh hr2 (by rfl) R.g_sh R.k_sh R.b_sh .nil (px (L2.takes_of rfl rfl rfl rfl)) (pa_cons pe_int (pa_cons (pv 0) pa_nil))))) pa_nil)))
      (pss_cons (ps_expr (pe_bm PySem.F.plainAttrs_list PySem.F.slot_list_append PySem.F.type_list_append mt_append (pv 2) (pa_cons (pe_lamcall (T := [(Pt, qn_rf)]) (TT := TTsaid K c1 c2 c3 CB) (by rfl) R.g_sd R.F_sd.kp lk hcd R.b_sd sc_sd rfl (.inl rfl) (said_gives C.h1 C.h2 C.h3 C.B.g R.n_isinstance) R.TB rfl (List.mem_singleton.mpr rfl) (fun p hp _ => by rw [List.mem_singleton.mp hp] <;> rfl) hr (lamS_by (sc := defScope s_rf) (by decide +kernel)) rfl (fun _ _ _ _ _ => rfl) (fun A outer s H E f c' hr2 => (pe_callKw R.G_sh hr2 (by rfl) R.g_sh R.k_sh R.n_sh (px (L2.takes_of rfl rfl rfl rfl)) (pk_cons pe_int (pk_cons pe_int pk_nil))))) pa_nil)))
      (pss_cons (ps_set (i := 3) sc_rf.nd rfl (.inl rfl) (pe_call R.G_in hr (by rfl) R.g_in R.k_in R.b_in .nil pass0 (pa_cons (pv 0) pa_nil)))
      (pss_one (ps_ret (pe_cmpR (op_eqD (hu64 hr)) (pv 2) (pe_lst (pa_cons (pe_ifExp (pt_val (pv 3)) pe_str pe_str) (pa_cons (pe_ifExp (PW.pt (pw_and (pt_val (pv 3)) (pw_and1 (pt_cmpR op_ne (pv 0) pe_int (nomark _))))) pe_str pe_str) (pa_cons pe_str pa_nil)))) (nomark _))))))))))))), ?_⟩
    obtain ⟨n, b, kd, en, fb, look⟩ := hit.looks (K := K)
    have fx := hx.frB (by decide)
    have vs2 : ∀ (i j : Nat) (v u : V) (σ : St), σ[i]? = some (some v) → σ[j]? = some (some u) → ∀ (H1 : Hp) (R : List V → Hp → Prop), R [v, u] H1 → tCons (tVar i) (tCons (tVar j) tNil) σ H1 R := fun i j v u σ h1 h2 H1 R r => ⟨_, h1, _, h2, r⟩
    -- deeds = [..]
    refine said_bin (v := it) (u := x) C hT fb fx (fun H1 R _ r => vs2 0 1 _ _ _ rfl rfl H1 R r) (fun H1 e1 T1 => ⟨(show 1 ≤ sizeLine by decide), fun p np => ?_⟩)
    have nw : Nw H p := ext_nw e1 np
    have t2 : Same H1 (upd H1 p (.lst [.str (said (b && true))])) := same_new np
    have T2 : Tabs [(Pt, qn_rf)] (upd H1 p (.lst [.str (said (b && true))])) := T1.ext t2
    have e2 : ExtN H (upd H1 p (.lst [.str (said (b && true))])) := ext_put e1 nw
    have l2 : (upd H1 p (.lst [.str (said (b && true))])) p = some (.lst [.str (said (b && true))]) := upd_same
    generalize upd H1 p (.lst [.str (said (b && true))]) = H2 at T2 e2 l2
    -- deeds.append(..), three times
    refine ⟨.ref p, rfl, .inl ⟨rfl, _, SqL.of l2⟩, ?_⟩
    refine said_bin (v := x) (u := it) C T2 (fx.ext e2) (fb.ext e2) (fun H1 R _ r => vs2 1 0 _ _ _ rfl rfl H1 R r) (fun H3 e3 T3 => ?_)
    have l3 := e3 _ _ l2 (fun _ z => nomatch z)
    refine ⟨p, _, _, rfl, rfl, l3, (show 1 < sizeLine by decide), ?_⟩
    have T4 : Tabs [(Pt, qn_rf)] (upd H3 p (.lst ([.str (said (b && true))] ++ [.str (said (true && b))]))) := tabs_put T3 l3
    have e4 : ExtN H (upd H3 p (.lst ([.str (said (b && true))] ++ [.str (said (true && b))]))) := ext_put (e2.trans e3) nw
    have l4 : (upd H3 p (.lst ([.str (said (b && true))] ++ [.str (said (true && b))]))) p = some (.lst ([.str (said (b && true))] ++ [.str (said (true && b))])) := upd_same
    generalize upd H3 p (.lst ([.str (said (b && true))] ++ [.str (said (true && b))])) = H4 at T4 e4 l4
    refine ⟨.ref p, rfl, .inl ⟨rfl, _, SqL.of l4⟩, ?_⟩
    refine said_bin (v := it) (u := x) C T4 (fb.ext e4) (fx.ext e4) (fun H1 R _ r => vs2 0 1 _ _ _ rfl rfl H1 R r) (fun H5 e5 T5 => ?_)
    have l5 := e5 _ _ l4 (fun _ z => nomatch z)
    refine ⟨p, _, _, rfl, rfl, l5, (show 2 < sizeLine by decide), ?_⟩
    have T6 : Tabs [(Pt, qn_rf)] (upd H5 p (.lst (([.str (said (b && true))] ++ [.str (said (true && b))]) ++ [.str (said (b && true))]))) := tabs_put T5 l5
    have e6 : ExtN H (upd H5 p (.lst (([.str (said (b && true))] ++ [.str (said (true && b))]) ++ [.str (said (b && true))]))) := ext_put (e4.trans e5) nw
    have l6 : (upd H5 p (.lst (([.str (said (b && true))] ++ [.str (said (true && b))]) ++ [.str (said (b && true))]))) p = some (.lst (([.str (said (b && true))] ++ [.str (said (true && b))]) ++ [.str (said (b && true))])) := upd_same
    generalize upd H5 p (.lst (([.str (said (b && true))] ++ [.str (said (true && b))]) ++ [.str (said (b && true))])) = H6 at T6 e6 l6
    refine ⟨.ref p, rfl, .inl ⟨rfl, _, SqL.of l6⟩, ?_⟩
    refine said_bink (v := x) (u := it) C T6 (fx.ext e6) (fb.ext e6) (fun H1 R _ r => vs2 0 1 _ _ _ rfl rfl H1 R r) (fun H7 e7 T7 => ?_)
    have l7 := e7 _ _ l6 (fun _ z => nomatch z)
    refine ⟨p, _, _, rfl, rfl, l7, (show 3 < sizeLine by decide), ?_⟩
    have T8 : Tabs [(Pt, qn_rf)] (upd H7 p (.lst ((([.str (said (b && true))] ++ [.str (said (true && b))]) ++ [.str (said (b && true))]) ++ [.str (said (true && b))]))) := tabs_put T7 l7
    have e8 : ExtN H (upd H7 p (.lst ((([.str (said (b && true))] ++ [.str (said (true && b))]) ++ [.str (said (b && true))]) ++ [.str (said (true && b))]))) := ext_put (e6.trans e7) nw
    have l8 : (upd H7 p (.lst ((([.str (said (b && true))] ++ [.str (said (true && b))]) ++ [.str (said (b && true))]) ++ [.str (said (true && b))]))) p = some (.lst ((([.str (said (b && true))] ++ [.str (said (true && b))]) ++ [.str (said (b && true))]) ++ [.str (said (true && b))])) := upd_same
    generalize upd H7 p (.lst ((([.str (said (b && true))] ++ [.str (said (true && b))]) ++ [.str (said (b && true))]) ++ [.str (said (true && b))])) = H8 at T8 e8 l8
    have e4s : (((([.str (said (b && true))] ++ [.str (said (true && b))]) ++ [.str (said (b && true))]) ++ [.str (said (true && b))]) : List V) = [.str (said b), .str (said b), .str (said b), .str (said b)] := by cases b <;> rfl
    rw [e4s] at l8
    -- if deeds != [..] * 4
    have it8 := hit.ext e8
    obtain ⟨n8, b8, kd8, en8, fb8, look8⟩ := it8.looks (K := K)
    obtain rfl : b8 = b := FrB.det fb8 (fb.ext e8)
    apply viaG (J := fun H11 => ExtN H H11 ∧ Tabs [(Pt, qn_rf)] H11)
    rotate_left
    · intro tail
      refine ⟨_, rfl, _, rfl, it, n8, rfl, kd8, ?_⟩
      rcases look8 with ⟨ht, hb⟩ | ⟨p', xs, ds, h1, h2, h3, h4, h5, h6, h7⟩
      · have l8b := l8
        rw [hb] at l8b
        refine .inl ⟨ht, fun H9 s9 => ⟨_, rfl, iteF ⟨(show 1 ≤ sizeLine by decide), fun r nr => ?_⟩⟩⟩
        have s10 := same_new (o := .lst [.str "number"]) nr
        refine ⟨r, 4, _, rfl, rfl, upd_same, by decide, by decide, (show 1 * 4 ≤ sizeLine by decide), fun u nu => ?_⟩
        have S := s9.trans (s10.trans (same_new (o := .lst (List.replicate (4 : Int).toNat [.str "number"]).flatten) nu))
        refine ⟨.list [.str "number", .str "number", .str "number", .str "number"], .list [.str "number", .str "number", .str "number", .str "number"], .lst (SqL.of (S _ _ l8b)) (.cons (.str _) (.cons (.str _) (.cons (.str _) (.cons (.str _) .nil)))), .lst (SqL.of upd_same) (.cons (.str _) (.cons (.str _) (.cons (.str _) (.cons (.str _) .nil)))), by decide +kernel, by decide +kernel, _, rfl, ?_⟩
        exact iteF (tail _ ⟨e8.trans (.of S), T8.ext S⟩)
      · refine .inr ⟨p', xs, ds, h1, h2, h3, h4, h5, h6, fun H9 s9 => ⟨_, rfl, ?_⟩⟩
        rw [h7]
        refine ite2 (fun hb => ?_) (fun hb => ?_)
        · have l8b := l8
          rw [hb] at l8b
          refine ⟨(show 1 ≤ sizeLine by decide), fun r nr => ?_⟩
          have s10 := same_new (o := .lst [.str ""]) nr
          refine ⟨r, 4, _, rfl, rfl, upd_same, by decide, by decide, (show 1 * 4 ≤ sizeLine by decide), fun u nu => ?_⟩
          have S := s9.trans (s10.trans (same_new (o := .lst (List.replicate (4 : Int).toNat [.str ""]).flatten) nu))
          refine ⟨.list [.str "", .str "", .str "", .str ""], .list [.str "", .str "", .str "", .str ""], .lst (SqL.of (S _ _ l8b)) (.cons (.str _) (.cons (.str _) (.cons (.str _) (.cons (.str _) .nil)))), .lst (SqL.of upd_same) (.cons (.str _) (.cons (.str _) (.cons (.str _) (.cons (.str _) .nil)))), by decide +kernel, by decide +kernel, _, rfl, ?_⟩
          exact iteF (tail _ ⟨e8.trans (.of S), T8.ext S⟩)
        · have l8b := l8
          rw [Bool.eq_false_iff.mpr hb] at l8b
          refine ⟨(show 1 ≤ sizeLine by decide), fun r nr => ?_⟩
          have s10 := same_new (o := .lst [.str "number"]) nr
          refine ⟨r, 4, _, rfl, rfl, upd_same, by decide, by decide, (show 1 * 4 ≤ sizeLine by decide), fun u nu => ?_⟩
          have S := s9.trans (s10.trans (same_new (o := .lst (List.replicate (4 : Int).toNat [.str "number"]).flatten) nu))
          refine ⟨.list [.str "number", .str "number", .str "number", .str "number"], .list [.str "number", .str "number", .str "number", .str "number"], .lst (SqL.of (S _ _ l8b)) (.cons (.str _) (.cons (.str _) (.cons (.str _) (.cons (.str _) .nil)))), .lst (SqL.of upd_same) (.cons (.str _) (.cons (.str _) (.cons (.str _) (.cons (.str _) .nil)))), by decide +kernel, by decide +kernel, _, rfl, ?_⟩
          exact iteF (tail _ ⟨e8.trans (.of S), T8.ext S⟩)
    · clear l8 T8 it8 kd8 en8 fb8 look8 e8 l7 T7 e7 l6 T6 e6
      rintro H11 ⟨e11, T11⟩
      have k11 := hit.kd.ext e11
      -- deeds = [..]; .. append, twice
      obtain ⟨b1, w1⟩ : ∃ b1 : Bool, (b1 = true ∧ ∃ i j : Int, it = .int i ∧ (V.int 3) = .int j ∧ j ≠ 0 ∧ j.natAbs < 2 ^ 8000) ∨ (b1 = false ∧ (isIV it = false ∨ isIV (.int 3) = false ∨ (V.int 3) = .int 0)) := by
        cases hi : isIV it with
        | false => exact ⟨false, .inr ⟨rfl, .inl rfl⟩⟩
        | true =>
          cases it <;> first | (cases hi; done) | skip
          exact ⟨true, .inl ⟨rfl, _, _, rfl, rfl, by decide, by decide⟩⟩
      refine said_share (x := it) (y := .int 3) C T11 k11 (.int _) w1 (fun H1 R _ r => ⟨_, rfl, r⟩) (fun H12 e12 T12 => ⟨(show 1 ≤ sizeLine by decide), fun r nr => ?_⟩)
      have nw2 : Nw H11 r := ext_nw e12 nr
      have T13 : Tabs [(Pt, qn_rf)] (upd H12 r (.lst [.str (said b1)])) := T12.ext (same_new nr)
      have e13 : ExtN H11 (upd H12 r (.lst [.str (said b1)])) := ext_put e12 nw2
      have l13 : (upd H12 r (.lst [.str (said b1)])) r = some (.lst [.str (said b1)]) := upd_same
      generalize upd H12 r (.lst [.str (said b1)]) = H13 at T13 e13 l13
      obtain ⟨b2, w2⟩ : ∃ b2 : Bool, (b2 = true ∧ ∃ i j : Int, (V.int 3) = .int i ∧ it = .int j ∧ j ≠ 0 ∧ j.natAbs < 2 ^ 8000) ∨ (b2 = false ∧ (isIV (.int 3) = false ∨ isIV it = false ∨ it = .int 0)) := by
        cases hit with
        | int i hi =>
          by_cases h0 : i = 0
          · exact ⟨false, .inr ⟨rfl, .inr (.inr (by rw [h0]))⟩⟩
          · exact ⟨true, .inl ⟨rfl, _, _, rfl, rfl, h0, Nat.lt_of_lt_of_le hi (Nat.pow_le_pow_right (by decide) (by decide))⟩⟩
        | _ => exact ⟨false, .inr ⟨rfl, .inr (.inl rfl)⟩⟩
      refine ⟨.ref r, rfl, .inl ⟨rfl, _, SqL.of l13⟩, ?_⟩
      refine said_share (x := .int 3) (y := it) C T13 (.int _) (k11.ext e13) w2 (fun H1 R _ q => ⟨_, rfl, q⟩) (fun H14 e14 T14 => ?_)
      have l14 := e14 _ _ l13 (fun _ z => nomatch z)
      refine ⟨r, _, _, rfl, rfl, l14, (show 1 < sizeLine by decide), ?_⟩
      have T15 : Tabs [(Pt, qn_rf)] (upd H14 r (.lst ([.str (said b1)] ++ [.str (said b2)]))) := tabs_put T14 l14
      have e15 : ExtN H11 (upd H14 r (.lst ([.str (said b1)] ++ [.str (said b2)]))) := ext_put (e13.trans e14) nw2
      have l15 : (upd H14 r (.lst ([.str (said b1)] ++ [.str (said b2)]))) r = some (.lst ([.str (said b1)] ++ [.str (said b2)])) := upd_same
      generalize upd H14 r (.lst ([.str (said b1)] ++ [.str (said b2)])) = H15 at T15 e15 l15
      refine ⟨.ref r, rfl, .inl ⟨rfl, _, SqL.of l15⟩, ?_⟩
      refine said_sharek (x := .int 3) (y := .int 0) (b := false) C T15 (.int _) (.int _) (.inr ⟨rfl, .inr (.inr rfl)⟩) (fun H1 R _ q => q) (fun H16 e16 T16 => ?_)
      have l16 := e16 _ _ l15 (fun _ z => nomatch z)
      refine ⟨r, _, _, rfl, rfl, l16, (show 2 < sizeLine by decide), ?_⟩
      have T17 : Tabs [(Pt, qn_rf)] (upd H16 r (.lst (([.str (said b1)] ++ [.str (said b2)]) ++ [.str (said false)]))) := tabs_put T16 l16
      have e17 : ExtN H11 (upd H16 r (.lst (([.str (said b1)] ++ [.str (said b2)]) ++ [.str (said false)]))) := ext_put (e15.trans e16) nw2
      have l17 : (upd H16 r (.lst (([.str (said b1)] ++ [.str (said b2)]) ++ [.str (said false)]))) r = some (.lst (([.str (said b1)] ++ [.str (said b2)]) ++ [.str (said false)])) := upd_same
      generalize upd H16 r (.lst (([.str (said b1)] ++ [.str (said b2)]) ++ [.str (said false)])) = H17 at T17 e17 l17
      have e18 := e11.trans e17
      obtain ⟨n7, b7, kd7, en7, _, _⟩ := (hit.ext e18).looks (K := K)
      -- is_good; the return
      have bye : ∀ (s1 s2 : Str) (u : Addr) (H19 : Hp), Same H17 H19 → H19 u = none → s1 = said b1 → s2 = said b2 → rEqD K (.ref r) (.ref u) (upd H19 u (.lst [.str s1, .str s2, .str "number"])) Q := fun s1 s2 u H19 S nu h1 h2 => by
        have S2 := S.trans (same_new (o := .lst [.str s1, .str s2, .str "number"]) nu)
        refine ⟨.list [.str (said b1), .str (said b2), .str "number"], .list [.str s1, .str s2, .str "number"], .lst (SqL.of (S2 _ _ l17)) (.cons (.str _) (.cons (.str _) (.cons (.str _) .nil))), .lst (SqL.of upd_same) (.cons (.str _) (.cons (.str _) (.cons (.str _) .nil))), ?_, ?_, ?_⟩
        · cases b1 <;> cases b2 <;> decide +kernel
        · rw [h1, h2]
          cases b1 <;> cases b2 <;> decide +kernel
        · rw [h1, h2]
          have y := q _ (e18.trans (.of S2)) (T17.ext S2)
          have ee : PyData.eqv (.list [.str (said b1), .str (said b2), .str "number"]) (.list [.str (said b1), .str (said b2), .str "number"]) = true := by cases b1 <;> cases b2 <;> decide +kernel
          rw [ee]
          rw [h1, h2] at y
          exact y
      refine ⟨_, rfl, it, n7, rfl, kd7, ?_⟩
      rw [en7]
      clear kd7 en7 l15 l13 l14 l16
      cases hi : isIV it with
      | false =>
        have hb1 : said b1 = "number" := by
          rcases w1 with ⟨_, i, j, e, _⟩ | ⟨e, _⟩
          · rw [e] at hi
            cases hi
          · rw [e] <;> rfl
        have hb2 : said b2 = "number" := by
          rcases w2 with ⟨_, i, j, _, e, _⟩ | ⟨e, _⟩
          · rw [e] at hi
            cases hi
          · rw [e] <;> rfl
        exact ⟨_, rfl, _, rfl, _, rfl, iteF ⟨_, rfl, _, rfl, iteF (iteF ⟨(show 3 ≤ sizeLine by decide), fun u nu => bye _ _ u H17 (fun _ _ z => z) nu hb1.symm hb2.symm⟩)⟩⟩
      | true =>
        obtain ⟨i, rfl⟩ : ∃ i : Int, it = .int i := by
          cases it <;> first | (cases hi; done) | exact ⟨_, rfl⟩
        have hb1 : said b1 = "" := by
          rcases w1 with ⟨e, _⟩ | ⟨_, e | e | e⟩
          · rw [e] <;> rfl
          · rw [hi] at e
            cases e
          · cases e
          · cases e
        refine ⟨_, rfl, _, rfl, _, rfl, iteT ⟨_, rfl, _, rfl, iteT ⟨_, rfl, rfl, _, rfl, ite2 (fun h0 => ?_) (fun h0 => ?_)⟩⟩⟩
        · have hb2 : said b2 = "" := by
            rcases w2 with ⟨e, _⟩ | ⟨_, e | e | e⟩
            · rw [e] <;> rfl
            · cases e
            · rw [hi] at e
              cases e
            · rw [e, decide_eq_true rfl] at h0
              cases h0
          exact ⟨(show 3 ≤ sizeLine by decide), fun u nu => bye _ _ u H17 (fun _ _ z => z) nu hb1.symm hb2.symm⟩
        · have hb2 : said b2 = "number" := by
            rcases w2 with ⟨_, i', j, _, e, n0, _⟩ | ⟨e, _⟩
            · have z : (!decide (V.int i = V.int 0)) = true := by
                rw [decide_eq_false (fun z => n0 (by cases e; exact V.int.inj z))] <;> rfl
              exact absurd z h0
            · rw [e] <;> rfl
          exact ⟨(show 3 ≤ sizeLine by decide), fun u nu => bye _ _ u H17 (fun _ _ z => z) nu hb1.symm hb2.symm⟩
end
end L2.K2

set_option Elab.async false
set_option linter.all false
set_option maxRecDepth 100000
set_option maxHeartbeats 8000000
set_option exponentiation.threshold 10000
namespace L2.K2
open PySem PySem.W PySem.Spec PyProof.Rows L2.Sl L2.Fr SlX LamX
def spShr : Sp := fun vs H Q _ => ∃ a b : Int, vs = [.int a, .int b] ∧ b ≠ 0 ∧ b.natAbs < 2 ^ 8000 ∧ ∀ H2 p, Same H H2 → H p = none → H2 p = some (.tup [.int (L2.Fr.low a b).1, .int (L2.Fr.low a b).2]) → Q (.ref p) H2

theorem tabs_but {T : List (Addr × Str)} {m gl : Addr} {H H2 : Hp} (D : Drw H m gl) (b : But m gl H H2) (t : Tabs T H) : Tabs T H2 := fun r hr => by
  obtain ⟨ps, h1, h2, h3⟩ := t r hr
  obtain ⟨z, k, em⟩ := D.d
  obtain ⟨ns, el, _⟩ := D.l
  refine ⟨ps, b _ _ (ne_of h1 em (by intro z; cases z)) (ne_of h1 el (by intro z; cases z)) h1, h2, fun pos cv hc => ?_⟩
  obtain ⟨c, e1, e2⟩ := h3 pos cv hc
  exact ⟨c, e1, b _ _ (ne_of e2 em (by unfold CodeO; intro z; cases z)) (ne_of e2 el (by unfold CodeO; intro z; cases z)) e2⟩
theorem Fq.but {m gl : Addr} {H H2 : Hp} {v : V} {x : Int × Int} {n : Nat} (D : Drw H m gl) (b : But m gl H H2) (h : Fq H v x n) : Fq H2 v x n := by
  obtain ⟨⟨p, e1, hp⟩, l, b1, b2⟩ := h
  exact ⟨⟨p, e1, b.tups D _ _ hp⟩, l, b1, b2⟩
/-- what repr wants of data -/
structure RD (K : Frag) (H : Hp) (v : V) (d : PyData) : Prop where
  dp : Dp K H v d
  ea : ∃ a, v = .ref a
  h1 : d.showable = true
  h2 : d.hasDict = false
  h3 : d.depth ≤ 60
  h4 : d.shown.length ≤ sizeLine
theorem rd_of {K : Frag} {H : Hp} {v : V} {d : PyData} (dp : Dp K H v d) (ea : ∃ a, v = .ref a) (h1 : d.showable = true) (h2 : d.hasDict = false) (h3 : d.depth ≤ 60) (h4 : psz d ≤ 20000) : RD K H v d :=
  ⟨dp, ea, h1, h2, h3, Nat.le_trans (psz_le d h1 h2) (Nat.le_trans h4 (by decide))⟩
theorem if_ne {x y : V} {A B : Prop} (e : x = y) (h : B) : if (!decide (x = y)) = true then A else B := by
  rw [decide_eq_true e]
  exact iteF h
theorem shw_int {i : Int} {n : Nat} (h : i.natAbs < 2 ^ n) (l : n ≤ 1900) : (PyData.int i).showable = true := by
  simp only [PyData.showable, decide_eq_true_eq]
  exact PySem.Flt.log2_lt_of (by decide) (Nat.lt_of_lt_of_le h (Nat.pow_le_pow_right (by decide) (show n ≤ 1920 by omega)))
theorem shw_dat {H : Hp} {v : V} {x : Int × Int} {n : Nat} (h : Fq H v x n) (l : n ≤ 1900) : (dat x).showable = true := by
  simp only [dat, PyData.showable, PyData.showableAll, Bool.and_true, Bool.and_eq_true]
  exact ⟨shw_int h.b1 l, shw_int h.b2 l⟩
theorem nod_dat (x : Int × Int) : (dat x).hasDict = false := by simp [dat, PyData.hasDict, PyData.hasDictAll]
theorem dep_dat (x : Int × Int) : (dat x).depth ≤ 60 := by simp [dat, PyData.depth, PyData.depthAll]
theorem psz_dat (x : Int × Int) : psz (dat x) = 3848 := by simp [dat, psz, pszAll]
theorem shw2 {d : PyData} (h : d.showable = true) : (PyData.list [d, d]).showable = true := by simp [PyData.showable, PyData.showableAll, h]
theorem nod2 {d : PyData} (h : d.hasDict = false) : (PyData.list [d, d]).hasDict = false := by simp [PyData.hasDict, PyData.hasDictAll, h]
theorem dep2 (x : Int × Int) : (PyData.list [dat x, dat x]).depth ≤ 60 := by simp [dat, PyData.depth, PyData.depthAll]
theorem psz2 (x : Int × Int) : psz (.list [dat x, dat x]) ≤ 20000 := by simp [psz, pszAll, psz_dat]
/-- a list of two, of equal data -/
theorem repr2 {K : Frag} {H : Hp} {v u : V} {x : Int × Int} {n1 n2 : Nat} {p : Addr} (h1 : Fq H v x n1) (h2 : Fq H u x n2) (l1 : n1 ≤ 1900) (e : H p = some (.lst [v, u])) : RD K H (.ref p) (.list [dat x, dat x]) :=
  rd_of (.lst (SqL.of e) (.cons h1.dp (.cons h2.dp .nil))) ⟨_, rfl⟩ (shw2 (shw_dat h1 l1)) (nod2 (nod_dat x)) (dep2 x) (psz2 x)
theorem repr1 {K : Frag} {H : Hp} {v : V} {x : Int × Int} {n1 : Nat} (h1 : Fq H v x n1) (l1 : n1 ≤ 1900) : RD K H v (dat x) := by
  obtain ⟨p, e, _⟩ := h1.at_
  exact rd_of h1.dp ⟨p, e⟩ (shw_dat h1 l1) (nod_dat x) (dep_dat x) (by rw [psz_dat]; decide)
/-- truths -/
theorem repr_bls {K : Frag} {H : Hp} {bs : List Bool} {p : Addr} (hl : bs.length ≤ 3) (e : H p = some (.lst (bs.map V.bl))) : RD K H (.ref p) (.list (bs.map PyData.bool)) := by
  have dp : ∀ bs : List Bool, DpAll K H (bs.map V.bl) (bs.map PyData.bool) := fun bs => by
    induction bs with
    | nil => exact .nil
    | cons b r ih => exact .cons (.bl b) ih
  refine rd_of (.lst (SqL.of e) (dp bs)) ⟨_, rfl⟩ ?_ ?_ ?_ ?_
  all_goals (match bs, hl with | [], _ => decide +kernel | [a], _ => cases a <;> decide +kernel | [a, b], _ => cases a <;> cases b <;> decide +kernel | [a, b, c], _ => cases a <;> cases b <;> cases c <;> decide +kernel)
def spShB : Sp := fun vs H Q _ => ∃ (x : V) (b : Bool), vs = [x] ∧ FrB H x b ∧ ∀ H2, Same H H2 → Q (.bl b) H2
def spIfB : Sp := fun vs H Q _ => ∃ (m gl : Addr) (x : V) (b : Bool), vs = [x] ∧ Sth m gl H x ∧ FrB H x b ∧ ∀ H2, Same H H2 → Q (.bl b) H2
def spInB : Sp := fun vs H Q _ => ∃ (m gl : Addr) (x : V), vs = [x] ∧ Sth m gl H x ∧ Q (.bl (isIV x)) H
theorem FrB.shp {H : Hp} {v : V} {b : Bool} {Q : VK} {E : XK} (h : FrB H v b) (q : ∀ H2, Same H H2 → Q (.bl b) H2) : spSh [v] H Q E := by
  rcases h with ⟨rfl, x, n, f, _⟩ | ⟨rfl, k, no | ⟨p, xs, ds, e1, e2, e3, e4, e5⟩⟩
  · obtain ⟨p, rfl, ep, ta, tf⟩ := f.th
    refine ⟨_, rfl, .tup ep, .inr ⟨p, _, _, rfl, ep, ta, (show 2 ≤ 100 by decide), fun H2 s => ?_⟩⟩
    rw [tf]
    exact q H2 s
  · exact ⟨_, rfl, k, .inl ⟨no, q⟩⟩
  · refine ⟨_, rfl, k, .inr ⟨p, xs, ds, e1, e2, e3, e4, fun H2 s => ?_⟩⟩
    rw [e5]
    exact q H2 s
theorem ifB {K : Frag} {vs : List V} {H : Hp} {Q : VK} {E : XK} (h : spIfB vs H Q E) : spIf K vs H Q E := by
  obtain ⟨m, gl, x, b, rfl, st, fb, q⟩ := h
  obtain ⟨n, b2, kd, _, fb2, look⟩ := st.looks (K := K)
  obtain rfl : b2 = b := FrB.det fb2 fb
  refine ⟨x, n, rfl, kd, ?_⟩
  rcases look with ⟨ht, hb⟩ | ⟨p, xs, ds, h1, h2, h3, h4, h5, h6, h7⟩
  · rw [hb] at q
    exact .inl ⟨ht, q⟩
  · rw [← h7] at q
    exact .inr ⟨p, xs, ds, h1, h2, h3, h4, h5, h6, q⟩
theorem inB {K : Frag} {vs : List V} {H : Hp} {Q : VK} {E : XK} (h : spInB vs H Q E) : spIn K vs H Q E := by
  obtain ⟨m, gl, x, rfl, st, q⟩ := h
  obtain ⟨n, b2, kd, en, _, _⟩ := st.looks (K := K)
  refine ⟨x, n, rfl, kd, ?_⟩
  rw [en]
  exact q
theorem shB {vs : List V} {H : Hp} {Q : VK} {E : XK} (h : spShB vs H Q E) : spSh vs H Q E := by
  obtain ⟨x, b, rfl, fb, q⟩ := h
  exact fb.shp q
structure LwTxt (P : Program) (w : World) (K : Frag) (mg : Str → Option Value) (base : Heap) (k : Nat) (Pt f_is_name f_is_share f_is_whole f_law_begun f_law_bottom f_law_draw f_law_fraction f_law_is_fraction f_law_is_name f_law_is_number f_law_lowest f_law_number f_law_refused_right f_law_rules_right f_law_strange f_law_text f_plus f_share f_times : Addr) (d_is_name d_is_share d_is_whole d_law_begun d_law_bottom d_law_draw d_law_fraction d_law_is_fraction d_law_is_name d_law_is_number d_law_lowest d_law_number d_law_refused_right d_law_rules_right d_law_strange d_law_text d_plus d_share d_times : FuncData) : Prop where
  G_is_name : FnOk P w K mg base CX0 k f_is_name d_is_name ["thing"] spNm
  k_is_name : keepIn K (.ref f_is_name) = true
  b_is_name : Binds K d_is_name ["thing"] []
  g_is_name : mg "is_name" = some (.ref f_is_name)
  G_is_share : FnOk P w K mg base CX0 k f_is_share d_is_share ["thing"] spShB
  k_is_share : keepIn K (.ref f_is_share) = true
  b_is_share : Binds K d_is_share ["thing"] []
  g_is_share : mg "is_share" = some (.ref f_is_share)
  G_is_whole : FnOk P w K mg base CX0 k f_is_whole d_is_whole ["thing", "least", "most"] spWh
  k_is_whole : keepIn K (.ref f_is_whole) = true
  b_is_whole : Binds K d_is_whole ["thing", "least", "most"] []
  g_is_whole : mg "is_whole" = some (.ref f_is_whole)
  G_law_begun : FnOk P w K mg base CX0 k f_law_begun d_law_begun ["script"] (spBegun K)
  k_law_begun : keepIn K (.ref f_law_begun) = true
  b_law_begun : Binds K d_law_begun ["script"] []
  g_law_begun : mg "_law_begun" = some (.ref f_law_begun)
  G_law_bottom : FnOk P w K mg base CX0 k f_law_bottom d_law_bottom ["m"] (spNum fun r => r ≠ 0)
  k_law_bottom : keepIn K (.ref f_law_bottom) = true
  b_law_bottom : Binds K d_law_bottom ["m"] []
  g_law_bottom : mg "_law_bottom" = some (.ref f_law_bottom)
  G_law_draw : FnOk P w K mg base CX0 k f_law_draw d_law_draw ["m", "many"] spDraw
  k_law_draw : keepIn K (.ref f_law_draw) = true
  b_law_draw : Binds K d_law_draw ["m", "many"] []
  g_law_draw : mg "_law_draw" = some (.ref f_law_draw)
  G_law_fraction : FnOk P w K mg base CX0 k f_law_fraction d_law_fraction ["m"] spFrac
  k_law_fraction : keepIn K (.ref f_law_fraction) = true
  b_law_fraction : Binds K d_law_fraction ["m"] []
  g_law_fraction : mg "_law_fraction" = some (.ref f_law_fraction)
  G_law_is_fraction : FnOk P w K mg base CX0 k f_law_is_fraction d_law_is_fraction ["it"] spIfB
  k_law_is_fraction : keepIn K (.ref f_law_is_fraction) = true
  b_law_is_fraction : Binds K d_law_is_fraction ["it"] []
  g_law_is_fraction : mg "_law_is_fraction" = some (.ref f_law_is_fraction)
  G_law_is_name : FnOk P w K mg base CX0 k f_law_is_name d_law_is_name ["it"] spNm
  k_law_is_name : keepIn K (.ref f_law_is_name) = true
  b_law_is_name : Binds K d_law_is_name ["it"] []
  g_law_is_name : mg "_law_is_name" = some (.ref f_law_is_name)
  G_law_is_number : FnOk P w K mg base CX0 k f_law_is_number d_law_is_number ["it"] spInB
  k_law_is_number : keepIn K (.ref f_law_is_number) = true
  b_law_is_number : Binds K d_law_is_number ["it"] []
  g_law_is_number : mg "_law_is_number" = some (.ref f_law_is_number)
  G_law_lowest : FnOk P w K mg base CX0 k f_law_lowest d_law_lowest ["top", "under"] spLow
  k_law_lowest : keepIn K (.ref f_law_lowest) = true
  b_law_lowest : Binds K d_law_lowest ["top", "under"] []
  g_law_lowest : mg "_law_lowest" = some (.ref f_law_lowest)
  G_law_number : FnOk P w K mg base CX0 k f_law_number d_law_number ["m"] (spNum fun _ => True)
  k_law_number : keepIn K (.ref f_law_number) = true
  b_law_number : Binds K d_law_number ["m"] []
  g_law_number : mg "_law_number" = some (.ref f_law_number)
  G_law_refused_right : FnOk P w K mg base CX0 k f_law_refused_right d_law_refused_right ["it", "x"] (spRef [(Pt, qn_rf)])
  k_law_refused_right : keepIn K (.ref f_law_refused_right) = true
  b_law_refused_right : Binds K d_law_refused_right ["it", "x"] []
  g_law_refused_right : mg "_law_refused_right" = some (.ref f_law_refused_right)
  G_law_rules_right : FnOk P w K mg base CX0 k f_law_rules_right d_law_rules_right ["x", "y", "z"] spRu
  k_law_rules_right : keepIn K (.ref f_law_rules_right) = true
  b_law_rules_right : Binds K d_law_rules_right ["x", "y", "z"] []
  g_law_rules_right : mg "_law_rules_right" = some (.ref f_law_rules_right)
  G_law_strange : FnOk P w K mg base CX0 k f_law_strange d_law_strange ["m", "x"] spSg
  k_law_strange : keepIn K (.ref f_law_strange) = true
  b_law_strange : Binds K d_law_strange ["m", "x"] []
  g_law_strange : mg "_law_strange" = some (.ref f_law_strange)
  G_law_text : FnOk P w K mg base CX0 k f_law_text d_law_text ["m"] spTx
  k_law_text : keepIn K (.ref f_law_text) = true
  b_law_text : Binds K d_law_text ["m"] []
  g_law_text : mg "_law_text" = some (.ref f_law_text)
  G_plus : FnOk P w K mg base CX0 k f_plus d_plus ["one", "other"] (spTwo fadd)
  k_plus : keepIn K (.ref f_plus) = true
  b_plus : Binds K d_plus ["one", "other"] []
  g_plus : mg "plus" = some (.ref f_plus)
  G_share : FnOk P w K mg base CX0 k f_share d_share ["a", "b"] spShr
  k_share : keepIn K (.ref f_share) = true
  b_share : Binds K d_share ["a", "b"] []
  g_share : mg "share" = some (.ref f_share)
  G_times : FnOk P w K mg base CX0 k f_times d_times ["one", "other"] (spTwo fmul)
  k_times : keepIn K (.ref f_times) = true
  b_times : Binds K d_times ["one", "other"] []
  g_times : mg "times" = some (.ref f_times)
  kn_share : KBn K d_share ["a", "b"] 0 ["b", "a"] swU swV
  kn_plus : KBn K d_plus ["one", "other"] 0 ["other", "one"] swU swV
  n_range : mg "range" = none
  n_repr : mg "repr" = none

/-- a reading that asks for more -/
theorem pe_imp {X : Cx} {e : Expr} {t t2 : TE} (h : PE X e t) (i : ∀ σ H Q, t2 σ H Q → t σ H Q) : PE X e t2 := ⟨fun pins s σ H Q I z => h.run pins s σ H Q I (i σ H Q z)⟩
/-- 0 < way < 4 -/
def tWay : TE := fun σ H Q => ∃ w : Int, σ[12]? = some (some (.int w)) ∧ Q (.bl (decide (0 < w) && decide (w < 4))) H
/-- is the thing a number, and this one -/
def tNum : TE := fun σ H Q => ∃ (m gl : Addr) (x : V) (i : Int), σ[9]? = some (some x) ∧ σ[3]? = some (some (.int i)) ∧ Sth m gl H x ∧ Q (.bl (isIV x && decide (x = .int i))) H
theorem way_imp (σ : St) (H : Hp) (Q : VK) (z : tWay σ H Q) : tChain (rI0 fun i j => .bl (decide (i < j))) (rI0 fun i j => .bl (decide (i < j))) (tC (.int 0)) (tVar 12) (tC (.int 4)) σ H Q := by
  obtain ⟨w, e, q⟩ := z
  refine ⟨_, e, _, _, rfl, rfl, _, rfl, ite2 (fun c => ?_) (fun c => ?_)⟩
  · rw [show decide (0 < w) = true from c] at q
    exact ⟨_, _, rfl, rfl, q⟩
  · rw [show decide (0 < w) = false from Bool.eq_false_iff.mpr c] at q
    exact q
theorem num_imp (σ : St) (H : Hp) (Q : VK) (z : tNum σ H Q) : tAndV (tCall spInB [] E0 (tCons (tVar 9) tNil)) (tOp rEq (tVar 9) (tVar 3)) σ H Q := by
  obtain ⟨m, gl, x, i, e1, e2, st, q⟩ := z
  refine ⟨_, e1, m, gl, x, rfl, st, _, rfl, ite2 (fun c => ?_) (fun c => ?_)⟩
  · rw [c, Bool.true_and] at q
    obtain ⟨j, rfl⟩ : ∃ j : Int, x = .int j := by
      cases x <;> first | (cases c; done) | exact ⟨_, rfl⟩
    exact ⟨_, e1, _, e2, rfl, q⟩
  · rw [Bool.eq_false_iff.mpr c, Bool.false_and] at q
    exact q
theorem Fq.sth {m gl : Addr} {H : Hp} {v : V} {x : Int × Int} (h : Fq H v x 210) : Sth m gl H v := by
  obtain ⟨⟨p, rfl, hp⟩, _, b1, b2⟩ := h
  refine .tup hp (.cons (.int _) (.cons (.int _) .nil)) (by simp [flat, PyData.canLay0, PyData.depth]) (fun d hd b e => ?_) (show 2 ≤ 3 by decide)
  have up : ∀ {z : Int}, z.natAbs < 2 ^ 210 → z.natAbs < 2 ^ 250 := fun h => Nat.lt_of_lt_of_le h (Nat.pow_le_pow_right (by decide) (by decide))
  simp only [List.mem_cons, List.mem_nil_iff, or_false] at hd
  rcases hd with rfl | rfl <;> cases e
  · exact up b1
  · exact up b2
theorem far_at {w l : Int} (h0 : 0 ≤ w) (h1 : w < 5) : ∃ d : Int, atI [V.int (0 - 1), V.int 0, V.int 1, V.int 9, V.int 10] w = some (.int d) ∧ d.natAbs ≤ 10 ∧ wholeOf l (l + 9) (.int (l + d)) = (decide (0 < w) && decide (w < 4)) := by
  have c : w = 0 ∨ w = 1 ∨ w = 2 ∨ w = 3 ∨ w = 4 := by omega
  have f : ∀ d : Int, wholeOf l (l + 9) (.int (l + d)) = (decide (0 ≤ d) && decide (d ≤ 9)) := fun d => by
    show (decide (l ≤ l + d) && decide (l + d ≤ l + 9)) = _
    rw [Bool.eq_iff_iff]
    simp
    omega
  rcases c with rfl | rfl | rfl | rfl | rfl
  · exact ⟨_, at_of (j := 0) rfl rfl, by decide, (f _).trans (by decide)⟩
  · exact ⟨_, at_of (j := 1) rfl rfl, by decide, (f _).trans (by decide)⟩
  · exact ⟨_, at_of (j := 2) rfl rfl, by decide, (f _).trans (by decide)⟩
  · exact ⟨_, at_of (j := 3) rfl rfl, by decide, (f _).trans (by decide)⟩
  · exact ⟨_, at_of (j := 4) rfl rfl, by decide, (f _).trans (by decide)⟩
theorem whole_num {m gl : Addr} {H : Hp} {v : V} {i : Int} (h : Sth m gl H v) : wholeOf i i v = (isIV v && decide (v = .int i)) := by
  cases h <;> first | rfl | skip
  rename_i j _
  show (decide (i ≤ j) && decide (j ≤ i)) = (true && decide (V.int j = V.int i))
  rw [eqI, Bool.true_and, Bool.eq_iff_iff]
  simp
  omega
def spLaw (K : Frag) (T : List (Addr × Str)) : Sp := fun vs H Q _ => ∃ (a : Addr) (ns : List Int), vs = [.ref a] ∧ SqL K H a (ns.map V.int) ∧ ns.length ≤ 63 ∧ Tabs T H ∧ ∀ H2, Q (.bl true) H2
end L2.K2

set_option Elab.async false
set_option linter.all false
set_option maxRecDepth 100000
set_option maxHeartbeats 20000000
set_option exponentiation.threshold 10000
namespace L2.K2
open PySem PySem.W PySem.Spec PyProof.Rows L2.Sl L2.Fr SlX LamX
section
variable {P : Program} {w : World} {K : PySem.W.Frag} {mg : Str → Option Value} {base : Heap}
abbrev s_law : Stmt := topS 37
abbrev N_law : List Str := ["script", "m", "turn", "top", "under", "x", "y", "z", "due", "strange", "spelt", "least", "way", "it", "far", "told"]
theorem sc_law : FnScope N_law ["script"] (defScope s_law) := ⟨rfl, rfl, rfl, by decide +kernel, rfl, by decide +kernel, by decide +kernel⟩
theorem ok_law {f Pt f_is_name f_is_share f_is_whole f_law_begun f_law_bottom f_law_draw f_law_fraction f_law_is_fraction f_law_is_name f_law_is_number f_law_lowest f_law_number f_law_refused_right f_law_rules_right f_law_strange f_law_text f_plus f_share f_times : Addr} {fd d_is_name d_is_share d_is_whole d_law_begun d_law_bottom d_law_draw d_law_fraction d_law_is_fraction d_law_is_name d_law_is_number d_law_lowest d_law_number d_law_refused_right d_law_rules_right d_law_strange d_law_text d_plus d_share d_times : FuncData} {k : Nat} (L : LwTxt P w K mg base k Pt f_is_name f_is_share f_is_whole f_law_begun f_law_bottom f_law_draw f_law_fraction f_law_is_fraction f_law_is_name f_law_is_number f_law_lowest f_law_number f_law_refused_right f_law_rules_right f_law_strange f_law_text f_plus f_share f_times d_is_name d_is_share d_is_whole d_law_begun d_law_bottom d_law_draw d_law_fraction d_law_is_fraction d_law_is_name d_law_is_number d_law_lowest d_law_number d_law_refused_right d_law_rules_right d_law_strange d_law_text d_plus d_share d_times) (F : Fun K "law" "law" s_law f fd) : FnG P w K mg base CX0 (k + 1) f fd ["script"] (spLaw K [(Pt, qn_rf)]) := by
  refine okG F sc_law (fun vs H Q E h => ?_) (fun cdv A outer s H vs Q E hgu hr h => ?_)
  · obtain ⟨a, ns, rfl, _⟩ := h
    rfl
  · obtain ⟨a, ns, rfl, hS, hlen, hT, q⟩ := h
    refine ⟨_, (pss_cons (ps_set (i := 1) sc_law.nd rfl (.inl rfl) (pe_call L.G_law_begun hr (by rfl) L.g_law_begun L.k_law_begun L.b_law_begun .nil pass0 (pa_cons (pv 0) pa_nil)))
      (pss_cons (ps_for PassesOwn.never rfl (pi_range1 (by rfl) L.n_range (pa_cons pe_int pa_nil)) (pg_name (i := 2) sc_law.nd rfl (.inl rfl))
        (pss_cons (ps_par (i := 3) (j := 4) (by rfl) sc_law.nd rfl rfl (by decide) rfl rfl (pa_cons (pe_call L.G_law_number hr (by rfl) L.g_law_number L.k_law_number L.b_law_number .nil pass0 (pa_cons (pv 1) pa_nil)) (pa_cons (pe_call L.G_law_bottom hr (by rfl) L.g_law_bottom L.k_law_bottom L.b_law_bottom .nil pass0 (pa_cons (pv 1) pa_nil)) pa_nil)) (by rfl))
        (pss_cons (ps_par3 (i := 5) (j := 6) (l := 7) (by rfl) sc_law.nd rfl rfl rfl (by decide) (by decide) (by decide) rfl rfl rfl (pa_cons (pe_call L.G_law_lowest hr (by rfl) L.g_law_lowest L.k_law_lowest L.b_law_lowest .nil pass0 (pa_cons (pv 3) (pa_cons (pv 4) pa_nil))) (pa_cons (pe_call L.G_law_fraction hr (by rfl) L.g_law_fraction L.k_law_fraction L.b_law_fraction .nil pass0 (pa_cons (pv 1) pa_nil)) (pa_cons (pe_call L.G_law_fraction hr (by rfl) L.g_law_fraction L.k_law_fraction L.b_law_fraction .nil pass0 (pa_cons (pv 1) pa_nil)) pa_nil))) (by rfl))
        (pss_cons (ps_if (pt_cmpR op_ne (pe_callB (call_repr hgu hr) (by rfl) L.n_repr (by decide +kernel) (pa_cons (pe_lst (pa_cons (pe_call L.G_share hr (by rfl) L.g_share L.k_share L.b_share .nil pass0 (pa_cons (pv 3) (pa_cons (pv 4) pa_nil))) (pa_cons (pe_callKw L.G_share hr (by rfl) L.g_share L.k_share L.kn_share pass0 (pk_cons (pv 4) (pk_cons (pv 3) pk_nil))) pa_nil))) pa_nil)) (pe_callB (call_repr hgu hr) (by rfl) L.n_repr (by decide +kernel) (pa_cons (pe_lst (pa_cons (pv 5) (pa_cons (pv 5) pa_nil))) pa_nil)) (nomark _))
          (pss_one (ps_ret pe_bl))
          pss_nil)
        (pss_cons (ps_set (i := 8) sc_law.nd rfl (.inl rfl) (pe_call L.G_law_lowest hr (by rfl) L.g_law_lowest L.k_law_lowest L.b_law_lowest .nil pass0 (pa_cons (pe_op op_add (pe_op op_mulW (pe_ix ix_tup (pv 5) pe_int (fun _ _ => rfl)) (pe_ix ix_tup (pv 6) pe_int (fun _ _ => rfl))) (pe_op op_mulW (pe_ix ix_tup (pv 6) pe_int (fun _ _ => rfl)) (pe_ix ix_tup (pv 5) pe_int (fun _ _ => rfl)))) (pa_cons (pe_op op_mulW (pe_ix ix_tup (pv 5) pe_int (fun _ _ => rfl)) (pe_ix ix_tup (pv 6) pe_int (fun _ _ => rfl))) pa_nil))))
        (pss_cons (ps_if (pt_cmpR op_ne (pe_callB (call_repr hgu hr) (by rfl) L.n_repr (by decide +kernel) (pa_cons (pe_lst (pa_cons (pe_call L.G_plus hr (by rfl) L.g_plus L.k_plus L.b_plus .nil pass0 (pa_cons (pv 5) (pa_cons (pv 6) pa_nil))) (pa_cons (pe_callKw L.G_plus hr (by rfl) L.g_plus L.k_plus L.kn_plus pass0 (pk_cons (pv 6) (pk_cons (pv 5) pk_nil))) pa_nil))) pa_nil)) (pe_callB (call_repr hgu hr) (by rfl) L.n_repr (by decide +kernel) (pa_cons (pe_lst (pa_cons (pv 8) (pa_cons (pv 8) pa_nil))) pa_nil)) (nomark _))
          (pss_one (ps_ret pe_bl))
          pss_nil)
        (pss_cons (ps_if (PW.pt (pw_or (pt_cmpR op_ne (pe_callB (call_repr hgu hr) (by rfl) L.n_repr (by decide +kernel) (pa_cons (pe_call L.G_times hr (by rfl) L.g_times L.k_times L.b_times .nil pass0 (pa_cons (pv 5) (pa_cons (pv 6) pa_nil))) pa_nil)) (pe_callB (call_repr hgu hr) (by rfl) L.n_repr (by decide +kernel) (pa_cons (pe_call L.G_law_lowest hr (by rfl) L.g_law_lowest L.k_law_lowest L.b_law_lowest .nil pass0 (pa_cons (pe_op op_mulW (pe_ix ix_tup (pv 5) pe_int (fun _ _ => rfl)) (pe_ix ix_tup (pv 6) pe_int (fun _ _ => rfl))) (pa_cons (pe_op op_mulW (pe_ix ix_tup (pv 5) pe_int (fun _ _ => rfl)) (pe_ix ix_tup (pv 6) pe_int (fun _ _ => rfl))) pa_nil))) pa_nil)) (nomark _)) (pw_or1 (pt_not (pt_val (pe_call L.G_law_rules_right hr (by rfl) L.g_law_rules_right L.k_law_rules_right L.b_law_rules_right .nil pass0 (pa_cons (pv 5) (pa_cons (pv 6) (pa_cons (pv 7) pa_nil)))))))))
          (pss_one (ps_ret pe_bl))
          pss_nil)
        (pss_cons (ps_asg (pe_tup (pa_cons (pe_call L.G_law_strange hr (by rfl) L.g_law_strange L.k_law_strange L.b_law_strange .nil pass0 (pa_cons (pv 1) (pa_cons (pv 5) pa_nil))) (pa_cons (pe_call L.G_law_text hr (by rfl) L.g_law_text L.k_law_text L.b_law_text .nil pass0 (pa_cons (pv 1) pa_nil)) (pa_cons (pe_op op_sub (pe_call L.G_law_draw hr (by rfl) L.g_law_draw L.k_law_draw L.b_law_draw .nil pass0 (pa_cons (pv 1) (pa_cons pe_int pa_nil))) pe_int) (pa_cons (pe_call L.G_law_draw hr (by rfl) L.g_law_draw L.k_law_draw L.b_law_draw .nil pass0 (pa_cons (pv 1) (pa_cons pe_int pa_nil))) pa_nil))))) (pg_tup rfl (pgs_cons (pg_name (i := 9) sc_law.nd rfl (.inl rfl)) (pgs_cons (pg_name (i := 10) sc_law.nd rfl (.inl rfl)) (pgs_cons (pg_name (i := 11) sc_law.nd rfl (.inl rfl)) (pgs_cons (pg_name (i := 12) sc_law.nd rfl (.inl rfl)) pgs_nil))))))
        (pss_cons (ps_if (pt_not (pt_val (pe_call L.G_law_refused_right hr (by rfl) L.g_law_refused_right L.k_law_refused_right L.b_law_refused_right .nil pass0 (pa_cons (pv 9) (pa_cons (pv 6) pa_nil)))))
          (pss_one (ps_ret pe_bl))
          pss_nil)
        (pss_cons (ps_for PassesOwn.never rfl (pi_list (pe_lst (pa_cons (pv 5) (pa_cons (pv 6) (pa_cons (pv 9) (pa_cons (pv 10) (pa_cons pe_non (pa_cons pe_bl (pa_cons pe_int (pa_cons (pe_lst pa_nil) (pa_cons (pe_tup (pa_cons pe_str pa_nil)) (pa_cons pe_dnewK pa_nil)))))))))))) (pg_name (i := 13) sc_law.nd rfl (.inl rfl))
          (pss_one (ps_if (pt_cmpR op_ne (pe_callB (call_repr hgu hr) (by rfl) L.n_repr (by decide +kernel) (pa_cons (pe_lst (pa_cons (pe_call L.G_is_share hr (by rfl) L.g_is_share L.k_is_share L.b_is_share .nil pass0 (pa_cons (pv 13) pa_nil)) (pa_cons (pe_call L.G_is_name hr (by rfl) L.g_is_name L.k_is_name L.b_is_name .nil pass0 (pa_cons (pv 13) pa_nil)) pa_nil))) pa_nil)) (pe_callB (call_repr hgu hr) (by rfl) L.n_repr (by decide +kernel) (pa_cons (pe_lst (pa_cons (pe_call L.G_law_is_fraction hr (by rfl) L.g_law_is_fraction L.k_law_is_fraction L.b_law_is_fraction .nil pass0 (pa_cons (pv 13) pa_nil)) (pa_cons (pe_call L.G_law_is_name hr (by rfl) L.g_law_is_name L.k_law_is_name L.b_law_is_name .nil pass0 (pa_cons (pv 13) pa_nil)) pa_nil))) pa_nil)) (nomark _))
            (pss_one (ps_ret pe_bl))
            pss_nil)))
        (pss_cons (ps_set (i := 14) sc_law.nd rfl (.inl rfl) (pe_op op_add (pv 11) (pe_ix ix_list (pe_lst (pa_cons (pe_op op_sub pe_int pe_int) (pa_cons pe_int (pa_cons pe_int (pa_cons pe_int (pa_cons pe_int pa_nil)))))) (pv 12) (fun _ _ => rfl))))
        (pss_cons (ps_set (i := 15) sc_law.nd rfl (.inl rfl) (pe_lst (pa_cons (pe_call L.G_is_whole hr (by rfl) L.g_is_whole L.k_is_whole L.b_is_whole .nil pass0 (pa_cons (pv 14) (pa_cons (pv 11) (pa_cons (pe_op op_add (pv 11) pe_int) pa_nil)))) (pa_cons (pe_call L.G_is_whole hr (by rfl) L.g_is_whole L.k_is_whole L.b_is_whole .nil pass0 (pa_cons (pv 9) (pa_cons (pv 3) (pa_cons (pv 3) pa_nil)))) (pa_cons (pe_call L.G_is_whole hr (by rfl) L.g_is_whole L.k_is_whole L.b_is_whole .nil pass0 (pa_cons pe_bl (pa_cons pe_int (pa_cons pe_int pa_nil)))) pa_nil)))))
        (pss_one (ps_if (pt_cmpR op_ne (pe_callB (call_repr hgu hr) (by rfl) L.n_repr (by decide +kernel) (pa_cons (pv 15) pa_nil)) (pe_callB (call_repr hgu hr) (by rfl) L.n_repr (by decide +kernel) (pa_cons (pe_lst (pa_cons (pe_imp (t2 := tWay) (pe_chain op_lt op_lt pe_int (pv 12) pe_int) way_imp) (pa_cons (pe_imp (t2 := tNum) (pe_and (pe_call L.G_law_is_number hr (by rfl) L.g_law_is_number L.k_law_is_number L.b_law_is_number .nil pass0 (pa_cons (pv 9) pa_nil)) (pe_one (pe_cmpR op_eq (pv 9) (pv 3) (nomark _)))) num_imp) (pa_cons pe_bl pa_nil)))) pa_nil)) (nomark _))
          (pss_one (ps_ret pe_bl))
          pss_nil))))))))))))))
      (pss_one (ps_ret pe_bl)))), ?_⟩
    refine ⟨_, rfl, a, ns, rfl, hS, hlen, fun H1 m gl S1 nm ng D1 => ?_⟩
    have T1 : Tabs [(Pt, qn_rf)] H1 := hT.ext S1
    refine ⟨6, rfl, by decide, by decide, for_range (lo := 0) (n := 6) (fun j σ H2 => ∃ y2 y3 y4 y5 y6 y7 y8 y9 y10 y11 y12 y13 y14 y15 : Option V, σ = [some (.ref a), some (.ref m), y2, y3, y4, y5, y6, y7, y8, y9, y10, y11, y12, y13, y14, y15] ∧ Drw H2 m gl ∧ Tabs [(Pt, qn_rf)] H2)
      ⟨_, _, _, _, _, _, _, _, _, _, _, _, _, _, rfl, D1, T1⟩ (fun j σ H2 hj hP => ?_) (fun σ H2 hP => ?_)⟩
    · obtain ⟨y2, y3, y4, y5, y6, y7, y8, y9, y10, y11, y12, y13, y14, y15, rfl, D2, T2⟩ := hP
      have up : ∀ {z : Int} {n : Nat}, z.natAbs < 2 ^ 210 → 210 ≤ n → z.natAbs < 2 ^ n := fun h l => Nat.lt_of_lt_of_le h (Nat.pow_le_pow_right (by decide) l)
      -- top, under; x, y, z
      refine ⟨_, rfl, m, gl, rfl, D2, fun H3 top tb _ D3 B3 => ⟨_, rfl, m, gl, rfl, D3, fun H4 un ub u0 D4 B4 => ⟨_, _, rfl, ?_⟩⟩⟩
      refine ⟨_, rfl, _, rfl, top, un, rfl, u0, up ub (by decide), fun H5 xp S5 nx ex => ⟨_, rfl, m, gl, rfl, D4.same S5, fun H6 yp ya yb ly ya1 yb1 ey D6 B6 => ⟨_, rfl, m, gl, rfl, D6, fun H7 zp za zb lz za1 zb1 ez D7 B7 => ⟨_, _, _, rfl, ?_⟩⟩⟩⟩
      have D5 := D4.same S5
      have fx : Fq H7 (.ref xp) (L2.Fr.low top un) 210 := (Fq.but D6 B7 (Fq.but D5 B6 ⟨⟨xp, rfl, ex⟩, low_low u0, Nat.lt_of_le_of_lt (low_le1 u0) tb, Nat.lt_of_le_of_lt (low_le2 u0) ub⟩))
      have fy : Fq H7 (.ref yp) (ya, yb) 210 := Fq.but D6 B7 ⟨⟨yp, rfl, ey⟩, ly, ya1, yb1⟩
      have fz : Fq H7 (.ref zp) (za, zb) 210 := ⟨⟨zp, rfl, ez⟩, lz, za1, zb1⟩
      have T7 : Tabs [(Pt, qn_rf)] H7 := tabs_but D6 B7 (tabs_but D5 B6 ((tabs_but D3 B4 (tabs_but D2 B3 T2)).ext S5))
      generalize hX : L2.Fr.low top un = X at fx
      clear ex ey ez B7 B6 B4 B3 D6 D5 D4 D3 T2 D2 nx
      -- share
      refine ⟨_, rfl, _, rfl, top, un, rfl, u0, up ub (by decide), fun H8 p1 s8 n8 e8 => ?_⟩
      rw [hX] at e8
      refine ⟨_, rfl, _, rfl, rfl, top, un, rfl, u0, up ub (by decide), fun H9 p2 s9 n9 e9 => ⟨(show 2 ≤ sizeLine by decide), fun l nl => ?_⟩⟩
      rw [hX] at e9
      have s10 := same_new (o := .lst [.ref p1, .ref p2]) nl
      have S10 := s8.trans (s9.trans s10)
      have g1 : Fq (upd H9 l (.lst [.ref p1, .ref p2])) (.ref p1) X 210 := ⟨⟨p1, rfl, s10 _ _ (s9 _ _ e8)⟩, fx.low, fx.b1, fx.b2⟩
      have g2 : Fq (upd H9 l (.lst [.ref p1, .ref p2])) (.ref p2) X 210 := ⟨⟨p2, rfl, s10 _ _ e9⟩, fx.low, fx.b1, fx.b2⟩
      have rd1 := repr2 (K := K) g1 g2 (by decide) upd_same
      refine ⟨_, _, rfl, rd1.dp, rd1.ea, rd1.h1, rd1.h2, rd1.h3, rd1.h4, ?_⟩
      clear rd1 g1 g2
      generalize upd H9 l (.lst [.ref p1, .ref p2]) = H10 at s10 S10
      refine ⟨_, rfl, _, rfl, (show 2 ≤ sizeLine by decide), fun l2 nl2 => ?_⟩
      have S11 := S10.trans (same_new (o := .lst [.ref xp, .ref xp]) nl2)
      have rd2 := repr2 (K := K) (fx.same S11) (fx.same S11) (by decide) upd_same
      refine ⟨_, _, rfl, rd2.dp, rd2.ea, rd2.h1, rd2.h2, rd2.h3, rd2.h4, rfl, _, rfl, if_ne rfl ?_⟩
      have fx11 := fx.same S11
      have fy11 := fy.same S11
      have fz11 := fz.same S11
      have D11 := D7.same S11
      have T11 := T7.ext S11
      clear rd2
      generalize upd H10 l2 (.lst [.ref xp, .ref xp]) = H11 at S11 fx11 fy11 fz11 D11 T11
      clear s10 S10 S11 e8 e9 n8 n9 nl nl2 s8 s9 fx fy fz D7 T7
      -- due
      have m3 : ∀ {z : Int}, z.natAbs < 2 ^ 210 → z.natAbs < 2 ^ 3000 := fun h => up h (by decide)
      obtain ⟨⟨xq, ex, ep⟩, lx, x1, x2⟩ := id fx11
      cases ex
      obtain ⟨⟨yq, ey, er⟩, ly', y1, y2⟩ := id fy11
      cases ey
      have dn : X.2 * yb ≠ 0 := Int.mul_ne_zero lx.ne (show yb ≠ 0 from ly'.ne)
      have db : (X.2 * yb).natAbs < 2 ^ 4000 := Nat.lt_of_lt_of_le (wide_lt x2 y2) (Nat.pow_le_pow_right (by decide) (by decide))
      refine ⟨_, rfl, xp, _, _, _, rfl, rfl, SqT.of ep, at_of (j := 0) rfl rfl, _, rfl, yp, _, _, _, rfl, rfl, SqT.of er, at_of (j := 1) rfl rfl, _, _, rfl, rfl, mul_ok (m3 x1) (m3 y2), _, rfl, yp, _, _, _, rfl, rfl, SqT.of er, at_of (j := 0) rfl rfl, _, rfl, xp, _, _, _, rfl, rfl, SqT.of ep, at_of (j := 1) rfl rfl, _, _, rfl, rfl, mul_ok (m3 y1) (m3 x2), _, _, rfl, rfl, ?_⟩
      refine ⟨_, rfl, xp, _, _, _, rfl, rfl, SqT.of ep, at_of (j := 1) rfl rfl, _, rfl, yp, _, _, _, rfl, rfl, SqT.of er, at_of (j := 1) rfl rfl, _, _, rfl, rfl, mul_ok (m3 x2) (m3 y2), ?_⟩
      refine ⟨_, _, rfl, dn, db, fun H12 dp S12 nd ed => ?_⟩
      have fd : Fq H12 (.ref dp) (fadd X (ya, yb)) 421 := Fq.add (fx11.same S12) (fy11.same S12) rfl ed
      have fx12 := fx11.same S12
      have fy12 := fy11.same S12
      have fz12 := fz11.same S12
      have D12 := D11.same S12
      have T12 := T11.ext S12
      clear ep er ed fx11 fy11 fz11 D11 T11 S12 nd
      -- plus
      refine ⟨_, rfl, _, rfl, _, _, X, (ya, yb), 210, 210, rfl, fx12, fy12, by decide, fun H13 r1 s13 f13 => ?_⟩
      refine ⟨_, rfl, _, rfl, rfl, _, _, X, (ya, yb), 210, 210, rfl, fx12.same s13, fy12.same s13, by decide, fun H14 r2 s14 f14 => ⟨(show 2 ≤ sizeLine by decide), fun l nl => ?_⟩⟩
      have s15 := same_new (o := .lst [r1, r2]) nl
      have rd1 := repr2 (K := K) ((f13.same s14).same s15) (f14.same s15) (by decide) upd_same
      refine ⟨_, _, rfl, rd1.dp, rd1.ea, rd1.h1, rd1.h2, rd1.h3, rd1.h4, ?_⟩
      have S15 := s13.trans (s14.trans s15)
      clear rd1
      generalize upd H14 l (.lst [r1, r2]) = H15 at s15 S15
      refine ⟨_, rfl, _, rfl, (show 2 ≤ sizeLine by decide), fun l2 nl2 => ?_⟩
      have S16 := S15.trans (same_new (o := .lst [.ref dp, .ref dp]) nl2)
      have rd2 := repr2 (K := K) (fd.same S16) (fd.same S16) (by decide) upd_same
      refine ⟨_, _, rfl, rd2.dp, rd2.ea, rd2.h1, rd2.h2, rd2.h3, rd2.h4, rfl, _, rfl, if_ne rfl ?_⟩
      have fx16 := fx12.same S16
      have fy16 := fy12.same S16
      have fz16 := fz12.same S16
      have D16 := D12.same S16
      have T16 := T12.ext S16
      clear rd2
      generalize upd H15 l2 (.lst [.ref dp, .ref dp]) = H16 at S16 fx16 fy16 fz16 D16 T16
      clear s13 s14 s15 S15 S16 f13 f14 nl nl2 fx12 fy12 fz12 D12 T12 fd
      -- times, the rules
      refine ⟨_, rfl, _, rfl, _, _, X, (ya, yb), 210, 210, rfl, fx16, fy16, by decide, fun H17 r3 s17 f17 => ?_⟩
      have rd3 := repr1 (K := K) f17 (by decide)
      refine ⟨_, _, rfl, rd3.dp, rd3.ea, rd3.h1, rd3.h2, rd3.h3, rd3.h4, ?_⟩
      obtain ⟨⟨xq, ex, ep⟩, _, _, _⟩ := fx16.same s17
      cases ex
      obtain ⟨⟨yq, ey, er⟩, _, _, _⟩ := fy16.same s17
      cases ey
      refine ⟨_, rfl, xp, _, _, _, rfl, rfl, SqT.of ep, at_of (j := 0) rfl rfl, _, rfl, yp, _, _, _, rfl, rfl, SqT.of er, at_of (j := 0) rfl rfl, _, _, rfl, rfl, mul_ok (m3 x1) (m3 y1), ?_⟩
      refine ⟨_, rfl, xp, _, _, _, rfl, rfl, SqT.of ep, at_of (j := 1) rfl rfl, _, rfl, yp, _, _, _, rfl, rfl, SqT.of er, at_of (j := 1) rfl rfl, _, _, rfl, rfl, mul_ok (m3 x2) (m3 y2), ?_⟩
      refine ⟨_, _, rfl, dn, db, fun H18 tp s18 nt et => ?_⟩
      have ft : Fq H18 (.ref tp) (fmul X (ya, yb)) 421 := Fq.mul (fx16.same (s17.trans s18)) (fy16.same (s17.trans s18)) rfl et
      have rd4 := repr1 (K := K) ft (by decide)
      refine ⟨_, _, rfl, rd4.dp, rd4.ea, rd4.h1, rd4.h2, rd4.h3, rd4.h4, rfl, _, rfl, if_ne rfl ?_⟩
      have S18 := s17.trans s18
      refine ⟨_, rfl, _, rfl, _, rfl, _, _, _, X, (ya, yb), (za, zb), rfl, fx16.same S18, fy16.same S18, fz16.same S18, fun H19 s19 => ⟨_, rfl, iteF ?_⟩⟩
      have S19 := S18.trans s19
      have fx19 := fx16.same S19
      have fy19 := fy16.same S19
      have D19 := D16.same S19
      have T19 := T16.ext S19
      clear S19 s19 S18 s18 s17 f17 rd3 rd4 ft et ep er fx16 fy16 fz16 D16 T16
      -- strange, spelt, least, way
      obtain ⟨⟨xq, ex, ep⟩, _, _, _⟩ := id fx19
      cases ex
      refine ⟨_, rfl, _, rfl, m, gl, xp, X.1, X.2, rfl, D19, ep, x1, x2, fun H20 st D20 B20 sth20 => ⟨_, rfl, m, gl, rfl, D20, fun H21 sp lsp osp D21 B21 => ?_⟩⟩
      refine ⟨_, rfl, m, gl, 2000, rfl, D21, by decide, by decide, fun H22 lr l0 l1 D22 B22 => ⟨_, _, rfl, rfl, _, rfl, m, gl, 5, rfl, D22, by decide, by decide, fun H23 way w0 w1 D23 B23 => ⟨(show 4 ≤ sizeLine by decide), fun tp ntp => ?_⟩⟩⟩
      have B : But m gl H20 H23 := B21.trans (B22.trans B23)
      have s24 := same_new (o := .tup [st, .str sp, .int (lr - 1000), .int way]) ntp
      have sth24 : Sth m gl (upd H23 tp (.tup [st, .str sp, .int (lr - 1000), .int way])) st := (sth20.but D20 B).same s24
      have fx24 := ((fx19.but D19 B20).but D20 B).same s24
      have fy24 := ((fy19.but D19 B20).but D20 B).same s24
      have D24 := D23.same s24
      have T24 := (tabs_but D20 B (tabs_but D19 B20 T19)).ext s24
      have e24 : (upd H23 tp (.tup [st, .str sp, .int (lr - 1000), .int way])) tp = some (.tup [st, .str sp, .int (lr - 1000), .int way]) := upd_same
      generalize upd H23 tp (.tup [st, .str sp, .int (lr - 1000), .int way]) = H24 at s24 sth24 fx24 fy24 D24 T24 e24
      refine ⟨tp, _, rfl, SqT.of e24, rfl, _, _, rfl, _, _, rfl, _, _, rfl, _, _, rfl, rfl, ?_⟩
      clear ep fx19 fy19 D19 T19 D20 D21 D22 D23 B B20 B21 B22 B23 sth20 s24 e24 ntp
      -- refused
      refine ⟨_, rfl, _, rfl, m, gl, st, .ref yp, (ya, yb), rfl, sth24, fy24, T24, fun H25 e25 T25 => ⟨_, rfl, iteF ?_⟩⟩
      have sth25 := sth24.ext e25
      have fx25 := fx24.ext e25
      have fy25 := fy24.ext e25
      have D25 := D24.ext e25
      clear e25 sth24 fx24 fy24 D24 T24
      -- the things
      refine ⟨_, rfl, _, rfl, _, rfl, _, rfl, Nat.zero_le _, fun t1 n1 => ⟨(show 1 ≤ sizeLine by decide), fun t2 n2 => ?_⟩⟩
      have s1 := same_new (o := .lst []) n1
      have s2 := same_new (o := .tup [.str "a"]) n2
      intro t3 n3
      have s3 := same_new (o := .dK []) n3
      refine ⟨(show 10 ≤ sizeLine by decide), fun lp nlp => ?_⟩
      have s4 := same_new (o := .lst [.ref xp, .ref yp, st, .str sp, .non, .bl true, .int 5, .ref t1, .ref t2, .ref t3]) nlp
      have S4 := s1.trans (s2.trans (s3.trans s4))
      have k1 : ∀ v ∈ ([.ref xp, .ref yp, st, .str sp, .non, .bl true, .int 5, .ref t1, .ref t2, .ref t3] : List V), Sth m gl (upd (upd (upd (upd H25 t1 (.lst [])) t2 (.tup [.str "a"])) t3 (.dK [])) lp (.lst [.ref xp, .ref yp, st, .str sp, .non, .bl true, .int 5, .ref t1, .ref t2, .ref t3])) v := by
        intro v hv
        simp only [List.mem_cons, List.mem_nil_iff, or_false] at hv
        rcases hv with rfl | rfl | rfl | rfl | rfl | rfl | rfl | rfl | rfl | rfl
        · exact (fx25.same S4).sth
        · exact (fy25.same S4).sth
        · exact sth25.same S4
        · exact .str _ (Nat.le_trans lsp (by decide)) osp
        · exact .non
        · exact .bl _
        · exact .int _ (by decide)
        · refine .lst ((s2.trans (s3.trans s4)) _ _ upd_same) ?_
          obtain ⟨ns1, el1, _⟩ := D25.l
          exact (ne_of_none el1 n1).symm
        · exact .tup ((s3.trans s4) _ _ upd_same) (.cons (.str _) .nil) (by unfold flat; decide +kernel) (fun d hd b e => by simp at hd; rw [hd] at e; cases e) (show 1 ≤ 3 by decide)
        · refine .dct (s4 _ _ upd_same) ?_
          obtain ⟨z, kk, em⟩ := D25.d
          exact (ne_of_none ((s1.trans s2) _ _ em) n3).symm
      have fl4 : (upd (upd (upd (upd H25 t1 (.lst [])) t2 (.tup [.str "a"])) t3 (.dK [])) lp (.lst [.ref xp, .ref yp, st, .str sp, .non, .bl true, .int 5, .ref t1, .ref t2, .ref t3])) lp = some (.lst [.ref xp, .ref yp, st, .str sp, .non, .bl true, .int 5, .ref t1, .ref t2, .ref t3]) := upd_same
      have T4 := T25.ext S4
      have D4 := D25.same S4
      have st4 := sth25.same S4
      generalize upd (upd (upd (upd H25 t1 (.lst [])) t2 (.tup [.str "a"])) t3 (.dK [])) lp (.lst [.ref xp, .ref yp, st, .str sp, .non, .bl true, .int 5, .ref t1, .ref t2, .ref t3]) = H4 at s4 S4 k1 fl4 T4 D4 st4
      clear s1 s2 s3 s4 S4 n1 n2 n3 nlp fx25 fy25 sth25 T25 D25
      refine ⟨lp, rfl, ⟨_, SqL.of fl4⟩, for_list (K := K) (a := lp) (xs := [.ref xp, .ref yp, st, .str sp, .non, .bl true, .int 5, .ref t1, .ref t2, .ref t3]) (fun i σ H5 => ∃ z13 : Option V, σ = [some (.ref a), some (.ref m), some (.int (0 + (j : Int))), some (.int top), some (.int un), some (.ref xp), some (.ref yp), some (.ref zp), some (.ref dp), some st, some (.str sp), some (.int (lr - 1000)), some (.int way), z13, y14, y15] ∧ Same H4 H5)
        ⟨_, rfl, fun _ _ z => z⟩ (fun i σ H5 _ hp => by obtain ⟨_, _, s⟩ := hp; exact s.seq (SqL.of fl4)) (fun i v σ H5 hv hP => ?_) (fun σ H5 hP => ?_)⟩
      · obtain ⟨z13, rfl, s5⟩ := hP
        have sv := (k1 v (List.mem_of_getElem? hv)).same s5
        obtain ⟨_, b, _, _, fb, _⟩ := sv.looks (K := K)
        refine ⟨_, rfl, v, b, rfl, fb, fun H6 s6 => ⟨_, rfl, m, gl, v, rfl, sv.same s6, fun H7 s7 => ⟨(show 2 ≤ sizeLine by decide), fun l nl => ?_⟩⟩⟩
        have s8 := same_new (o := .lst ([b, nameOf v].map V.bl)) nl
        have rd1 := repr_bls (K := K) (bs := [b, nameOf v]) (show 2 ≤ 3 by decide) (show (upd H7 l (.lst ([b, nameOf v].map V.bl))) l = _ from upd_same)
        refine ⟨_, _, rfl, rd1.dp, rd1.ea, rd1.h1, rd1.h2, rd1.h3, rd1.h4, ?_⟩
        have S8 : Same H5 (upd H7 l (.lst ([b, nameOf v].map V.bl))) := s6.trans (s7.trans s8)
        have S8' : Same H5 (upd H7 l (.lst [V.bl b, V.bl (nameOf v)])) := S8
        refine ⟨_, rfl, m, gl, v, b, rfl, sv.same S8', fb.same S8', fun H9 s9 => ⟨_, rfl, m, gl, v, rfl, (sv.same S8').same s9, fun H10 s10 => ⟨(show 2 ≤ sizeLine by decide), fun l2 nl2 => ?_⟩⟩⟩
        have s11 := same_new (o := .lst ([b, nameOf v].map V.bl)) nl2
        have rd2 := repr_bls (K := K) (bs := [b, nameOf v]) (show 2 ≤ 3 by decide) (show (upd H10 l2 (.lst ([b, nameOf v].map V.bl))) l2 = _ from upd_same)
        refine ⟨_, _, rfl, rd2.dp, rd2.ea, rd2.h1, rd2.h2, rd2.h3, rd2.h4, rfl, _, rfl, if_ne rfl ?_⟩
        exact ⟨_, rfl, s5.trans (S8'.trans (s9.trans (s10.trans s11)))⟩
      · obtain ⟨z13, rfl, s5⟩ := hP
        have T5 := T4.ext s5
        have D5 := D4.same s5
        have st5 := st4.same s5
        clear T4 D4 st4 s5 fl4 k1
        -- far, told
        obtain ⟨d, hd, d10, fw⟩ := far_at (l := lr - 1000) w0 w1
        refine ⟨_, rfl, _, _, rfl, rfl, (show 5 ≤ sizeLine by decide), fun fp nfp => ?_⟩
        have s6 := same_new (o := .lst [.int (0 - 1), .int 0, .int 1, .int 9, .int 10]) nfp
        refine ⟨_, rfl, fp, _, _, _, rfl, rfl, SqL.of upd_same, hd, _, _, rfl, rfl, ?_⟩
        have T6 := T5.ext s6
        have D6 := D5.same s6
        have st6 := st5.same s6
        generalize upd H5 fp (.lst [.int (0 - 1), .int 0, .int 1, .int 9, .int 10]) = H6 at s6 T6 D6 st6
        clear s6 T5 D5 st5 nfp
        have bf : (lr - 1000 + d).natAbs < 2 ^ 250 := Nat.lt_of_lt_of_le (show (lr - 1000 + d).natAbs < 2 ^ 20 by omega) (Nat.pow_le_pow_right (by decide) (by decide))
        refine ⟨_, rfl, _, rfl, _, rfl, _, _, rfl, rfl, m, gl, .int (lr - 1000 + d), lr - 1000, lr - 1000 + 9, rfl, .int _ bf, fun H7 s7 => ?_⟩
        rw [fw]
        refine ⟨_, rfl, _, rfl, _, rfl, m, gl, st, top, top, rfl, st6.same s7, fun H8 s8 => ?_⟩
        rw [whole_num (st6.same s7)]
        refine ⟨m, gl, .bl true, 0, 1, rfl, .bl _, fun H9 s9 => ⟨(show 3 ≤ sizeLine by decide), fun lp2 nl2 => ?_⟩⟩
        have s10 := same_new (o := .lst ([decide (0 < way) && decide (way < 4), isIV st && decide (st = .int top), false].map V.bl)) nl2
        have S10 := s7.trans (s8.trans (s9.trans s10))
        have rd1 := repr_bls (K := K) (bs := [decide (0 < way) && decide (way < 4), isIV st && decide (st = .int top), false]) (show 3 ≤ 3 by decide) (show (upd H9 lp2 (.lst ([decide (0 < way) && decide (way < 4), isIV st && decide (st = .int top), false].map V.bl))) lp2 = _ from upd_same)
        refine ⟨_, rfl, _, _, rfl, rd1.dp, rd1.ea, rd1.h1, rd1.h2, rd1.h3, rd1.h4, ?_⟩
        have T10 := T6.ext S10
        have D10 := D6.same S10
        have st10 := st6.same S10
        refine ⟨way, rfl, m, gl, st, top, rfl, rfl, st10, (show 3 ≤ sizeLine by decide), fun lp3 nl3 => ?_⟩
        have s11 := same_new (o := .lst ([decide (0 < way) && decide (way < 4), isIV st && decide (st = .int top), false].map V.bl)) nl3
        have rd2 := repr_bls (K := K) (bs := [decide (0 < way) && decide (way < 4), isIV st && decide (st = .int top), false]) (show 3 ≤ 3 by decide) (show (upd (upd H9 lp2 (.lst ([decide (0 < way) && decide (way < 4), isIV st && decide (st = .int top), false].map V.bl))) lp3 (.lst ([decide (0 < way) && decide (way < 4), isIV st && decide (st = .int top), false].map V.bl))) lp3 = _ from upd_same)
        refine ⟨_, _, rfl, rd2.dp, rd2.ea, rd2.h1, rd2.h2, rd2.h3, rd2.h4, rfl, _, rfl, if_ne rfl ?_⟩
        exact ⟨_, _, _, _, _, _, _, _, _, _, _, _, _, _, rfl, D10.same s11, T10.ext s11⟩
    · obtain ⟨y2, y3, y4, y5, y6, y7, y8, y9, y10, y11, y12, y13, y14, y15, rfl, D2, T2⟩ := hP
      exact q _
end
end L2.K2

set_option Elab.async false
set_option linter.all false
set_option maxRecDepth 100000
set_option maxHeartbeats 20000000
namespace L2.K2
open PySem PySem.W PySem.Spec PyProof.Rows L2.Sl L2.Fr SlX LamX
theorem _root_.L2.FnOk.to2 {P : Program} {w : World} {K : Frag} {mg : Str → Option Value} {base : Heap} {CX : CXT} {k : Nat} {f : Addr} {fd : FuncData} {ps : List Str} {sp sp2 : Sp} (F : L2.FnOk P w K mg base CX k f fd ps sp) (h : ∀ vs H Q E, sp2 vs H Q E → sp vs H Q E) : L2.FnOk P w K mg base CX k f fd ps sp2 := FnOk.to F h
theorem Fq.add0 {H H2 : Hp} {v u : V} {x y : Int × Int} {n1 n2 : Nat} {p : Addr} (h1 : Fq H v x n1) (h2 : Fq H u y n2) (e : H2 p = some (.tup [.int (fadd x y).1, .int (fadd x y).2])) : Fq H2 (.ref p) (fadd x y) (n1 + n2 + 1) :=
  ⟨⟨p, rfl, e⟩, fadd_low h1.low h2.low, (fadd_b h1.low h2.low h1.b1 h1.b2 h2.b1 h2.b2).1, (fadd_b h1.low h2.low h1.b1 h1.b2 h2.b1 h2.b2).2⟩
theorem Fq.mul0 {H H2 : Hp} {v u : V} {x y : Int × Int} {n1 n2 : Nat} {p : Addr} (h1 : Fq H v x n1) (h2 : Fq H u y n2) (e : H2 p = some (.tup [.int (fmul x y).1, .int (fmul x y).2])) : Fq H2 (.ref p) (fmul x y) (n1 + n2 + 1) :=
  ⟨⟨p, rfl, e⟩, fmul_low h1.low h2.low, (fmul_b h1.low h2.low h1.b1 h1.b2 h2.b1 h2.b2).1, (fmul_b h1.low h2.low h1.b1 h1.b2 h2.b1 h2.b2).2⟩

def fns : List He.DefD := [dTop "is_whole" s_wh, dTop "is_name" s_na, dTop "is_row" s_is_row, dTop "is_share" s_is_share, dTop "share" s_share, dTop "plus" s_plus, dTop "times" s_times, dTop "need_share" s_need_share, dTop "quick_plus" s_quick_plus, dTop "quick_times" s_quick_times, dTop "_lowest" s_lowest, dTop "_are_ints" s_are_ints, dTop "_law_begun" s_law_begun, dTop "_law_draw" s_law_draw, dTop "_law_lowest" s_lo, dTop "_law_number" s_nu, dTop "_law_bottom" s_bo, dTop "_law_fraction" s_fr, dTop "_law_is_number" s_in, dTop "_law_is_fraction" s_if, dTop "_law_strange" s_sg, dTop "_law_text" s_tx, dTop "_law_is_name" s_nm, dTop "_law_said" s_sd, dTop "_law_refused_right" s_rf, dTop "_law_rules_right" s_ru, dTop "law" s_law, dIni "BadNumber" "BadNumber.__init__" iniB]
def fas : List He.Fa := [.glo "is_whole", .glo "is_name", .glo "is_row", .glo "is_share", .glo "share", .glo "plus", .glo "times", .glo "need_share", .glo "quick_plus", .glo "quick_times", .glo "_lowest", .glo "_are_ints", .glo "_law_begun", .glo "_law_draw", .glo "_law_lowest", .glo "_law_number", .glo "_law_bottom", .glo "_law_fraction", .glo "_law_is_number", .glo "_law_is_fraction", .glo "_law_strange", .glo "_law_text", .glo "_law_is_name", .glo "_law_said", .glo "_law_refused_right", .glo "_law_rules_right", .glo "law", .glo "BadNumber", .glo "Refused", .glo "Barred", .glo "Beyond", .free "len", .free "abs", .free "isinstance", .free "type", .free "int", .free "bool", .free "str", .free "tuple", .free "all", .free "range", .free "repr", .int "_LONGEST" 8, .str "_LETTERS" alph]
def tfs : List He.Defn := [("_law_refused_right", none)]
def exs (K : Frag) : Bool := ecB K "BadNumber" .val ["why"] && (descB K && (He.eqO (nsIn K mainGlobals "gcd") (some (some (.builtin "math.gcd"))) && (decide (exmAny K (.ref (He.ga K "BadNumber")) [.ref (He.ga K "Refused"), .ref (He.ga K "Barred"), .ref (He.ga K "Beyond")] = some true) && decide (kitOne K (.ref (He.ga K "BadNumber")) (.ref (He.ga K "BadNumber")) = some true))))
abbrev pRf : Str × Option Str := ("_law_refused_right", none)
theorem facts {P : Program} {w : World} {h : Heap} {K : Frag} {mg : Str → Option Value} {fa : Addr} (X : K.In h) (G : h.Ns mainGlobals mg) (hfa : mg "law" = some (.ref fa)) (c : He.SaysX fas fns [] tfs exs w h K) :
    ∃ fd : FuncData, (∀ (s : Shared) (u : Value), BindsTo s fd ⟨[u], []⟩ [("script", u)]) ∧ ∀ base : Heap, K.In base → base.Ns mainGlobals mg → TabB base mg (He.cT K pRf).1 (He.cT K pRf).2 → FnG P w K mg base CX0 8 fa fd ["script"] (spLaw K [((He.cT K pRf).2, qn_rf)]) := by
  obtain ⟨m1, m2⟩ := two c.more
  obtain ⟨m2, m3⟩ := two m2
  obtain ⟨m3, m4⟩ := two m3
  obtain ⟨m4, m5⟩ := two m4
  obtain ⟨dI, FI⟩ := says_ini c 27 (x := "BadNumber") (q := "BadNumber.__init__") (s := iniB)
  obtain ⟨eB, xB⟩ := ec_of m1 m2 FI
  have g_gcd : mg "gcd" = some (.builtin "math.gcd") := mg_of X G (He.eqO_ok m3)
  obtain ⟨d_is_whole, F_is_whole⟩ := says_def c 0 (x := "is_whole") (s := s_wh)
  have b_is_whole : Binds K d_is_whole ["thing", "least", "most"] [] := F_is_whole.fun.binds fun _ _ _ _ _ _ us hl => match us, hl with | [_, _, _], _ => rfl
  have g_is_whole : mg "is_whole" = some (.ref (He.ga K "is_whole")) := says_glo X G c 0
  obtain ⟨d_is_name, F_is_name⟩ := says_def c 1 (x := "is_name") (s := s_na)
  have b_is_name : Binds K d_is_name ["thing"] [] := F_is_name.fun.binds fun _ _ _ _ _ _ us hl => match us, hl with | [_], _ => rfl
  have g_is_name : mg "is_name" = some (.ref (He.ga K "is_name")) := says_glo X G c 1
  obtain ⟨d_is_row, F_is_row⟩ := says_def c 2 (x := "is_row") (s := s_is_row)
  have b_is_row : Binds K d_is_row ["thing", "least", "most"] [] := F_is_row.fun.binds fun _ _ _ _ _ _ us hl => match us, hl with | [_, _, _], _ => rfl
  have g_is_row : mg "is_row" = some (.ref (He.ga K "is_row")) := says_glo X G c 2
  obtain ⟨d_is_share, F_is_share⟩ := says_def c 3 (x := "is_share") (s := s_is_share)
  have b_is_share : Binds K d_is_share ["thing"] [] := F_is_share.fun.binds fun _ _ _ _ _ _ us hl => match us, hl with | [_], _ => rfl
  have g_is_share : mg "is_share" = some (.ref (He.ga K "is_share")) := says_glo X G c 3
  obtain ⟨d_share, F_share⟩ := says_def c 4 (x := "share") (s := s_share)
  have b_share : Binds K d_share ["a", "b"] [] := F_share.fun.binds fun _ _ _ _ _ _ us hl => match us, hl with | [_, _], _ => rfl
  have g_share : mg "share" = some (.ref (He.ga K "share")) := says_glo X G c 4
  obtain ⟨d_plus, F_plus⟩ := says_def c 5 (x := "plus") (s := s_plus)
  have b_plus : Binds K d_plus ["one", "other"] [] := F_plus.fun.binds fun _ _ _ _ _ _ us hl => match us, hl with | [_, _], _ => rfl
  have g_plus : mg "plus" = some (.ref (He.ga K "plus")) := says_glo X G c 5
  obtain ⟨d_times, F_times⟩ := says_def c 6 (x := "times") (s := s_times)
  have b_times : Binds K d_times ["one", "other"] [] := F_times.fun.binds fun _ _ _ _ _ _ us hl => match us, hl with | [_, _], _ => rfl
  have g_times : mg "times" = some (.ref (He.ga K "times")) := says_glo X G c 6
  obtain ⟨d_need_share, F_need_share⟩ := says_def c 7 (x := "need_share") (s := s_need_share)
  have b_need_share : Binds K d_need_share ["thing"] [] := F_need_share.fun.binds fun _ _ _ _ _ _ us hl => match us, hl with | [_], _ => rfl
  have g_need_share : mg "need_share" = some (.ref (He.ga K "need_share")) := says_glo X G c 7
  obtain ⟨d_quick_plus, F_quick_plus⟩ := says_def c 8 (x := "quick_plus") (s := s_quick_plus)
  have b_quick_plus : Binds K d_quick_plus ["one", "other"] [] := F_quick_plus.fun.binds fun _ _ _ _ _ _ us hl => match us, hl with | [_, _], _ => rfl
  have g_quick_plus : mg "quick_plus" = some (.ref (He.ga K "quick_plus")) := says_glo X G c 8
  obtain ⟨d_quick_times, F_quick_times⟩ := says_def c 9 (x := "quick_times") (s := s_quick_times)
  have b_quick_times : Binds K d_quick_times ["one", "other"] [] := F_quick_times.fun.binds fun _ _ _ _ _ _ us hl => match us, hl with | [_, _], _ => rfl
  have g_quick_times : mg "quick_times" = some (.ref (He.ga K "quick_times")) := says_glo X G c 9
  obtain ⟨d_lowest, F_lowest⟩ := says_def c 10 (x := "_lowest") (s := s_lowest)
  have b_lowest : Binds K d_lowest ["a", "b"] [] := F_lowest.fun.binds fun _ _ _ _ _ _ us hl => match us, hl with | [_, _], _ => rfl
  have g_lowest : mg "_lowest" = some (.ref (He.ga K "_lowest")) := says_glo X G c 10
  obtain ⟨d_are_ints, F_are_ints⟩ := says_def c 11 (x := "_are_ints") (s := s_are_ints)
  have b_are_ints : Binds K d_are_ints ["things"] [] := F_are_ints.fun.binds fun _ _ _ _ _ _ us hl => match us, hl with | [_], _ => rfl
  have g_are_ints : mg "_are_ints" = some (.ref (He.ga K "_are_ints")) := says_glo X G c 11
  obtain ⟨d_law_begun, F_law_begun⟩ := says_def c 12 (x := "_law_begun") (s := s_law_begun)
  have b_law_begun : Binds K d_law_begun ["script"] [] := F_law_begun.fun.binds fun _ _ _ _ _ _ us hl => match us, hl with | [_], _ => rfl
  have g_law_begun : mg "_law_begun" = some (.ref (He.ga K "_law_begun")) := says_glo X G c 12
  obtain ⟨d_law_draw, F_law_draw⟩ := says_def c 13 (x := "_law_draw") (s := s_law_draw)
  have b_law_draw : Binds K d_law_draw ["m", "many"] [] := F_law_draw.fun.binds fun _ _ _ _ _ _ us hl => match us, hl with | [_, _], _ => rfl
  have g_law_draw : mg "_law_draw" = some (.ref (He.ga K "_law_draw")) := says_glo X G c 13
  obtain ⟨d_law_lowest, F_law_lowest⟩ := says_def c 14 (x := "_law_lowest") (s := s_lo)
  have b_law_lowest : Binds K d_law_lowest ["top", "under"] [] := F_law_lowest.fun.binds fun _ _ _ _ _ _ us hl => match us, hl with | [_, _], _ => rfl
  have g_law_lowest : mg "_law_lowest" = some (.ref (He.ga K "_law_lowest")) := says_glo X G c 14
  obtain ⟨d_law_number, F_law_number⟩ := says_def c 15 (x := "_law_number") (s := s_nu)
  have b_law_number : Binds K d_law_number ["m"] [] := F_law_number.fun.binds fun _ _ _ _ _ _ us hl => match us, hl with | [_], _ => rfl
  have g_law_number : mg "_law_number" = some (.ref (He.ga K "_law_number")) := says_glo X G c 15
  obtain ⟨d_law_bottom, F_law_bottom⟩ := says_def c 16 (x := "_law_bottom") (s := s_bo)
  have b_law_bottom : Binds K d_law_bottom ["m"] [] := F_law_bottom.fun.binds fun _ _ _ _ _ _ us hl => match us, hl with | [_], _ => rfl
  have g_law_bottom : mg "_law_bottom" = some (.ref (He.ga K "_law_bottom")) := says_glo X G c 16
  obtain ⟨d_law_fraction, F_law_fraction⟩ := says_def c 17 (x := "_law_fraction") (s := s_fr)
  have b_law_fraction : Binds K d_law_fraction ["m"] [] := F_law_fraction.fun.binds fun _ _ _ _ _ _ us hl => match us, hl with | [_], _ => rfl
  have g_law_fraction : mg "_law_fraction" = some (.ref (He.ga K "_law_fraction")) := says_glo X G c 17
  obtain ⟨d_law_is_number, F_law_is_number⟩ := says_def c 18 (x := "_law_is_number") (s := s_in)
  have b_law_is_number : Binds K d_law_is_number ["it"] [] := F_law_is_number.fun.binds fun _ _ _ _ _ _ us hl => match us, hl with | [_], _ => rfl
  have g_law_is_number : mg "_law_is_number" = some (.ref (He.ga K "_law_is_number")) := says_glo X G c 18
  obtain ⟨d_law_is_fraction, F_law_is_fraction⟩ := says_def c 19 (x := "_law_is_fraction") (s := s_if)
  have b_law_is_fraction : Binds K d_law_is_fraction ["it"] [] := F_law_is_fraction.fun.binds fun _ _ _ _ _ _ us hl => match us, hl with | [_], _ => rfl
  have g_law_is_fraction : mg "_law_is_fraction" = some (.ref (He.ga K "_law_is_fraction")) := says_glo X G c 19
  obtain ⟨d_law_strange, F_law_strange⟩ := says_def c 20 (x := "_law_strange") (s := s_sg)
  have b_law_strange : Binds K d_law_strange ["m", "x"] [] := F_law_strange.fun.binds fun _ _ _ _ _ _ us hl => match us, hl with | [_, _], _ => rfl
  have g_law_strange : mg "_law_strange" = some (.ref (He.ga K "_law_strange")) := says_glo X G c 20
  obtain ⟨d_law_text, F_law_text⟩ := says_def c 21 (x := "_law_text") (s := s_tx)
  have b_law_text : Binds K d_law_text ["m"] [] := F_law_text.fun.binds fun _ _ _ _ _ _ us hl => match us, hl with | [_], _ => rfl
  have g_law_text : mg "_law_text" = some (.ref (He.ga K "_law_text")) := says_glo X G c 21
  obtain ⟨d_law_is_name, F_law_is_name⟩ := says_def c 22 (x := "_law_is_name") (s := s_nm)
  have b_law_is_name : Binds K d_law_is_name ["it"] [] := F_law_is_name.fun.binds fun _ _ _ _ _ _ us hl => match us, hl with | [_], _ => rfl
  have g_law_is_name : mg "_law_is_name" = some (.ref (He.ga K "_law_is_name")) := says_glo X G c 22
  obtain ⟨d_law_said, F_law_said⟩ := says_def c 23 (x := "_law_said") (s := s_sd)
  have b_law_said : Binds K d_law_said ["deed"] [] := F_law_said.fun.binds fun _ _ _ _ _ _ us hl => match us, hl with | [_], _ => rfl
  have g_law_said : mg "_law_said" = some (.ref (He.ga K "_law_said")) := says_glo X G c 23
  obtain ⟨d_law_refused_right, F_law_refused_right⟩ := says_def c 24 (x := "_law_refused_right") (s := s_rf)
  have b_law_refused_right : Binds K d_law_refused_right ["it", "x"] [] := F_law_refused_right.fun.binds fun _ _ _ _ _ _ us hl => match us, hl with | [_, _], _ => rfl
  have g_law_refused_right : mg "_law_refused_right" = some (.ref (He.ga K "_law_refused_right")) := says_glo X G c 24
  obtain ⟨d_law_rules_right, F_law_rules_right⟩ := says_def c 25 (x := "_law_rules_right") (s := s_ru)
  have b_law_rules_right : Binds K d_law_rules_right ["x", "y", "z"] [] := F_law_rules_right.fun.binds fun _ _ _ _ _ _ us hl => match us, hl with | [_, _, _], _ => rfl
  have g_law_rules_right : mg "_law_rules_right" = some (.ref (He.ga K "_law_rules_right")) := says_glo X G c 25
  obtain ⟨d_law, F_law⟩ := says_def c 26 (x := "law") (s := s_law)
  have b_law : Binds K d_law ["script"] [] := F_law.fun.binds fun _ _ _ _ _ _ us hl => match us, hl with | [_], _ => rfl
  have g_law : mg "law" = some (.ref (He.ga K "law")) := says_glo X G c 26
  have g_BadNumber : mg "BadNumber" = some (.ref (He.ga K "BadNumber")) := says_glo X G c 27
  have g_Refused : mg "Refused" = some (.ref (He.ga K "Refused")) := says_glo X G c 28
  have g_Barred : mg "Barred" = some (.ref (He.ga K "Barred")) := says_glo X G c 29
  have g_Beyond : mg "Beyond" = some (.ref (He.ga K "Beyond")) := says_glo X G c 30
  have n_len : mg "len" = none := says_free X G c 31
  have n_abs : mg "abs" = none := says_free X G c 32
  have n_isinstance : mg "isinstance" = none := says_free X G c 33
  have n_type : mg "type" = none := says_free X G c 34
  have n_int : mg "int" = none := says_free X G c 35
  have n_bool : mg "bool" = none := says_free X G c 36
  have n_str : mg "str" = none := says_free X G c 37
  have n_tuple : mg "tuple" = none := says_free X G c 38
  have n_all : mg "all" = none := says_free X G c 39
  have n_range : mg "range" = none := says_free X G c 40
  have n_repr : mg "repr" = none := says_free X G c 41
  obtain ⟨t8, g_LONGEST⟩ := says_int X G c 42 (x := "_LONGEST") (n := 8)
  obtain ⟨tL, g_LETTERS⟩ := says_str X G c 43 (x := "_LETTERS") (z := alph)
  have e := hfa.symm.trans g_law
  cases e
  have B : BNum K mg (He.ga K "BadNumber") (He.ma K (He.ga K "BadNumber") "__init__") := ⟨eB, g_BadNumber⟩
  have C : CTxt K mg (He.ga K "BadNumber") (He.ma K (He.ga K "BadNumber") "__init__") (.ref (He.ga K "Refused")) (.ref (He.ga K "Barred")) (.ref (He.ga K "Beyond")) := ⟨B, g_Refused, g_Barred, g_Beyond, of_decide_eq_true m4, of_decide_eq_true m5, xB⟩
  refine ⟨d_law, fun s u => ?_, fun base KB NB TB => ?_⟩
  · obtain ⟨oc, od, kV, doc, pm, an, ct, osl, rfl, lk, hcd⟩ := F_law.ex
    exact .of_eq rfl
  · have Gdw : FnOk P w K mg base CX0 7 _ d_law_draw ["m", "many"] spDraw := (ok_draw (k := 0) F_law_draw.fun n_len).mono (by decide)
    have Gbg : FnOk P w K mg base CX0 7 _ d_law_begun ["script"] (spBegun K) := (ok_begun (k := 0) F_law_begun.fun).mono (by decide)
    have Gnu : FnOk P w K mg base CX0 7 _ d_law_number ["m"] (spNum fun _ => True) := (ok_nu (k := 0) F_law_number.fun F_law_draw.fun b_law_draw g_law_draw n_len).mono (by decide)
    have Gbo : FnOk P w K mg base CX0 7 _ d_law_bottom ["m"] (spNum fun r => r ≠ 0) := (ok_bo (k := 0) F_law_bottom.fun F_law_number.fun b_law_number g_law_number F_law_draw.fun b_law_draw g_law_draw n_len).mono (by decide)
    have Glo : FnOk P w K mg base CX0 7 _ d_law_lowest ["top", "under"] spLow := (ok_lo (k := 0) F_law_lowest.fun n_abs).mono (by decide)
    have Gfr : FnOk P w K mg base CX0 7 _ d_law_fraction ["m"] spFrac := (ok_fr (k := 0) F_law_fraction.fun F_law_number.fun b_law_number g_law_number F_law_bottom.fun b_law_bottom g_law_bottom F_law_lowest.fun b_law_lowest g_law_lowest F_law_draw.fun b_law_draw g_law_draw n_len n_abs).mono (by decide)
    have Gin : FnOk P w K mg base CX0 6 _ d_law_is_number ["it"] (spIn K) := (ok_in (k := 0) F_law_is_number.fun n_isinstance n_int n_bool).mono (by decide)
    have Gif : FnOk P w K mg base CX0 6 _ d_law_is_fraction ["it"] (spIf K) := (ok_if (k := 0) F_law_is_fraction.fun F_law_is_number.fun b_law_is_number g_law_is_number F_law_lowest.fun b_law_lowest g_law_lowest n_abs n_len n_isinstance n_int n_bool n_tuple).mono (by decide)
    have Gsg : FnOk P w K mg base CX0 7 _ d_law_strange ["m", "x"] spSg := (ok_sg (k := 0) F_law_strange.fun F_law_draw.fun b_law_draw g_law_draw n_len).mono (by decide)
    have Gtx : FnOk P w K mg base CX0 7 _ d_law_text ["m"] spTx := (ok_tx (k := 0) F_law_text.fun F_law_draw.fun b_law_draw g_law_draw n_len n_range).mono (by decide)
    have Gnm : FnOk P w K mg base CX0 7 _ d_law_is_name ["it"] spNm := (ok_nm (k := 0) F_law_is_name.fun n_len n_isinstance n_str).mono (by decide)
    have Gna : FnOk P w K mg base CX0 7 _ d_is_name ["thing"] spNm := (ok_na (k := 0) F_is_name.fun n_type n_str n_len n_all g_LONGEST g_LETTERS).mono (by decide)
    have Gwh : FnOk P w K mg base CX0 7 _ d_is_whole ["thing", "least", "most"] spWh := (ok_wh (k := 0) F_is_whole.fun n_type n_int).mono (by decide)
    have Gsh : FnOk P w K mg base CX0 2 _ d_is_share ["thing"] spSh := ok_is_share (k := 0) F_is_share.fun F_is_row.fun b_is_row g_is_row F_are_ints.fun b_are_ints g_are_ints n_type n_tuple n_len n_all n_int g_gcd
    have Gshr : FnOk P w K mg base (L2.CX P w) 3 _ d_share ["a", "b"] (spShare (He.ga K "BadNumber")) := (ok_share (k := 0) F_share.fun F_are_ints.fun b_are_ints g_are_ints F_lowest.fun b_lowest g_lowest B n_type n_all n_int g_gcd).mono (by decide)
    have Gne : FnOk P w K mg base (L2.CX P w) 3 _ d_need_share ["thing"] (spNeed (He.ga K "BadNumber")) := ok_need_share (k := 0) F_need_share.fun Gsh F_is_share.kp b_is_share g_is_share B
    have Gpl : FnOk P w K mg base (L2.CX P w) 4 _ d_plus ["one", "other"] (spBin (He.ga K "BadNumber") fadd) := ok_plus (k := 0) F_plus.fun Gne F_need_share.kp b_need_share g_need_share ((ok_quick_plus (k := 1) F_quick_plus.fun (ok_lowest (k := 0) F_lowest.fun g_gcd) F_lowest.kp b_lowest g_lowest).mono (by decide)) F_quick_plus.kp b_quick_plus g_quick_plus
    have Gti : FnOk P w K mg base (L2.CX P w) 4 _ d_times ["one", "other"] (spBin (He.ga K "BadNumber") fmul) := ok_times (k := 0) F_times.fun Gne F_need_share.kp b_need_share g_need_share ((ok_quick_times (k := 1) F_quick_times.fun (ok_lowest (k := 0) F_lowest.fun g_gcd) F_lowest.kp b_lowest g_lowest).mono (by decide)) F_quick_times.kp b_quick_times g_quick_times
    have Gpl0 : FnOk P w K mg base CX0 4 _ d_plus ["one", "other"] (spTwo fadd) := bin_two Gpl fun h1 h2 e => h1.add0 h2 e
    have Gti0 : FnOk P w K mg base CX0 4 _ d_times ["one", "other"] (spTwo fmul) := bin_two Gti fun h1 h2 e => h1.mul0 h2 e
    have Gru : FnOk P w K mg base CX0 5 _ d_law_rules_right ["x", "y", "z"] spRu := ok_ru F_law_rules_right.fun Gpl0 F_plus.kp b_plus g_plus Gti0 F_times.kp b_times g_times
    have Gshq : FnOk P w K mg base CX0 7 _ d_share ["a", "b"] spShr := (FnOk.to (FnOk.quiet Gshr) (sp2 := spShr) fun vs H Q E z => by
      obtain ⟨a, b, rfl, b0, bb, q⟩ := z
      exact ⟨_, _, rfl, .int _, .int _, .inl ⟨a, b, rfl, rfl, b0, bb, q⟩⟩).mono (by decide)
    have ks : KBn K d_share ["a", "b"] 0 ["b", "a"] swU swV := kbn2 F_share.fun fun _ _ _ _ _ _ _ _ => rfl
    have kp : KBn K d_plus ["one", "other"] 0 ["other", "one"] swU swV := kbn2 F_plus.fun fun _ _ _ _ _ _ _ _ => rfl
    have kt : KBn K d_times ["one", "other"] 0 ["other", "one"] swU swV := kbn2 F_times.fun fun _ _ _ _ _ _ _ _ => rfl
    have R : RfTxt P w K mg base 4 (He.ga K "BadNumber") _ _ _ _ _ _ (He.cT K pRf).1 (He.cT K pRf).2 d_plus d_times d_share d_law_said d_law_is_number d_law_is_fraction :=
      { G_pl := Gpl, k_pl := F_plus.kp, b_pl := b_plus, g_pl := g_plus, G_ti := Gti, k_ti := F_times.kp, b_ti := b_times, n_ti := kt, g_ti := g_times, G_sh := Gshr.mono (by decide), k_sh := F_share.kp, b_sh := b_share, n_sh := ks, g_sh := g_share,
        F_sd := F_law_said.fun, b_sd := b_law_said, g_sd := g_law_said, G_if := Gif, k_if := F_law_is_fraction.kp, b_if := b_law_is_fraction, g_if := g_law_is_fraction, G_in := Gin, k_in := F_law_is_number.kp, b_in := b_law_is_number, g_in := g_law_is_number, n_isinstance := n_isinstance, TB := TB }
    have Grf : FnOk P w K mg base CX0 7 _ d_law_refused_right ["it", "x"] (spRef [((He.cT K pRf).2, qn_rf)]) := ok_rf C F_law_refused_right R
    have L : LwTxt P w K mg base 7 (He.cT K pRf).2 _ _ _ _ _ _ _ _ _ _ _ _ _ _ _ _ _ _ _ d_is_name d_is_share d_is_whole d_law_begun d_law_bottom d_law_draw d_law_fraction d_law_is_fraction d_law_is_name d_law_is_number d_law_lowest d_law_number d_law_refused_right d_law_rules_right d_law_strange d_law_text d_plus d_share d_times :=
      { G_is_name := Gna, G_is_share := (Gsh.mono (by decide)).to2 (fun _ _ _ _ z => shB z), G_is_whole := Gwh, G_law_begun := Gbg, G_law_bottom := Gbo, G_law_draw := Gdw, G_law_fraction := Gfr, G_law_is_fraction := (Gif.mono (by decide)).to2 (fun _ _ _ _ z => ifB z), G_law_is_name := Gnm,
        G_law_is_number := (Gin.mono (by decide)).to2 (fun _ _ _ _ z => inB z), G_law_lowest := Glo, G_law_number := Gnu, G_law_refused_right := Grf, G_law_rules_right := Gru.mono (by decide), G_law_strange := Gsg, G_law_text := Gtx, G_plus := Gpl0.mono (by decide), G_share := Gshq, G_times := Gti0.mono (by decide),
        k_is_name := F_is_name.kp, b_is_name := b_is_name, g_is_name := g_is_name,
        k_is_share := F_is_share.kp, b_is_share := b_is_share, g_is_share := g_is_share,
        k_is_whole := F_is_whole.kp, b_is_whole := b_is_whole, g_is_whole := g_is_whole,
        k_law_begun := F_law_begun.kp, b_law_begun := b_law_begun, g_law_begun := g_law_begun,
        k_law_bottom := F_law_bottom.kp, b_law_bottom := b_law_bottom, g_law_bottom := g_law_bottom,
        k_law_draw := F_law_draw.kp, b_law_draw := b_law_draw, g_law_draw := g_law_draw,
        k_law_fraction := F_law_fraction.kp, b_law_fraction := b_law_fraction, g_law_fraction := g_law_fraction,
        k_law_is_fraction := F_law_is_fraction.kp, b_law_is_fraction := b_law_is_fraction, g_law_is_fraction := g_law_is_fraction,
        k_law_is_name := F_law_is_name.kp, b_law_is_name := b_law_is_name, g_law_is_name := g_law_is_name,
        k_law_is_number := F_law_is_number.kp, b_law_is_number := b_law_is_number, g_law_is_number := g_law_is_number,
        k_law_lowest := F_law_lowest.kp, b_law_lowest := b_law_lowest, g_law_lowest := g_law_lowest,
        k_law_number := F_law_number.kp, b_law_number := b_law_number, g_law_number := g_law_number,
        k_law_refused_right := F_law_refused_right.kp, b_law_refused_right := b_law_refused_right, g_law_refused_right := g_law_refused_right,
        k_law_rules_right := F_law_rules_right.kp, b_law_rules_right := b_law_rules_right, g_law_rules_right := g_law_rules_right,
        k_law_strange := F_law_strange.kp, b_law_strange := b_law_strange, g_law_strange := g_law_strange,
        k_law_text := F_law_text.kp, b_law_text := b_law_text, g_law_text := g_law_text,
        k_plus := F_plus.kp, b_plus := b_plus, g_plus := g_plus,
        k_share := F_share.kp, b_share := b_share, g_share := g_share,
        k_times := F_times.kp, b_times := b_times, g_times := g_times,
        kn_share := ks, kn_plus := kp, n_range := n_range, n_repr := n_repr }
    exact ok_law L F_law.fun
end L2.K2

set_option Elab.async false
set_option linter.all false
set_option maxRecDepth 100000
set_option maxHeartbeats 0
namespace L2.K2
open PySem PySem.W PySem.Calls PyProof.Rows
abbrev RR : OpenRow := OpenLaw.row PySem.Challenge.rw_slotsure_k02_whole_fractions_and_names
abbrev qv : Program := view RR.prog [0, 37]
abbrev hk : Hook := He.hookX 6 fas fns [] tfs exs
def obX (s : SharedT) : He.AlX := He.obsX 6 fas fns [] tfs exs (HandSHeadRun.getT s)
theorem obX_eq (s : SharedT) : obX s = hk.obs s.abs := He.obsX_eq (HandSHeadRun.getT_eq s)
def names : List PySem.Str := ["Refused", "Barred", "Beyond", "BadNumber", "_LONGEST", "_LETTERS", "is_whole", "is_name", "is_row", "is_share", "share", "plus", "times", "need_share", "quick_plus", "quick_times", "_lowest", "_are_ints", "_law_begun", "_law_draw", "_law_lowest", "_law_number", "_law_bottom", "_law_fraction", "_law_is_number", "_law_is_fraction", "_law_strange", "_law_text", "_law_is_name", "_law_said", "_law_refused_right", "_law_rules_right"]
theorem run (w : World) : HandSHeadRun.RunEqI RR qv hk obX 8000 names w := by
  unfold HandSHeadRun.RunEqI
  kernel_rfl
end L2.K2

set_option Elab.async false
set_option linter.all false
set_option maxRecDepth 100000
open PySem PySem.W PySem.Calls PyProof.Rows
set_option maxRecDepth 100000 in
set_option maxHeartbeats 20000000 in
theorem PySem.Challenge.cw_slotsure_k02_whole_fractions_and_names_holds : PySem.Challenge.rw_slotsure_k02_whole_fractions_and_names.Holds := by
  w_on; o_law
  refine HandSHeadRun.head_imp (r := L2.K2.RR) (q := L2.K2.qv) (H := L2.K2.hk) (ob := L2.K2.obX) (M := 8000) (loose := L2.K2.names) (d := HandSHeadRun.topDef L2.K2.RR.prog 37) (kwd := []) L2.K2.obX_eq
    L2.K2.run (by kernel_rfl) (by kernel_rfl) (by kernel_rfl) (by rfl) (by first | assumption | decide +kernel) (by decide +kernel) ⟨rfl, rfl, rfl, rfl, rfl, by decide +kernel⟩ ?hw ?hc
  case hw => w_witness2
  case hc =>
    refine L2.Sl.walk_GT (l := PySem.Challenge.rw_slotsure_k02_whole_fractions_and_names) (n := 63) (k := 8) (x := "script") (CX := fun _ => L2.CX0) rfl (by decide) (by kernel_rfl) ⟨rfl, by decide, by decide⟩ ?F (fun _ _ _ _ _ z => z)
    intro w mg fa h Y G hmg0
    obtain ⟨K, KX, c⟩ := Y
    have hmg : mg ("law" : PySem.Str) = some (.ref fa) := by
      have e : (HandSHeadRun.topDef L2.K2.RR.prog 37).name = ("law" : PySem.Str) := by kernel_rfl
      rw [← e]
      exact hmg0
    obtain ⟨fd, hb, hF⟩ := L2.K2.facts (P := PySem.Challenge.rw_slotsure_k02_whole_fractions_and_names.prog) (w := w) KX G hmg c
    refine ⟨K, KX, fd, [He.cT K L2.K2.pRf], L2.K2.spLaw K [((He.cT K L2.K2.pRf).2, L2.K2.qn_rf)], fun p hp => ?_, hb, fun H a ns hl hT hS => ?_, fun base KB NB TB => hF base KB NB (TB _ (by simp))⟩
    · rw [List.mem_singleton.mp hp]
      exact L2.Sl.says_tab KX c L2.K2.pRf (List.mem_singleton.mpr rfl)
    · refine ⟨a, ns, rfl, hS, hl, fun p hp => ?_, fun _ => rfl⟩
      rw [List.mem_singleton.mp hp]
      exact LamX.TabS.nil (hT _ (by simp))
