import PyProof.Rows.All
import Wide.All
import OpenK.AllK
import Wide.FinOn
import HandS.ForMost
import HandS.Wide
import HandS.IsInst
import HandS.Iter
import KE.GoesMore
import KE.GoesEnum
import HandS.Zip
import HandS.SortRule
import HandS.WideBits
import HandS.Deep
import HandS.FStr
import HandS.Text
import PyProof.Rows.StrIntSpec
import PySem.Challenge.RW_cornerhouse_k03_cones_hold
set_option Elab.async false
set_option linter.all false
set_option maxRecDepth 100000
namespace CH
/-! ### the greatest number that divides all -/
def gl (xs : List Int) : Nat := xs.foldl (fun g x => Nat.gcd g x.natAbs) 0
theorem gcd_turn {a b : Nat} : Nat.gcd b (a % b) = Nat.gcd a b := by
  rw [Nat.gcd_comm b, ← Nat.gcd_rec, Nat.gcd_comm]
theorem gl_snoc (xs : List Int) (x : Int) : gl (xs ++ [x]) = Nat.gcd (gl xs) x.natAbs := by
  unfold gl
  rw [List.foldl_append]
  rfl
theorem gl_take {xs : List Int} {i : Nat} {x : Int} (h : xs[i]? = some x) : gl (xs.take (i + 1)) = Nat.gcd (gl (xs.take i)) x.natAbs := by
  rw [List.take_add_one, h, Option.toList_some, gl_snoc]
theorem foldg_dvd : ∀ (xs : List Int) (g : Nat), (xs.foldl (fun g x => Nat.gcd g x.natAbs) g ∣ g) ∧ ∀ x ∈ xs, xs.foldl (fun g x => Nat.gcd g x.natAbs) g ∣ x.natAbs
  | [], g => ⟨Nat.dvd_refl _, fun _ h => nomatch h⟩
  | y :: ys, g => by
    obtain ⟨h1, h2⟩ := foldg_dvd ys (Nat.gcd g y.natAbs)
    refine ⟨Nat.dvd_trans h1 (Nat.gcd_dvd_left _ _), fun x hx => ?_⟩
    rcases List.mem_cons.mp hx with e | hx
    · rw [e]
      exact Nat.dvd_trans h1 (Nat.gcd_dvd_right _ _)
    · exact h2 x hx
theorem gl_dvd {xs : List Int} {x : Int} (h : x ∈ xs) : (gl xs : Int) ∣ x := Int.ofNat_dvd_left.mpr ((foldg_dvd xs 0).2 x h)
theorem foldg_great : ∀ (xs : List Int) (g d : Nat), d ∣ g → (∀ x ∈ xs, d ∣ x.natAbs) → d ∣ xs.foldl (fun g x => Nat.gcd g x.natAbs) g
  | [], g, d, h, _ => h
  | y :: ys, g, d, h, hx => foldg_great ys _ d (Nat.dvd_gcd h (hx y List.mem_cons_self)) fun x q => hx x (List.mem_cons_of_mem _ q)
theorem gl_great {xs : List Int} {d : Nat} (h : ∀ x ∈ xs, d ∣ x.natAbs) : d ∣ gl xs := foldg_great xs 0 d (Nat.dvd_zero d) h
theorem gl_zero {xs : List Int} (h : gl xs = 0) : ∀ x ∈ xs, x = 0 := fun x hx => by
  have := gl_dvd hx
  rw [h] at this
  exact Int.zero_dvd.mp this
theorem gl_le {xs : List Int} {x : Int} (h : x ∈ xs) (n : x ≠ 0) : gl xs ≤ x.natAbs := Nat.le_of_dvd (Int.natAbs_pos.mpr n) ((foldg_dvd xs 0).2 x h)
/-- in lowest terms -/
def low (xs : List Int) : List Int := if gl xs < 2 then xs else xs.map (fun x => x / (gl xs : Int))
theorem low_length (xs : List Int) : (low xs).length = xs.length := by
  unfold low
  split
  · rfl
  · exact List.length_map _
theorem low_eq (xs : List Int) : low xs = xs.map (fun x => x / ((if (1 : Int) > (gl xs : Int) then 1 else (gl xs : Int)))) := by
  unfold low
  by_cases h : gl xs < 2
  · rw [if_pos h]
    have e : (if (1 : Int) > (gl xs : Int) then 1 else (gl xs : Int)) = 1 := by
      split <;> omega
    rw [e]
    simp
  · rw [if_neg h, if_neg (by omega)]
/-! ### rows of numbers -/
abbrev Vec := List Int
def dot : Vec → Vec → Int
  | x :: xs, y :: ys => x * y + dot xs ys
  | _, _ => 0
/-- a times x and b times y -/
def lin (a : Int) (x : Vec) (b : Int) (y : Vec) : Vec := List.zipWith (fun u v => a * u + b * v) x y
def zeros (n : Nat) : Vec := List.replicate n 0
def at0 (x : Vec) (p : Nat) : Int := x.getD p 0
def sml (c : Int) (x : Vec) : Vec := x.map (fun u => c * u)
def neg (x : Vec) : Vec := x.map (fun u => -u)
theorem lin_length {a b : Int} {x y : Vec} (h : x.length = y.length) : (lin a x b y).length = x.length := by
  unfold lin
  rw [List.length_zipWith, h, Nat.min_self]
theorem sml_length (c : Int) (x : Vec) : (sml c x).length = x.length := List.length_map _
theorem neg_length (x : Vec) : (neg x).length = x.length := List.length_map _
theorem zeros_length (n : Nat) : (zeros n).length = n := List.length_replicate
theorem at0_cons_zero (x : Int) (xs : Vec) : at0 (x :: xs) 0 = x := rfl
theorem at0_cons_succ (x : Int) (xs : Vec) (p : Nat) : at0 (x :: xs) (p + 1) = at0 xs p := rfl
theorem at0_nil (p : Nat) : at0 [] p = 0 := rfl
theorem at0_get {x : Vec} {p : Nat} {v : Int} (h : x[p]? = some v) : at0 x p = v := by
  unfold at0
  rw [List.getD_eq_getElem?_getD, h]
  rfl
theorem get_at0 {x : Vec} {p : Nat} (h : p < x.length) : x[p]? = some (at0 x p) := by
  unfold at0
  rw [List.getD_eq_getElem?_getD, List.getElem?_eq_getElem h]
  rfl
theorem at0_out {x : Vec} {p : Nat} (h : x.length ≤ p) : at0 x p = 0 := by
  unfold at0
  rw [List.getD_eq_getElem?_getD, List.getElem?_eq_none h]
  rfl
theorem vec_ext : ∀ {x y : Vec}, x.length = y.length → (∀ p, at0 x p = at0 y p) → x = y
  | [], [], _, _ => rfl
  | [], _ :: _, h, _ => nomatch h
  | _ :: _, [], h, _ => nomatch h
  | x :: xs, y :: ys, h, e => by
    have e0 : x = y := e 0
    have e1 : xs = ys := vec_ext (Nat.succ.inj h) fun p => e (p + 1)
    rw [e0, e1]
theorem at0_lin {a b : Int} : ∀ {x y : Vec} (p : Nat), x.length = y.length → at0 (lin a x b y) p = a * at0 x p + b * at0 y p
  | [], [], p, _ => by simp [lin, at0_nil]
  | [], _ :: _, _, h => nomatch h
  | _ :: _, [], _, h => nomatch h
  | x :: xs, y :: ys, 0, _ => rfl
  | x :: xs, y :: ys, p + 1, h => at0_lin (x := xs) (y := ys) p (Nat.succ.inj h)
theorem at0_sml (c : Int) : ∀ (x : Vec) (p : Nat), at0 (sml c x) p = c * at0 x p
  | [], p => by simp [sml, at0_nil]
  | x :: xs, 0 => rfl
  | x :: xs, p + 1 => at0_sml c xs p
theorem at0_neg : ∀ (x : Vec) (p : Nat), at0 (neg x) p = - at0 x p
  | [], p => by simp [neg, at0_nil]
  | x :: xs, 0 => rfl
  | x :: xs, p + 1 => at0_neg xs p
theorem at0_zeros : ∀ (n p : Nat), at0 (zeros n) p = 0
  | 0, p => rfl
  | n + 1, 0 => rfl
  | n + 1, p + 1 => at0_zeros n p
theorem dot_lin {a b : Int} : ∀ {x y : Vec} (r : Vec), x.length = y.length → dot (lin a x b y) r = a * dot x r + b * dot y r
  | [], [], r, _ => by simp [lin, dot]
  | [], _ :: _, _, h => nomatch h
  | _ :: _, [], _, h => nomatch h
  | x :: xs, y :: ys, [], h => by simp [lin, dot]
  | x :: xs, y :: ys, r :: rs, h => by
    have ih := dot_lin (a := a) (b := b) (x := xs) (y := ys) rs (Nat.succ.inj h)
    show (a * x + b * y) * r + dot (lin a xs b ys) rs = a * (x * r + dot xs rs) + b * (y * r + dot ys rs)
    rw [ih]
    grind
theorem dot_comm : ∀ x y : Vec, dot x y = dot y x
  | [], [] => rfl
  | [], _ :: _ => rfl
  | _ :: _, [] => rfl
  | x :: xs, y :: ys => by
    show x * y + dot xs ys = y * x + dot ys xs
    rw [dot_comm xs ys, Int.mul_comm]
theorem dot_sml (c : Int) : ∀ (x r : Vec), dot (sml c x) r = c * dot x r
  | [], r => by simp [sml, dot]
  | x :: xs, [] => by simp [sml, dot]
  | x :: xs, r :: rs => by
    show c * x * r + dot (sml c xs) rs = c * (x * r + dot xs rs)
    rw [dot_sml c xs rs]
    grind
theorem dot_zeros : ∀ (n : Nat) (r : Vec), dot (zeros n) r = 0
  | 0, r => by simp [zeros, dot]
  | n + 1, [] => rfl
  | n + 1, r :: rs => by
    show 0 * r + dot (zeros n) rs = 0
    rw [dot_zeros n rs]
    omega
theorem dot_neg (x r : Vec) : dot (neg x) r = - dot x r := by
  have h := dot_sml (-1) x r
  have e : sml (-1) x = neg x := by
    unfold sml neg
    congr 1
    funext u
    omega
  rw [e] at h
  omega
/-- in lowest terms is x over what divides all -/
theorem low_spec (x : Vec) : ∃ g : Int, 0 < g ∧ x = sml g (low x) := by
  by_cases h : gl x < 2
  · refine ⟨1, by decide, ?_⟩
    have e : low x = x := if_pos h
    rw [e]
    unfold sml
    simp
  · refine ⟨gl x, by omega, ?_⟩
    have e : low x = x.map (fun u => u / (gl x : Int)) := if_neg h
    rw [e]
    have q : x.map (fun u => (gl x : Int) * (u / (gl x : Int))) = x.map id := List.map_congr_left fun u hu => Int.mul_ediv_cancel' (gl_dvd hu)
    unfold sml
    rw [List.map_map]
    exact (List.map_id x).symm.trans q.symm
theorem low_zero {x : Vec} (h : ∀ u ∈ low x, u = 0) : ∀ u ∈ x, u = 0 := by
  obtain ⟨g, hg, e⟩ := low_spec x
  intro u hu
  rw [e] at hu
  obtain ⟨v, hv, rfl⟩ := List.mem_map.mp hu
  rw [h v hv, Int.mul_zero]
/-! ### sums of rows -/
def comb (n : Nat) : Vec → List Vec → Vec
  | c :: cs, v :: vs => lin c v 1 (comb n cs vs)
  | _, _ => zeros n
theorem comb_length {n : Nat} : ∀ (cs : Vec) {vs : List Vec}, (∀ v ∈ vs, v.length = n) → (comb n cs vs).length = n
  | [], _, _ => zeros_length n
  | _ :: _, [], _ => zeros_length n
  | c :: cs, v :: vs, h => by
    have ih := comb_length (n := n) cs (vs := vs) fun w hw => h w (List.mem_cons_of_mem _ hw)
    have hv := h v List.mem_cons_self
    show (lin c v 1 (comb n cs vs)).length = n
    rw [lin_length (by rw [hv, ih]), hv]
theorem at0_comb {n : Nat} (p : Nat) : ∀ (cs : Vec) {vs : List Vec}, (∀ v ∈ vs, v.length = n) → at0 (comb n cs vs) p = dot cs (vs.map (fun v => at0 v p))
  | [], _, _ => at0_zeros n p
  | _ :: _, [], _ => at0_zeros n p
  | c :: cs, v :: vs, h => by
    have hh : ∀ w ∈ vs, w.length = n := fun w hw => h w (List.mem_cons_of_mem _ hw)
    have ih := at0_comb (n := n) p cs hh
    have hv := h v List.mem_cons_self
    show at0 (lin c v 1 (comb n cs vs)) p = c * at0 v p + dot cs (vs.map (fun v => at0 v p))
    rw [at0_lin p (by rw [hv, comb_length cs hh]), ih, Int.one_mul]
/-- what rows make, by fractions of any sign -/
inductive Span (n : Nat) (S : Vec → Prop) : Vec → Prop
  | zero : Span n S (zeros n)
  | of {v : Vec} : S v → Span n S v
  | lin {x y : Vec} (a b : Int) : Span n S x → Span n S y → Span n S (lin a x b y)
  | div {x : Vec} {c : Int} : c ≠ 0 → x.length = n → Span n S (sml c x) → Span n S x
theorem Span.length {n : Nat} {S : Vec → Prop} (hS : ∀ v, S v → v.length = n) {x : Vec} (h : Span n S x) : x.length = n := by
  induction h with
  | zero => exact zeros_length n
  | of hv => exact hS _ hv
  | lin a b _ _ h1 h2 => rw [lin_length (h1.trans h2.symm), h1]
  | div _ e _ _ => exact e
theorem Span.trans {n : Nat} {S T : Vec → Prop} (hT : ∀ v, S v → Span n T v) {x : Vec} (h : Span n S x) : Span n T x := by
  induction h with
  | zero => exact .zero
  | of hv => exact hT _ hv
  | lin a b _ _ h1 h2 => exact .lin a b h1 h2
  | div hc e _ ih => exact .div hc e ih
theorem Span.mono {n : Nat} {S T : Vec → Prop} (hT : ∀ v, S v → T v) {x : Vec} (h : Span n S x) : Span n T x := h.trans fun v hv => .of (hT v hv)
theorem sml_one (x : Vec) : sml 1 x = x := by
  unfold sml
  simp
theorem sml_lin {a b c : Int} {x y : Vec} (h : x.length = y.length) : sml c (lin a x b y) = lin (c * a) x (c * b) y := by
  refine vec_ext (by rw [sml_length, lin_length h, lin_length h]) fun p => ?_
  rw [at0_sml, at0_lin p h, at0_lin p h]
  grind
theorem lin_sml {a b c d : Int} {x y : Vec} (h : x.length = y.length) : lin a (sml c x) b (sml d y) = lin (a * c) x (b * d) y := by
  refine vec_ext (by rw [lin_length (by rw [sml_length, sml_length, h]), lin_length h, sml_length]) fun p => ?_
  rw [at0_lin p (by rw [sml_length, sml_length, h]), at0_lin p h, at0_sml, at0_sml]
  grind
theorem Span.sml {n : Nat} {S : Vec → Prop} (hS : ∀ v, S v → v.length = n) {x : Vec} (c : Int) (h : Span n S x) : Span n S (sml c x) := by
  have e : CH.sml c x = CH.lin c x 0 (zeros n) := by
    have hl := h.length hS
    refine vec_ext (by rw [sml_length, lin_length (by rw [hl, zeros_length])]) fun p => ?_
    rw [at0_sml, at0_lin p (by rw [hl, zeros_length])]
    grind
  rw [e]
  exact .lin _ _ h .zero
theorem Span.low {n : Nat} {S : Vec → Prop} (hS : ∀ v, S v → v.length = n) {x : Vec} (h : Span n S x) : Span n S (low x) := by
  obtain ⟨g, hg, e⟩ := low_spec x
  refine .div (c := g) (by omega) (by rw [low_length, h.length hS]) ?_
  rw [← e]
  exact h
theorem Span.unlow {n : Nat} {S : Vec → Prop} (hS : ∀ v, S v → v.length = n) {x : Vec} (h : Span n S (CH.low x)) : Span n S x := by
  obtain ⟨g, hg, e⟩ := low_spec x
  rw [e]
  exact h.sml hS g
/-- a member of the span of a list is a sum of it, some times -/
theorem Span.comb {n : Nat} {vs : List Vec} (hl : ∀ v ∈ vs, v.length = n) {x : Vec} (h : Span n (· ∈ vs) x) : ∃ (c : Int) (cs : Vec), c ≠ 0 ∧ cs.length = vs.length ∧ CH.sml c x = comb n cs vs := by
  have coord : ∀ (cs : Vec) (p : Nat), at0 (CH.comb n cs vs) p = dot cs (vs.map (fun v => at0 v p)) := fun cs p => at0_comb p cs hl
  induction h with
  | zero =>
    refine ⟨1, zeros vs.length, by decide, zeros_length _, vec_ext ?_ fun p => ?_⟩
    · rw [sml_length, zeros_length, comb_length _ hl]
    · rw [coord, dot_zeros, at0_sml, at0_zeros, Int.mul_zero]
  | of hv =>
    rename_i v
    obtain ⟨i, hi⟩ := List.getElem?_of_mem hv
    have hlt : i < vs.length := (List.getElem?_eq_some_iff.mp hi).1
    have unit : ∀ (ys : Vec) (i : Nat), dot ((List.range ys.length).map (fun j => if j = i then (1 : Int) else 0)) ys = at0 ys i := by
      intro ys
      induction ys with
      | nil => intro i; simp [dot, at0_nil]
      | cons y ys ih =>
        intro i
        rw [List.length_cons, List.range_succ_eq_map, List.map_cons, List.map_map]
        cases i with
        | zero =>
          have z : dot (List.map ((fun j => if j = 0 then (1 : Int) else 0) ∘ Nat.succ) (List.range ys.length)) ys = 0 := by
            have e : List.map ((fun j => if j = 0 then (1 : Int) else 0) ∘ Nat.succ) (List.range ys.length) = zeros ys.length := by
              have : ((fun j => if j = 0 then (1 : Int) else 0) ∘ Nat.succ) = fun _ => 0 := by
                funext j
                simp
              rw [this]
              unfold zeros
              rw [List.map_const', List.length_range]
            rw [e, dot_zeros]
          show (if (0 : Nat) = 0 then (1 : Int) else 0) * y + dot _ ys = y
          rw [z]
          simp
        | succ i =>
          have e : ((fun j => if j = i + 1 then (1 : Int) else 0) ∘ Nat.succ) = fun j => if j = i then (1 : Int) else 0 := by
            funext j
            simp
          show (if (0 : Nat) = i + 1 then (1 : Int) else 0) * y + dot _ ys = at0 ys i
          rw [e, ih i]
          simp
    refine ⟨1, (List.range vs.length).map (fun j => if j = i then (1 : Int) else 0), by decide, by rw [List.length_map, List.length_range], vec_ext ?_ fun p => ?_⟩
    · rw [sml_length, hl v hv, comb_length _ hl]
    · have u := unit (vs.map (fun v => at0 v p)) i
      rw [List.length_map] at u
      rw [coord, u, at0_sml, Int.one_mul]
      refine (at0_get ?_).symm
      rw [List.getElem?_map, hi]
      rfl
  | lin a b h1 h2 ih1 ih2 =>
    rename_i x y
    obtain ⟨c, cs, hc, lc, ec⟩ := ih1
    obtain ⟨d, ds, hd, ld, ed⟩ := ih2
    have lx := h1.length (S := (· ∈ vs)) hl
    have ly := h2.length (S := (· ∈ vs)) hl
    refine ⟨c * d, CH.lin (a * d) cs (b * c) ds, Int.mul_ne_zero hc hd, by rw [lin_length (lc.trans ld.symm), lc], vec_ext ?_ fun p => ?_⟩
    · rw [sml_length, lin_length (lx.trans ly.symm), comb_length _ hl, lx]
    · have e1 : c * at0 x p = dot cs (vs.map (fun v => at0 v p)) := by rw [← at0_sml, ec, coord]
      have e2 : d * at0 y p = dot ds (vs.map (fun v => at0 v p)) := by rw [← at0_sml, ed, coord]
      rw [coord, dot_lin _ (lc.trans ld.symm), ← e1, ← e2, at0_sml, at0_lin p (lx.trans ly.symm)]
      grind
  | div hc e h ih =>
    rename_i x c
    obtain ⟨d, ds, hd, ld, ed⟩ := ih
    refine ⟨d * c, ds, Int.mul_ne_zero hd hc, ld, ?_⟩
    rw [← ed]
    refine vec_ext (by rw [sml_length, sml_length, sml_length]) fun p => ?_
    rw [at0_sml, at0_sml, at0_sml]
    grind
/-- none of them is made of the others -/
def Indep (n : Nat) (vs : List Vec) : Prop := ∀ cs : Vec, cs.length = vs.length → comb n cs vs = zeros n → ∀ c ∈ cs, c = 0
/-- more unknowns than equations: there is a solution that is not all noughts -/
theorem nontriv : ∀ (m : Nat) (M : List Vec), M.length < m → (∀ r ∈ M, r.length = m) → ∃ x : Vec, x.length = m ∧ (∃ u ∈ x, u ≠ 0) ∧ ∀ r ∈ M, dot r x = 0
  | 0, M, h, _ => absurd h (Nat.not_lt_zero _)
  | m + 1, M, h, hl => by
    by_cases hz : ∀ r ∈ M, at0 r 0 = 0
    · refine ⟨1 :: zeros m, by simp [zeros_length], ⟨1, List.mem_cons_self, by decide⟩, fun r hr => ?_⟩
      have hr0 := hz r hr
      cases r with
      | nil => rfl
      | cons u us =>
        have hu : u = 0 := hr0
        show u * 1 + dot us (zeros m) = 0
        rw [dot_comm, dot_zeros, hu]
        rfl
    · obtain ⟨r, hr, r0⟩ : ∃ r ∈ M, at0 r 0 ≠ 0 := by
        refine Classical.byContradiction fun z => hz fun r hr => Classical.byContradiction fun q => z ⟨r, hr, q⟩
      obtain ⟨A, B, rfl⟩ := List.append_of_mem hr
      cases r with
      | nil => exact absurd rfl r0
      | cons p ps =>
        have hp : p ≠ 0 := r0
        have lps : ps.length = m := Nat.succ.inj (hl _ hr)
        have hAB : ∀ v ∈ A ++ B, v ∈ A ++ (p :: ps) :: B := fun v hv => by
          rcases List.mem_append.mp hv with q | q
          · exact List.mem_append_left _ q
          · exact List.mem_append_right _ (List.mem_cons_of_mem _ q)
        have tl : ∀ v ∈ A ++ B, v.tail.length = m := fun v hv => by rw [List.length_tail, hl v (hAB v hv)]; rfl
        obtain ⟨y, hy, ⟨u, hu, u0⟩, hs⟩ := nontriv m ((A ++ B).map fun v => lin p v.tail (-(at0 v 0)) ps) (by
          rw [List.length_map]
          rw [List.length_append, List.length_cons] at h
          rw [List.length_append]
          omega) (fun v hv => by
          obtain ⟨w, hw, rfl⟩ := List.mem_map.mp hv
          rw [lin_length (by rw [tl w hw, lps]), tl w hw])
        refine ⟨(-(dot ps y)) :: sml p y, by rw [List.length_cons, sml_length, hy], ⟨p * u, List.mem_cons_of_mem _ (List.mem_map.mpr ⟨u, hu, rfl⟩), Int.mul_ne_zero hp u0⟩, fun v hv => ?_⟩
        have dsy : ∀ w : Vec, dot w (sml p y) = p * dot w y := fun w => by rw [dot_comm, dot_sml, dot_comm]
        have main : v ∈ A ++ B → dot v (-(dot ps y) :: sml p y) = 0 := fun hm => by
          have e := hs _ (List.mem_map.mpr ⟨v, hm, rfl⟩)
          rw [dot_lin y (by rw [tl v hm, lps])] at e
          cases v with
          | nil => rfl
          | cons w ws =>
            show w * (-(dot ps y)) + dot ws (sml p y) = 0
            rw [dsy]
            have e' : p * dot ws y + -w * dot ps y = 0 := e
            grind
        rcases List.mem_append.mp hv with q | q
        · exact main (List.mem_append_left _ q)
        · rcases List.mem_cons.mp q with q | q
          · subst q
            show p * (-(dot ps y)) + dot ps (sml p y) = 0
            rw [dsy]
            grind
          · exact main (List.mem_append_right _ q)
theorem comb_lin {n : Nat} {vs : List Vec} (hl : ∀ v ∈ vs, v.length = n) {a b : Int} {x y : Vec} (h : x.length = y.length) : comb n (lin a x b y) vs = lin a (comb n x vs) b (comb n y vs) := by
  refine vec_ext (by rw [comb_length _ hl, lin_length (by rw [comb_length _ hl, comb_length _ hl]), comb_length _ hl]) fun p => ?_
  rw [at0_comb p _ hl, dot_lin _ h, at0_lin p (by rw [comb_length _ hl, comb_length _ hl]), at0_comb p _ hl, at0_comb p _ hl]
theorem comb_zeros {n m : Nat} {vs : List Vec} (hl : ∀ v ∈ vs, v.length = n) : comb n (zeros m) vs = zeros n := by
  refine vec_ext (by rw [comb_length _ hl, zeros_length]) fun p => ?_
  rw [at0_comb p _ hl, dot_zeros, at0_zeros]
/-- of independent rows that others make there are not more than of these -/
theorem steinitz {n : Nat} {B S : List Vec} (hB : ∀ v ∈ B, v.length = n) (hS : ∀ v ∈ S, v.length = n) (ind : Indep n B) (sp : ∀ b ∈ B, Span n (· ∈ S) b) : B.length ≤ S.length := by
  refine Nat.le_of_not_lt fun hlt => ?_
  -- each b, some times, as a sum of S
  have coefs : ∀ B' : List Vec, (∀ b ∈ B', Span n (· ∈ S) b) → ∃ (cs : Vec) (as : List Vec), cs.length = B'.length ∧ as.length = B'.length ∧ (∀ c ∈ cs, c ≠ 0) ∧ (∀ a ∈ as, a.length = S.length) ∧
      ∀ x : Vec, x.length = B'.length → comb n (List.zipWith (· * ·) x cs) B' = comb n (comb S.length x as) S := by
    intro B'
    induction B' with
    | nil =>
      intro _
      refine ⟨[], [], rfl, rfl, (fun _ h => nomatch h), (fun _ h => nomatch h), fun x hx => ?_⟩
      have hx0 : x = [] := List.length_eq_zero_iff.mp hx
      subst hx0
      show zeros n = comb n (zeros S.length) S
      rw [comb_zeros hS]
    | cons b B' ih =>
      intro h
      obtain ⟨cs, as, l1, l2, h1, h2, h3⟩ := ih fun b hb => h b (List.mem_cons_of_mem _ hb)
      obtain ⟨c, a, c0, la, ea⟩ := (h b List.mem_cons_self).comb hS
      refine ⟨c :: cs, a :: as, by simp [l1], by simp [l2], fun d hd => ?_, fun d hd => ?_, fun x hx => ?_⟩
      · rcases List.mem_cons.mp hd with e | e
        · rw [e]; exact c0
        · exact h1 d e
      · rcases List.mem_cons.mp hd with e | e
        · rw [e]; exact la
        · exact h2 d e
      · cases x with
        | nil => exact nomatch hx
        | cons y ys =>
          have hys : ys.length = B'.length := Nat.succ.inj hx
          show lin (y * c) b 1 (comb n (List.zipWith (· * ·) ys cs) B') = comb n (lin y a 1 (comb S.length ys as)) S
          rw [h3 ys hys, comb_lin hS (by rw [la, comb_length _ h2]), ← ea]
          have lb : b.length = n := (h b List.mem_cons_self).length hS
          refine vec_ext ?_ fun p => ?_
          · rw [lin_length (by rw [lb, comb_length _ hS]), lin_length (by rw [sml_length, lb, comb_length _ hS]), sml_length]
          · rw [at0_lin p (by rw [lb, comb_length _ hS]), at0_lin p (by rw [sml_length, lb, comb_length _ hS]), at0_sml]
            grind
  obtain ⟨cs, as, l1, l2, h1, h2, h3⟩ := coefs B sp
  obtain ⟨x, hx, ⟨u, hu, u0⟩, hs⟩ := nontriv B.length ((List.range S.length).map fun j => as.map fun a => at0 a j) (by rw [List.length_map, List.length_range]; exact hlt) (fun r hr => by
    obtain ⟨j, _, rfl⟩ := List.mem_map.mp hr
    rw [List.length_map, l2])
  have z : comb S.length x as = zeros S.length := by
    refine vec_ext (by rw [comb_length _ h2, zeros_length]) fun p => ?_
    rw [at0_zeros]
    by_cases hp : p < S.length
    · rw [at0_comb p _ h2, dot_comm]
      exact hs _ (List.mem_map.mpr ⟨p, List.mem_range.mpr hp, rfl⟩)
    · exact at0_out (by rw [comb_length _ h2]; omega)
  have e := h3 x hx
  rw [z, comb_zeros hS] at e
  have all := ind _ (by rw [List.length_zipWith, hx, l1, Nat.min_self]) e
  obtain ⟨i, hi⟩ := List.getElem?_of_mem hu
  have hil : i < x.length := (List.getElem?_eq_some_iff.mp hi).1
  have hc : i < cs.length := by rw [l1, ← hx]; exact hil
  have m1 : (List.zipWith (· * ·) x cs)[i]? = some (u * cs[i]) := by
    rw [List.getElem?_zipWith, hi, List.getElem?_eq_getElem hc]
  have := all _ (List.mem_of_getElem? m1)
  rcases Int.mul_eq_zero.mp this with q | q
  · exact u0 q
  · exact h1 _ (List.getElem_mem hc) q
/-- triangular rows are independent: each has a place where it is not nought and all behind it are -/
theorem indep_tri {n : Nat} : ∀ {vs : List Vec}, (∀ v ∈ vs, v.length = n) → (∀ A v B, vs = A ++ v :: B → ∃ p, at0 v p ≠ 0 ∧ ∀ w ∈ B, at0 w p = 0) → Indep n vs
  | [], _, _ => fun cs hcs _ c hc => by
    have := List.length_eq_zero_iff.mp hcs
    subst this
    exact nomatch hc
  | v :: vs, hl, h => fun cs hcs e c hc => by
    cases cs with
    | nil => exact nomatch hc
    | cons d ds =>
      have hvs : ∀ w ∈ vs, w.length = n := fun w hw => hl w (List.mem_cons_of_mem _ hw)
      obtain ⟨p, p0, pz⟩ := h [] v vs rfl
      have lds : ds.length = vs.length := Nat.succ.inj hcs
      have ep : at0 (comb n (d :: ds) (v :: vs)) p = 0 := by rw [e, at0_zeros]
      rw [at0_comb p _ hl] at ep
      have z : dot ds (vs.map (fun w => at0 w p)) = 0 := by
        have e1 : vs.map (fun w => at0 w p) = zeros vs.length := by
          have : vs.map (fun w => at0 w p) = vs.map (fun _ => (0 : Int)) := List.map_congr_left pz
          rw [this]
          unfold zeros
          rw [List.map_const']
        rw [e1, dot_comm, dot_zeros]
      have e2 : d * at0 v p + dot ds (vs.map (fun w => at0 w p)) = 0 := ep
      rw [z, Int.add_zero] at e2
      have d0 : d = 0 := (Int.mul_eq_zero.mp e2).resolve_right p0
      rcases List.mem_cons.mp hc with q | q
      · rw [q]; exact d0
      · refine indep_tri hvs (fun A w B hA => h (v :: A) w B (by rw [hA]; rfl)) ds lds ?_ c q
        have e3 : lin d v 1 (comb n ds vs) = zeros n := e
        rw [d0] at e3
        refine vec_ext (by rw [comb_length _ hvs, zeros_length]) fun r => ?_
        have e4 : at0 (lin 0 v 1 (comb n ds vs)) r = at0 (zeros n) r := by rw [e3]
        rw [at0_lin r (by rw [hl v List.mem_cons_self, comb_length _ hvs])] at e4
        rw [← e4]
        grind
/-! ### the program's own words about rows of numbers -/
def blend (x : Vec) (a : Int) (y : Vec) (b : Int) : Vec := low (lin a x b y)
def clear (x : Vec) (p : Nat) (l : Vec) : Vec := if at0 x p = 0 then x else blend x (at0 l p) l (-(at0 x p))
abbrev Lead := Nat × Vec
def redu (x : Vec) (L : List Lead) : Vec := L.foldl (fun r q => clear r q.1 q.2) x
def firstp (x : Vec) : Option Nat := x.findIdx? (fun u => u != 0)
def posed (r : Vec) (p : Nat) : Vec := if at0 r p < 0 then neg r else r
def echStep (L : List Lead) (row : Vec) : List Lead :=
  match firstp (low (redu row L)) with
  | none => L
  | some p => L.map (fun q => (q.1, clear q.2 p (posed (low (redu row L)) p))) ++ [(p, posed (low (redu row L)) p)]
def ech (rows : List Vec) : List Lead := rows.foldl echStep []
theorem blend_length {x y : Vec} {a b : Int} (h : x.length = y.length) : (blend x a y b).length = x.length := by
  unfold blend
  rw [low_length, lin_length h]
theorem blend_spec {x y : Vec} {a b : Int} : ∃ g : Int, 0 < g ∧ sml g (blend x a y b) = lin a x b y := by
  obtain ⟨g, hg, e⟩ := low_spec (lin a x b y)
  exact ⟨g, hg, e.symm⟩
theorem clear_spec {x l : Vec} {p : Nat} (h : x.length = l.length) (hl : 0 < at0 l p) :
    ∃ g a b : Int, 0 < g ∧ 0 < a ∧ sml g (clear x p l) = lin a x b l ∧ (clear x p l).length = x.length ∧ at0 (clear x p l) p = 0 := by
  by_cases hx : at0 x p = 0
  · have e : clear x p l = x := if_pos hx
    refine ⟨1, 1, 0, by decide, by decide, ?_, by rw [e], by rw [e]; exact hx⟩
    rw [e, sml_one]
    refine vec_ext (by rw [lin_length h]) fun q => ?_
    rw [at0_lin q h]
    grind
  · have e : clear x p l = blend x (at0 l p) l (-(at0 x p)) := if_neg hx
    obtain ⟨g, hg, eg⟩ := blend_spec (x := x) (y := l) (a := at0 l p) (b := -(at0 x p))
    refine ⟨g, at0 l p, -(at0 x p), hg, hl, by rw [e, eg], by rw [e, blend_length h], ?_⟩
    have e2 : g * at0 (clear x p l) p = 0 := by
      rw [← at0_sml, e, eg, at0_lin p h]
      grind
    exact (Int.mul_eq_zero.mp e2).resolve_left (by omega)
/-- places at which both are nought stay so; where the lead is nought the sign stays -/
theorem clear_at {x l : Vec} {p r : Nat} (h : x.length = l.length) (hl : 0 < at0 l p) (hr : at0 l r = 0) : ∃ g a : Int, 0 < g ∧ 0 < a ∧ g * at0 (clear x p l) r = a * at0 x r := by
  obtain ⟨g, a, b, hg, ha, e, _, _⟩ := clear_spec h hl
  refine ⟨g, a, hg, ha, ?_⟩
  rw [← at0_sml, e, at0_lin r h, hr]
  grind
theorem clear_dot {x l r : Vec} {p : Nat} (h : x.length = l.length) (hl : 0 < at0 l p) (hr : dot l r = 0) : ∃ g a : Int, 0 < g ∧ 0 < a ∧ g * dot (clear x p l) r = a * dot x r := by
  obtain ⟨g, a, b, hg, ha, e, _, _⟩ := clear_spec h hl
  refine ⟨g, a, hg, ha, ?_⟩
  rw [← dot_sml, e, dot_lin r h, hr]
  grind
theorem clear_span {n : Nat} {S : Vec → Prop} (hS : ∀ v, S v → v.length = n) {x l : Vec} {p : Nat} (lx : x.length = n) (ll : l.length = n) (hl : 0 < at0 l p) (sx : Span n S x) (sl : Span n S l) : Span n S (clear x p l) := by
  obtain ⟨g, a, b, hg, ha, e, len, _⟩ := clear_spec (lx.trans ll.symm) hl
  refine .div (c := g) (by omega) (by rw [len, lx]) ?_
  rw [e]
  exact .lin a b sx sl
theorem clear_unspan {n : Nat} {S : Vec → Prop} (hS : ∀ v, S v → v.length = n) {x l : Vec} {p : Nat} (lx : x.length = n) (ll : l.length = n) (hl : 0 < at0 l p) (sc : Span n S (clear x p l)) (sl : Span n S l) : Span n S x := by
  obtain ⟨g, a, b, hg, ha, e, len, _⟩ := clear_spec (lx.trans ll.symm) hl
  refine .div (c := a) (by omega) lx ?_
  have e2 : sml a x = lin g (clear x p l) (-b) l := by
    refine vec_ext (by rw [sml_length, lin_length (by rw [len, lx, ll]), len]) fun q => ?_
    have e3 : g * at0 (clear x p l) q = a * at0 x q + b * at0 l q := by rw [← at0_sml, e, at0_lin q (lx.trans ll.symm)]
    rw [at0_sml, at0_lin q (by rw [len, lx, ll])]
    grind
  rw [e2]
  exact .lin g (-b) sc sl
/-- leads: each above nought at its place, where the others are nought -/
structure Leads (n : Nat) (L : List Lead) : Prop where
  len : ∀ q ∈ L, q.2.length = n
  pos : ∀ q ∈ L, 0 < at0 q.2 q.1
  apart : L.Pairwise (fun q r => at0 r.2 q.1 = 0 ∧ at0 q.2 r.1 = 0)
theorem Leads.tail {n : Nat} {q : Lead} {L : List Lead} (h : Leads n (q :: L)) : Leads n L :=
  ⟨fun r hr => h.len r (List.mem_cons_of_mem _ hr), fun r hr => h.pos r (List.mem_cons_of_mem _ hr), (List.pairwise_cons.mp h.apart).2⟩
theorem redu_length {n : Nat} : ∀ {L : List Lead} {x : Vec}, Leads n L → x.length = n → (redu x L).length = n
  | [], x, _, hx => hx
  | q :: L, x, h, hx => by
    obtain ⟨_, _, _, _, _, _, len, _⟩ := clear_spec (x := x) (l := q.2) (p := q.1) (by rw [hx, h.len q List.mem_cons_self]) (h.pos q List.mem_cons_self)
    exact redu_length (L := L) (x := clear x q.1 q.2) h.tail (len.trans hx)
/-- a place at which all leads are nought -/
theorem redu_at {n : Nat} : ∀ {L : List Lead} {x : Vec} {r : Nat}, Leads n L → x.length = n → (∀ q ∈ L, at0 q.2 r = 0) → ∃ g a : Int, 0 < g ∧ 0 < a ∧ g * at0 (redu x L) r = a * at0 x r
  | [], x, r, _, hx, _ => ⟨1, 1, by decide, by decide, rfl⟩
  | q :: L, x, r, h, hx, hz => by
    have hq : x.length = q.2.length := by rw [hx, h.len q List.mem_cons_self]
    obtain ⟨_, _, _, _, _, _, len, _⟩ := clear_spec (x := x) (l := q.2) (p := q.1) hq (h.pos q List.mem_cons_self)
    obtain ⟨g, a, hg, ha, e⟩ := clear_at (x := x) (p := q.1) (r := r) hq (h.pos q List.mem_cons_self) (hz q List.mem_cons_self)
    obtain ⟨g2, a2, hg2, ha2, e2⟩ := redu_at (L := L) (x := clear x q.1 q.2) (r := r) h.tail (len.trans hx) fun s hs => hz s (List.mem_cons_of_mem _ hs)
    refine ⟨g2 * g, a2 * a, Int.mul_pos hg2 hg, Int.mul_pos ha2 ha, ?_⟩
    show g2 * g * at0 (redu (clear x q.1 q.2) L) r = a2 * a * at0 x r
    grind
theorem redu_dot {n : Nat} : ∀ {L : List Lead} {x r : Vec}, Leads n L → x.length = n → (∀ q ∈ L, dot q.2 r = 0) → ∃ g a : Int, 0 < g ∧ 0 < a ∧ g * dot (redu x L) r = a * dot x r
  | [], x, r, _, hx, _ => ⟨1, 1, by decide, by decide, rfl⟩
  | q :: L, x, r, h, hx, hz => by
    have hq : x.length = q.2.length := by rw [hx, h.len q List.mem_cons_self]
    obtain ⟨_, _, _, _, _, _, len, _⟩ := clear_spec (x := x) (l := q.2) (p := q.1) hq (h.pos q List.mem_cons_self)
    obtain ⟨g, a, hg, ha, e⟩ := clear_dot (x := x) (p := q.1) (r := r) hq (h.pos q List.mem_cons_self) (hz q List.mem_cons_self)
    obtain ⟨g2, a2, hg2, ha2, e2⟩ := redu_dot (L := L) (x := clear x q.1 q.2) (r := r) h.tail (len.trans hx) fun s hs => hz s (List.mem_cons_of_mem _ hs)
    refine ⟨g2 * g, a2 * a, Int.mul_pos hg2 hg, Int.mul_pos ha2 ha, ?_⟩
    show g2 * g * dot (redu (clear x q.1 q.2) L) r = a2 * a * dot x r
    grind
/-- at the leads' own places nothing is left -/
theorem redu_clear {n : Nat} : ∀ {L : List Lead} {x : Vec}, Leads n L → x.length = n → ∀ q ∈ L, at0 (redu x L) q.1 = 0
  | [], _, _, _, q, hq => nomatch hq
  | l :: L, x, h, hx, q, hq => by
    have hl : x.length = l.2.length := by rw [hx, h.len l List.mem_cons_self]
    obtain ⟨_, _, _, _, _, _, len, z⟩ := clear_spec (x := x) (l := l.2) (p := l.1) hl (h.pos l List.mem_cons_self)
    rcases List.mem_cons.mp hq with e | hq
    · subst e
      obtain ⟨g, a, hg, ha, e⟩ := redu_at (L := L) (x := clear x q.1 q.2) (r := q.1) h.tail (len.trans hx) fun s hs => ((List.pairwise_cons.mp h.apart).1 s hs).1
      rw [z, Int.mul_zero] at e
      exact (Int.mul_eq_zero.mp e).resolve_left (by omega)
    · exact redu_clear (L := L) (x := clear x l.1 l.2) h.tail (len.trans hx) q hq
theorem redu_span {n : Nat} {S : Vec → Prop} (hS : ∀ v, S v → v.length = n) : ∀ {L : List Lead} {x : Vec}, Leads n L → x.length = n → Span n S x → (∀ q ∈ L, Span n S q.2) → Span n S (redu x L)
  | [], _, _, _, sx, _ => sx
  | q :: L, x, h, hx, sx, sl => by
    have hq := h.len q List.mem_cons_self
    obtain ⟨_, _, _, _, _, _, len, _⟩ := clear_spec (x := x) (l := q.2) (p := q.1) (by rw [hx, hq]) (h.pos q List.mem_cons_self)
    exact redu_span hS (L := L) (x := clear x q.1 q.2) h.tail (len.trans hx) (clear_span hS hx hq (h.pos q List.mem_cons_self) sx (sl q List.mem_cons_self)) fun r hr => sl r (List.mem_cons_of_mem _ hr)
theorem redu_unspan {n : Nat} {S : Vec → Prop} (hS : ∀ v, S v → v.length = n) : ∀ {L : List Lead} {x : Vec}, Leads n L → x.length = n → Span n S (redu x L) → (∀ q ∈ L, Span n S q.2) → Span n S x
  | [], _, _, _, sx, _ => sx
  | q :: L, x, h, hx, sx, sl => by
    have hq := h.len q List.mem_cons_self
    obtain ⟨_, _, _, _, _, _, len, _⟩ := clear_spec (x := x) (l := q.2) (p := q.1) (by rw [hx, hq]) (h.pos q List.mem_cons_self)
    exact clear_unspan hS hx hq (h.pos q List.mem_cons_self) (redu_unspan hS (L := L) (x := clear x q.1 q.2) h.tail (len.trans hx) sx fun r hr => sl r (List.mem_cons_of_mem _ hr)) (sl q List.mem_cons_self)
theorem firstp_none {x : Vec} (h : firstp x = none) : ∀ u ∈ x, u = 0 := fun u hu => by
  unfold firstp at h
  have := List.findIdx?_eq_none_iff.mp h u hu
  simpa using this
theorem firstp_some {x : Vec} {p : Nat} (h : firstp x = some p) : p < x.length ∧ at0 x p ≠ 0 ∧ ∀ q, q < p → at0 x q = 0 := by
  unfold firstp at h
  obtain ⟨hlt, h1, h2⟩ := List.findIdx?_eq_some_iff_getElem.mp h
  refine ⟨hlt, ?_, fun q hq => ?_⟩
  · rw [at0_get (List.getElem?_eq_getElem hlt)]
    simpa using h1
  · have := h2 q hq
    rw [at0_get (List.getElem?_eq_getElem (by omega : q < x.length))]
    simpa using this
theorem zeros_of {x : Vec} (h : ∀ u ∈ x, u = 0) : x = zeros x.length := by
  refine vec_ext (by rw [zeros_length]) fun p => ?_
  rw [at0_zeros]
  by_cases hp : p < x.length
  · rw [at0_get (List.getElem?_eq_getElem hp)]
    exact h _ (List.getElem_mem hp)
  · exact at0_out (by omega)
theorem posed_length (r : Vec) (p : Nat) : (posed r p).length = r.length := by
  unfold posed
  split
  · exact neg_length r
  · rfl
theorem posed_pos {r : Vec} {p : Nat} (h : at0 r p ≠ 0) : 0 < at0 (posed r p) p := by
  unfold posed
  split
  · rw [at0_neg]; omega
  · omega
theorem posed_at {r : Vec} {p q : Nat} (h : at0 r q = 0) : at0 (posed r p) q = 0 := by
  unfold posed
  split
  · rw [at0_neg, h]; rfl
  · exact h
theorem neg_sml (x : Vec) : neg x = sml (-1) x := by
  unfold neg sml
  congr 1
  funext u
  omega
theorem neg_neg' (x : Vec) : neg (neg x) = x := by
  refine vec_ext (by rw [neg_length, neg_length]) fun p => ?_
  rw [at0_neg, at0_neg]
  omega
theorem posed_span {n : Nat} {S : Vec → Prop} (hS : ∀ v, S v → v.length = n) {r : Vec} {p : Nat} (h : Span n S r) : Span n S (posed r p) := by
  unfold posed
  split
  · rw [neg_sml]; exact h.sml hS _
  · exact h
theorem posed_unspan {n : Nat} {S : Vec → Prop} (hS : ∀ v, S v → v.length = n) {r : Vec} {p : Nat} (h : Span n S (posed r p)) : Span n S r := by
  unfold posed at h
  split at h
  · rw [← neg_neg' r, neg_sml]; exact h.sml hS _
  · exact h
/-- what the leads of some rows are -/
structure Ech (n : Nat) (rows : List Vec) (L : List Lead) : Prop extends Leads n L where
  out : ∀ q ∈ L, Span n (· ∈ rows) q.2
  back : ∀ r ∈ rows, Span n (· ∈ L.map (·.2)) r
theorem Leads.lens {n : Nat} {L : List Lead} (h : Leads n L) : ∀ v ∈ L.map (·.2), v.length = n := fun v hv => by
  obtain ⟨q, hq, rfl⟩ := List.mem_map.mp hv
  exact h.len q hq
theorem Leads.indep {n : Nat} {L : List Lead} (h : Leads n L) : Indep n (L.map (·.2)) := by
  refine indep_tri h.lens fun A v B e => ?_
  obtain ⟨A', B', e1, eA, eB⟩ := List.map_eq_append_iff.mp e
  obtain ⟨q, C, e2, e3, e4⟩ := List.map_eq_cons_iff.mp eB
  subst e1 e2 e3
  refine ⟨q.1, ?_, fun w hw => ?_⟩
  · have := h.pos q (List.mem_append_right _ List.mem_cons_self)
    omega
  · rw [← e4] at hw
    obtain ⟨r, hr, rfl⟩ := List.mem_map.mp hw
    have := (List.pairwise_append.mp h.apart).2.1
    exact ((List.pairwise_cons.mp this).1 r hr).1
theorem echStep_ok {n : Nat} {rows : List Vec} {L : List Lead} {row : Vec} (h : Ech n rows L) (hr : ∀ r ∈ rows, r.length = n) (hrow : row.length = n) : Ech n (rows ++ [row]) (echStep L row) := by
  have hS : ∀ v, v ∈ rows ++ [row] → v.length = n := fun v hv => by
    rcases List.mem_append.mp hv with q | q
    · exact hr v q
    · rw [List.mem_singleton.mp q]; exact hrow
  have up : ∀ v, Span n (· ∈ rows) v → Span n (· ∈ rows ++ [row]) v := fun v hv => hv.mono fun w hw => List.mem_append_left _ hw
  have lr := redu_length h.toLeads hrow
  have rz := redu_clear h.toLeads hrow
  have srow : Span n (· ∈ rows ++ [row]) row := .of (List.mem_append_right _ (List.mem_singleton.mpr rfl))
  have sred : Span n (· ∈ rows ++ [row]) (redu row L) := redu_span hS h.toLeads hrow srow fun q hq => up _ (h.out q hq)
  unfold echStep
  cases hf : firstp (low (redu row L)) with
  | none =>
    have z : redu row L = zeros n := by
      have := zeros_of (low_zero (firstp_none hf))
      rw [lr] at this
      exact this
    refine ⟨h.toLeads, fun q hq => up _ (h.out q hq), fun r hr' => ?_⟩
    rcases List.mem_append.mp hr' with q | q
    · exact h.back r q
    · rw [List.mem_singleton.mp q]
      refine redu_unspan h.lens h.toLeads hrow ?_ fun q hq => .of (List.mem_map.mpr ⟨q, hq, rfl⟩)
      rw [z]
      exact .zero
  | some p =>
    obtain ⟨hp, p0, _⟩ := firstp_some hf
    rw [low_length, lr] at hp
    show Ech n (rows ++ [row]) (L.map (fun q => (q.1, clear q.2 p (posed (low (redu row L)) p))) ++ [(p, posed (low (redu row L)) p)])
    -- the new lead
    have ll : (posed (low (redu row L)) p).length = n := by rw [posed_length, low_length, lr]
    have lp := posed_pos p0
    have lz : ∀ q ∈ L, at0 (posed (low (redu row L)) p) q.1 = 0 := fun q hq => by
      refine posed_at ?_
      obtain ⟨g, hg, e⟩ := low_spec (redu row L)
      have e1 : g * at0 (low (redu row L)) q.1 = 0 := by rw [← at0_sml, ← e, rz q hq]
      exact (Int.mul_eq_zero.mp e1).resolve_left (by omega)
    have sl : Span n (· ∈ rows ++ [row]) (posed (low (redu row L)) p) := posed_span hS (sred.low hS)
    generalize hl : posed (low (redu row L)) p = l at *
    have cl : ∀ q ∈ L, (clear q.2 p l).length = n ∧ 0 < at0 (clear q.2 p l) q.1 ∧ at0 (clear q.2 p l) p = 0 ∧ ∀ r : Nat, at0 q.2 r = 0 → at0 l r = 0 → at0 (clear q.2 p l) r = 0 := fun q hq => by
      have hq2 := h.len q hq
      obtain ⟨_, _, _, _, _, _, len, z⟩ := clear_spec (x := q.2) (l := l) (p := p) (by rw [hq2, ll]) lp
      refine ⟨len.trans hq2, ?_, z, fun r h1 h2 => ?_⟩
      · obtain ⟨g, a, hg, ha, e⟩ := clear_at (x := q.2) (p := p) (r := q.1) (by rw [hq2, ll]) lp (lz q hq)
        have h3 : 0 < g * at0 (clear q.2 p l) q.1 := by rw [e]; exact Int.mul_pos ha (h.pos q hq)
        exact Int.pos_of_mul_pos_right h3 (by omega)
      · obtain ⟨g, a, hg, ha, e⟩ := clear_at (x := q.2) (p := p) (r := r) (by rw [hq2, ll]) lp h2
        rw [h1, Int.mul_zero] at e
        exact (Int.mul_eq_zero.mp e).resolve_left (by omega)
    have L' : Leads n (L.map (fun q => (q.1, clear q.2 p l)) ++ [(p, l)]) := by
      refine ⟨fun q hq => ?_, fun q hq => ?_, ?_⟩
      · rcases List.mem_append.mp hq with z | z
        · obtain ⟨r, hr, rfl⟩ := List.mem_map.mp z
          exact (cl r hr).1
        · rw [List.mem_singleton.mp z]; exact ll
      · rcases List.mem_append.mp hq with z | z
        · obtain ⟨r, hr, rfl⟩ := List.mem_map.mp z
          exact (cl r hr).2.1
        · rw [List.mem_singleton.mp z]; exact lp
      · rw [List.pairwise_append]
        refine ⟨?_, List.pairwise_singleton _ _, fun a ha b hb => ?_⟩
        · rw [List.pairwise_map]
          refine h.apart.imp_of_mem fun {a b} ha hb hab => ?_
          exact ⟨(cl b hb).2.2.2 _ hab.1 (lz a ha), (cl a ha).2.2.2 _ hab.2 (lz b hb)⟩
        · obtain ⟨r, hr, rfl⟩ := List.mem_map.mp ha
          rw [List.mem_singleton.mp hb]
          exact ⟨lz r hr, (cl r hr).2.2.1⟩
    have mem1 : ∀ q ∈ L, Span n (· ∈ (L.map (fun q => (q.1, clear q.2 p l)) ++ [(p, l)]).map (·.2)) q.2 := fun q hq => by
      refine clear_unspan L'.lens (h.len q hq) ll lp (.of ?_) (.of ?_)
      · exact List.mem_map.mpr ⟨(q.1, clear q.2 p l), List.mem_append_left _ (List.mem_map.mpr ⟨q, hq, rfl⟩), rfl⟩
      · exact List.mem_map.mpr ⟨(p, l), List.mem_append_right _ (List.mem_singleton.mpr rfl), rfl⟩
    refine ⟨L', fun q hq => ?_, fun r hr' => ?_⟩
    · rcases List.mem_append.mp hq with z | z
      · obtain ⟨r, hr, rfl⟩ := List.mem_map.mp z
        exact clear_span hS (h.len r hr) ll lp (up _ (h.out r hr)) sl
      · rw [List.mem_singleton.mp z]; exact sl
    · rcases List.mem_append.mp hr' with q | q
      · refine (h.back r q).trans fun v hv => ?_
        obtain ⟨s, hs, rfl⟩ := List.mem_map.mp hv
        exact mem1 s hs
      · rw [List.mem_singleton.mp q]
        refine redu_unspan L'.lens h.toLeads hrow ?_ mem1
        refine Span.unlow L'.lens (posed_unspan L'.lens (p := p) ?_)
        rw [hl]
        exact .of (List.mem_map.mpr ⟨(p, l), List.mem_append_right _ (List.mem_singleton.mpr rfl), rfl⟩)
theorem ech_ok {n : Nat} {rows : List Vec} (h : ∀ r ∈ rows, r.length = n) : Ech n rows (ech rows) := by
  have go : ∀ (rest done : List Vec) (L : List Lead), (∀ r ∈ done ++ rest, r.length = n) → Ech n done L → Ech n (done ++ rest) (rest.foldl echStep L) := by
    intro rest
    induction rest with
    | nil =>
      intro done L _ hL
      rw [List.append_nil]
      exact hL
    | cons r rest ih =>
      intro done L hl hL
      have := ih (done ++ [r]) (echStep L r) (by rw [List.append_assoc]; exact hl) (echStep_ok hL (fun v hv => hl v (List.mem_append_left _ hv)) (hl r (List.mem_append_right _ List.mem_cons_self)))
      rw [List.append_assoc] at this
      exact this
  exact go rows [] [] h ⟨⟨(fun _ h => nomatch h), (fun _ h => nomatch h), .nil⟩, (fun _ h => nomatch h), (fun _ h => nomatch h)⟩
/-- any independent rows that make the same are as many as the leads -/
theorem ech_count {n : Nat} {rows B : List Vec} (h : ∀ r ∈ rows, r.length = n) (hB : ∀ v ∈ B, v.length = n) (ind : Indep n B) (out : ∀ b ∈ B, Span n (· ∈ rows) b) (back : ∀ r ∈ rows, Span n (· ∈ B) r) : (ech rows).length = B.length := by
  have E := ech_ok h
  refine Nat.le_antisymm ?_ ?_
  · have := steinitz (n := n) (B := (ech rows).map (·.2)) (S := B) E.lens hB E.indep fun b hb => by
      obtain ⟨q, hq, rfl⟩ := List.mem_map.mp hb
      exact (E.out q hq).trans back
    rw [List.length_map] at this
    exact this
  · have := steinitz (n := n) (B := B) (S := (ech rows).map (·.2)) hB E.lens ind fun b hb => (out b hb).trans E.back
    rw [List.length_map] at this
    exact this
/-! ### rank as it is reckoned by taking the first off the others -/
def nz (x : Vec) : Bool := x.any (fun u => u != 0)
def lead0 (f : Vec) : Nat := (firstp f).getD 0
def offed (f row : Vec) : Vec := lin (at0 f (lead0 f)) row (-(at0 row (lead0 f))) f
def lnext (f : Vec) (rest : List Vec) : List Vec := (rest.map (offed f)).filter nz
theorem lnext_length (f : Vec) (rest : List Vec) : (lnext f rest).length ≤ rest.length := by
  have := List.length_filter_le nz (rest.map (offed f))
  rw [List.length_map] at this
  exact this
def lrank : List Vec → Nat
  | [] => 0
  | f :: rest => 1 + lrank (lnext f rest)
termination_by rows => rows.length
decreasing_by
  have := lnext_length f rest
  rw [List.length_cons]
  omega
theorem lrank_cons (f : Vec) (rest : List Vec) : lrank (f :: rest) = 1 + lrank ((rest.map (offed f)).filter nz) := by
  rw [lrank]
  rfl
theorem lrank_nil : lrank [] = 0 := by rw [lrank]
theorem nz_false {x : Vec} (h : nz x = false) : x = zeros x.length := zeros_of fun u hu => by
  unfold nz at h
  have := List.any_eq_false.mp h u hu
  simpa using this
theorem nz_true {x : Vec} (h : nz x = true) : at0 x (lead0 x) ≠ 0 ∧ lead0 x < x.length ∧ firstp x = some (lead0 x) := by
  cases hf : firstp x with
  | none =>
    unfold nz at h
    obtain ⟨u, hu, hu0⟩ := List.any_eq_true.mp h
    have := firstp_none hf u hu
    rw [this] at hu0
    simp at hu0
  | some p =>
    have e : lead0 x = p := by unfold lead0; rw [hf]; rfl
    obtain ⟨h1, h2, _⟩ := firstp_some hf
    rw [e]
    exact ⟨h2, h1, rfl⟩
theorem span_at {n : Nat} {S : Vec → Prop} (hS : ∀ v, S v → v.length = n) {p : Nat} (hz : ∀ v, S v → at0 v p = 0) {x : Vec} (h : Span n S x) : at0 x p = 0 := by
  induction h with
  | zero => exact at0_zeros n p
  | of hv => exact hz _ hv
  | lin a b h1 h2 e1 e2 =>
    rw [at0_lin p ((h1.length hS).trans (h2.length hS).symm), e1, e2]
    grind
  | div hc _ _ e =>
    rw [at0_sml] at e
    exact (Int.mul_eq_zero.mp e).resolve_left hc
theorem indep_cons {n : Nat} {v : Vec} {vs : List Vec} (hl : ∀ w ∈ v :: vs, w.length = n) {p : Nat} (p0 : at0 v p ≠ 0) (pz : ∀ w ∈ vs, at0 w p = 0) (h : Indep n vs) : Indep n (v :: vs) := fun cs hcs e c hc => by
  cases cs with
  | nil => exact nomatch hc
  | cons d ds =>
    have hvs : ∀ w ∈ vs, w.length = n := fun w hw => hl w (List.mem_cons_of_mem _ hw)
    have lds : ds.length = vs.length := Nat.succ.inj hcs
    have ep : at0 (comb n (d :: ds) (v :: vs)) p = 0 := by rw [e, at0_zeros]
    rw [at0_comb p _ hl] at ep
    have z : dot ds (vs.map (fun w => at0 w p)) = 0 := by
      have e1 : vs.map (fun w => at0 w p) = zeros vs.length := by
        have : vs.map (fun w => at0 w p) = vs.map (fun _ => (0 : Int)) := List.map_congr_left pz
        rw [this]
        unfold zeros
        rw [List.map_const']
      rw [e1, dot_comm, dot_zeros]
    have e2 : d * at0 v p + dot ds (vs.map (fun w => at0 w p)) = 0 := ep
    rw [z, Int.add_zero] at e2
    have d0 : d = 0 := (Int.mul_eq_zero.mp e2).resolve_right p0
    rcases List.mem_cons.mp hc with q | q
    · rw [q]; exact d0
    · refine h ds lds ?_ c q
      have e3 : lin d v 1 (comb n ds vs) = zeros n := e
      rw [d0] at e3
      refine vec_ext (by rw [comb_length _ hvs, zeros_length]) fun r => ?_
      have e4 : at0 (lin 0 v 1 (comb n ds vs)) r = at0 (zeros n) r := by rw [e3]
      rw [at0_lin r (by rw [hl v List.mem_cons_self, comb_length _ hvs])] at e4
      rw [← e4]
      grind
theorem offed_length {f row : Vec} (h : row.length = f.length) : (offed f row).length = row.length := lin_length h
theorem lrank_ok {n : Nat} : ∀ (m : Nat) (rows : List Vec), rows.length = m → (∀ r ∈ rows, r.length = n ∧ nz r = true) → ∃ B : List Vec, B.length = lrank rows ∧ (∀ v ∈ B, v.length = n) ∧ Indep n B ∧ (∀ b ∈ B, Span n (· ∈ rows) b) ∧ ∀ r ∈ rows, Span n (· ∈ B) r := by
  intro m
  induction m using Nat.strongRecOn with
  | ind m ih =>
    intro rows hm h
    cases rows with
    | nil =>
      refine ⟨[], by rw [lrank_nil]; rfl, (fun _ h => nomatch h), ?_, (fun _ h => nomatch h), (fun _ h => nomatch h)⟩
      intro cs hcs _ c hc
      have := List.length_eq_zero_iff.mp hcs
      subst this
      exact nomatch hc
    | cons f rest =>
      have lf := (h f List.mem_cons_self).1
      obtain ⟨f0, _, _⟩ := nz_true (h f List.mem_cons_self).2
      have lrest : ∀ r ∈ rest, r.length = n := fun r hr => (h r (List.mem_cons_of_mem _ hr)).1
      have lo : ∀ r ∈ rest, (offed f r).length = n := fun r hr => by rw [offed_length (by rw [lrest r hr, lf]), lrest r hr]
      have hfl : ((rest.map (offed f)).filter nz).length < m := by
        have := List.length_filter_le nz (rest.map (offed f))
        rw [List.length_map] at this
        rw [List.length_cons] at hm
        omega
      obtain ⟨B, lB, hB, ind, out, back⟩ := ih _ hfl ((rest.map (offed f)).filter nz) rfl fun r hr => by
        obtain ⟨h1, h2⟩ := List.mem_filter.mp hr
        obtain ⟨w, hw, rfl⟩ := List.mem_map.mp h1
        exact ⟨lo w hw, h2⟩
      have hS' : ∀ v, v ∈ (rest.map (offed f)).filter nz → v.length = n := fun v hv => by
        obtain ⟨w, hw, rfl⟩ := List.mem_map.mp (List.mem_filter.mp hv).1
        exact lo w hw
      have zk : ∀ v, v ∈ (rest.map (offed f)).filter nz → at0 v (lead0 f) = 0 := fun v hv => by
        obtain ⟨w, hw, rfl⟩ := List.mem_map.mp (List.mem_filter.mp hv).1
        unfold offed
        rw [at0_lin _ (by rw [lrest w hw, lf])]
        grind
      have hl : ∀ v ∈ f :: rest, v.length = n := fun v hv => (h v hv).1
      have hfB : ∀ v ∈ f :: B, v.length = n := fun v hv => by
        rcases List.mem_cons.mp hv with e | e
        · rw [e]; exact lf
        · exact hB v e
      refine ⟨f :: B, by rw [lrank_cons, List.length_cons, lB, Nat.add_comm], hfB, indep_cons hfB f0 (fun w hw => span_at hS' zk (out w hw)) ind, fun b hb => ?_, fun r hr => ?_⟩
      · rcases List.mem_cons.mp hb with e | e
        · rw [e]; exact .of List.mem_cons_self
        · refine (out b e).trans fun v hv => ?_
          obtain ⟨w, hw, rfl⟩ := List.mem_map.mp (List.mem_filter.mp hv).1
          exact .lin _ _ (.of (List.mem_cons_of_mem _ hw)) (.of List.mem_cons_self)
      · rcases List.mem_cons.mp hr with e | e
        · rw [e]; exact .of List.mem_cons_self
        · -- f's number times r is what is left and some times f
          have so : Span n (· ∈ f :: B) (offed f r) := by
            cases hz : nz (offed f r) with
            | true => exact (back _ (List.mem_filter.mpr ⟨List.mem_map.mpr ⟨r, e, rfl⟩, hz⟩)).mono fun v hv => List.mem_cons_of_mem _ hv
            | false =>
              rw [nz_false hz, lo r e]
              exact .zero
          refine .div (c := at0 f (lead0 f)) f0 (lrest r e) ?_
          have e2 : sml (at0 f (lead0 f)) r = lin 1 (offed f r) (at0 r (lead0 f)) f := by
            refine vec_ext (by rw [sml_length, lin_length (by rw [lo r e, lf]), lo r e, lrest r e]) fun p => ?_
            rw [at0_sml, at0_lin p (by rw [lo r e, lf])]
            unfold offed
            rw [at0_lin p (by rw [lrest r e, lf])]
            grind
          rw [e2]
          exact .lin _ _ so (.of List.mem_cons_self)
theorem lrank_ech {n : Nat} {rows : List Vec} (h : ∀ r ∈ rows, r.length = n) : lrank (rows.filter nz) = (ech rows).length := by
  obtain ⟨B, lB, hB, ind, out, back⟩ := lrank_ok (n := n) _ (rows.filter nz) rfl fun r hr => ⟨h r (List.mem_filter.mp hr).1, (List.mem_filter.mp hr).2⟩
  rw [← lB]
  refine (ech_count h hB ind (fun b hb => (out b hb).mono fun v hv => (List.mem_filter.mp hv).1) fun r hr => ?_).symm
  cases hz : nz r with
  | true => exact back r (List.mem_filter.mpr ⟨hr, hz⟩)
  | false =>
    rw [nz_false hz, h r hr]
    exact .zero
/-! ### how great the numbers become -/
def Bd (b : Nat) (x : Vec) : Prop := ∀ u ∈ x, u.natAbs < 2 ^ b
theorem Bd.mono {b c : Nat} {x : Vec} (h : Bd b x) (hbc : b ≤ c) : Bd c x := fun u hu => Nat.lt_of_lt_of_le (h u hu) (Nat.pow_le_pow_right (by decide) hbc)
theorem Bd.at {b : Nat} {x : Vec} (h : Bd b x) (p : Nat) : (at0 x p).natAbs < 2 ^ b := by
  by_cases hp : p < x.length
  · exact h _ (List.mem_of_getElem? (get_at0 hp))
  · rw [at0_out (by omega)]
    exact Nat.two_pow_pos b
theorem Bd.of_at {b : Nat} {x : Vec} (h : ∀ p, (at0 x p).natAbs < 2 ^ b) : Bd b x := fun u hu => by
  obtain ⟨i, hi⟩ := List.getElem?_of_mem hu
  rw [← at0_get hi]
  exact h i
theorem mul_bits {i j : Int} {a b : Nat} (ha : i.natAbs < 2 ^ a) (hb : j.natAbs < 2 ^ b) : (i * j).natAbs < 2 ^ (a + b) := by
  rw [Int.natAbs_mul, Nat.pow_add]
  exact Nat.mul_lt_mul'' ha hb
theorem add_bits {i j : Int} {a : Nat} (ha : i.natAbs < 2 ^ a) (hb : j.natAbs < 2 ^ a) : (i + j).natAbs < 2 ^ (a + 1) := by
  rw [Nat.pow_succ]
  omega
theorem Bd.lin {b c : Nat} {x y : Vec} {a d : Int} (h : x.length = y.length) (hx : Bd b x) (hy : Bd b y) (ha : a.natAbs < 2 ^ c) (hd : d.natAbs < 2 ^ c) : Bd (b + c + 1) (lin a x d y) := .of_at fun p => by
  rw [at0_lin p h]
  refine add_bits ?_ ?_
  · rw [Nat.add_comm]; exact mul_bits ha (hx.at p)
  · rw [Nat.add_comm]; exact mul_bits hd (hy.at p)
theorem Bd.low {b : Nat} {x : Vec} (h : Bd b x) : Bd b (low x) := .of_at fun p => by
  obtain ⟨g, hg, e⟩ := low_spec x
  have e1 : at0 x p = g * at0 (CH.low x) p := by rw [← at0_sml, ← e]
  have h1 := h.at p
  rw [e1, Int.natAbs_mul] at h1
  refine Nat.lt_of_le_of_lt ?_ h1
  have : 1 ≤ g.natAbs := by omega
  exact Nat.le_mul_of_pos_left _ this
theorem Bd.neg {b : Nat} {x : Vec} (h : Bd b x) : Bd b (neg x) := .of_at fun p => by
  rw [at0_neg, Int.natAbs_neg]
  exact h.at p
theorem Bd.posed {b p : Nat} {x : Vec} (h : Bd b x) : Bd b (posed x p) := by
  unfold CH.posed
  split
  · exact h.neg
  · exact h
theorem Bd.clear {b c p : Nat} {x l : Vec} (h : x.length = l.length) (hx : Bd b x) (hl : Bd c l) : Bd (b + c + 1) (clear x p l) := by
  unfold CH.clear
  split
  · exact hx.mono (by omega)
  · refine Bd.low (.of_at fun q => ?_)
    rw [at0_lin q h]
    refine add_bits ?_ ?_
    · rw [Nat.add_comm]; exact mul_bits (hl.at p) (hx.at q)
    · refine mul_bits ?_ (hl.at q)
      rw [Int.natAbs_neg]
      exact hx.at p
theorem Bd.redu {n c : Nat} : ∀ {L : List Lead} {x : Vec} {b : Nat}, Leads n L → x.length = n → Bd b x → (∀ q ∈ L, Bd c q.2) → Bd (b + L.length * (c + 1)) (redu x L)
  | [], x, b, _, _, hx, _ => hx.mono (by omega)
  | q :: L, x, b, h, lx, hx, hL => by
    have hq : x.length = q.2.length := by rw [lx, h.len q List.mem_cons_self]
    obtain ⟨_, _, _, _, _, _, len, _⟩ := clear_spec (x := x) (l := q.2) (p := q.1) hq (h.pos q List.mem_cons_self)
    have := Bd.redu (L := L) (x := CH.clear x q.1 q.2) (b := b + c + 1) h.tail (len.trans lx) (Bd.clear hq hx (hL q List.mem_cons_self)) fun r hr => hL r (List.mem_cons_of_mem _ hr)
    refine this.mono ?_
    rw [List.length_cons, Nat.succ_mul]
    omega
/-- the leads' size behind so many rows -/
def LB (b : Nat) : Nat → Nat
  | 0 => b
  | j + 1 => (j + 2) * (LB b j + 2)
theorem LB_le (b j : Nat) : b ≤ LB b j := by
  induction j with
  | zero => exact Nat.le_refl _
  | succ j ih =>
    show b ≤ (j + 2) * (LB b j + 2)
    have : 1 * (LB b j + 2) ≤ (j + 2) * (LB b j + 2) := Nat.mul_le_mul_right _ (by omega)
    omega
theorem LB_mono (b : Nat) {i j : Nat} (h : i ≤ j) : LB b i ≤ LB b j := by
  induction h with
  | refl => exact Nat.le_refl _
  | step _ ih =>
    rename_i m _
    refine Nat.le_trans ih ?_
    show LB b m ≤ (m + 2) * (LB b m + 2)
    have : 1 * (LB b m + 2) ≤ (m + 2) * (LB b m + 2) := Nat.mul_le_mul_right _ (by omega)
    omega
end CH

set_option Elab.async false
set_option linter.all false
set_option maxRecDepth 100000
namespace CH
open PySem PySem.Spec PyProof.Rows L2
section
variable {X : Cx}
/-- products of ints whose size the model bears -/
theorem op_mulK : OpR X (binaryOp .Mult) (rI (fun i j => IntMulOk i j) fun i j => .int (i * j)) := opI fun _ _ _ _ _ _ _ hc q => mul_int q hc
def CDivK (i j : Int) : Prop := 0 < j ∧ Builtin.divisionGoesByPylong i j = false
theorem op_fdivK : OpR X (binaryOp .FloorDiv) (rI CDivK fun i j => .int (i / j)) := opI fun i j _ _ _ _ _ hc q => by
  have h1 : (0 : Int) < j := hc.1
  exact floordiv_int (by omega) (by rw [Int.fdiv_eq_ediv_of_nonneg i (by omega)]; exact q) (.inl hc.2)
theorem CDivK.of {i j : Int} {b : Nat} (h : 0 < j) (hb : j.natAbs < 2 ^ b) (h0 : 0 < b) (h9 : b ≤ 9000) : CDivK i j := ⟨h, PyProof.noPylong_of_log2 (wide_div (i := i) h hb h0 h9).2⟩
theorem mulK_left {i j : Int} (h1 : -(2 ^ 64) < i) (h2 : i < 2 ^ 64) : IntMulOk i j := .of_left (intBits_le_64 h1 h2)
theorem mulK_right {i j : Int} (h1 : -(2 ^ 64) < j) (h2 : j < 2 ^ 64) : IntMulOk i j := .of_right (intBits_le_64 h1 h2)
/-- a callee, with all that a call asks -/
def Cal (P : Program) (w : World) (K : PySem.W.Frag) (mg : Str → Option Value) (base : Heap) (k : Nat) (x : Str) (ps : List Str) (sp : Sp) : Prop :=
  ∃ f fd, FnOk P w K mg base CX0 k f fd ps sp ∧ mg x = some (.ref f) ∧ PySem.W.keepIn K (.ref f) = true ∧ Binds K fd ps []
theorem Cal.mono {P : Program} {w : World} {K : PySem.W.Frag} {mg : Str → Option Value} {base : Heap} {j k : Nat} {x : Str} {ps : List Str} {sp : Sp} (c : Cal P w K mg base j x ps sp) (h : j ≤ k) : Cal P w K mg base k x ps sp :=
  let ⟨f, fd, F, r⟩ := c; ⟨f, fd, F.mono h, r⟩
theorem pe_callC {x : Str} {k : Nat} {ps : List Str} {sp : Sp} {e : Expr} {es : List Expr} {t : TA} {p pos : Pos} (c : Cal X.prog X.w X.K X.mg X.base k x ps sp) (hr : Room k X.A) (hg : Gl X x)
    (ha : PA X (e :: es) t) (hdb : (x == ("__debug__" : Str)) = false := by decide) (he : starEach (e :: es) X.env = (false, eval e X.env) :: starEach es X.env := by rfl) (hpl : (backTo pos (starEach es X.env)).any (·.1) = false := by rfl) :
    PE X (.Call (.Name x p) (e :: es) [] pos) (tCall sp [] E0 t) := by
  obtain ⟨f, fd, F, hm, hk, hb⟩ := c
  exact pe_call F hr hg hm hk hb .nil pass0 ha hdb he hpl
/-- a list or a tuple -/
def SqA (K : PySem.W.Frag) (H : Hp) (a : Addr) (xs : List V) : Prop := SqL K H a xs ∨ SqT K H a xs
def ItA (K : PySem.W.Frag) (a : Addr) (l : Bool) : It := if l = true then Itl K a else Itt K a
/-- what a for walks, a list or a tuple -/
def iSeq (K : PySem.W.Frag) (tl : TE) : TI := fun σ H R => tl σ H fun x H1 => ∃ a, x = .ref a ∧ (((∃ xs, SqL K H1 a xs) ∧ R (Itl K a) H1) ∨ ((∃ xs, SqT K H1 a xs) ∧ R (Itt K a) H1))
/-- one new record, the iterator itself -/
theorem fresh_one {pins : List (Addr × Obj)} {σ : L2.St} {G : Hp} {z : Shared} (J : Inv X pins σ G z) : ∀ c ∈ [z.heap.objs.size], FpOk X pins G c := by
  intro c hc
  obtain rfl : c = z.heap.objs.size := List.mem_singleton.mp hc
  exact J.fpOk Nat.le.refl (J.hok.fresh Nat.le.refl)
theorem pi_seq {tg l : Expr} {tl : TE} (hl : PE X l tl) : PI X tg l (iSeq X.K tl) := .mk fun pins z σ G R J w => by
  have key := hl.run pins z σ G _ J w
  refine thn key ?_
  rintro val z1 ⟨x, G1, J1, rel, a, rfl, alt⟩
  obtain rfl : val = .ref a := rel
  cases alt with
  | inl lst =>
    obtain ⟨⟨xs, hx⟩, cont⟩ := lst
    have pl := J1.list hx
    obtain ⟨its, -, plain, -⟩ := pl
    apply wpAny_pyIter_list plain.isList
    exact ⟨_, [_], _, _, G1, rfl, J1.kept (t' := z1.toks) (fun _ _ => Heap.get?_push_of_some _), turn_list a _, ⟨_, Heap.get?_push_size _ rfl, rfl, rfl⟩, fresh_one J1, cont⟩
  | inr tup =>
    obtain ⟨⟨xs, hx⟩, cont⟩ := tup
    have pt := J1.tuple hx
    obtain ⟨its, -, isT, -⟩ := pt
    have isT' : z1.heap.IsTuple a its.toArray := isT
    apply wpAny_pyIter_tuple isT'
    exact ⟨_, [_], _, _, G1, rfl, J1.kept (t' := z1.toks) (fun _ _ => Heap.get?_push_of_some _), turn_tuple a _, ⟨_, Heap.get?_push_size _ rfl, rfl, rfl⟩, fresh_one J1, cont⟩
end
end CH

set_option Elab.async false
set_option linter.all false
set_option maxRecDepth 100000
namespace CH
open PySem PySem.Spec PyProof.Rows L2
/-! ### divisions of any size -/
/-- what the division of great numbers asks of the program and of the heap behind the top -/
structure Pyl (P : Program) (base : Heap) : Prop where
  tree : P.given.tree = none
  seer : base.NoSeer
theorem op_fdivP {X : Cx} {e1 : Env} {l : List Env} (hP : Pyl X.prog X.base) (hst : X.stack = e1 :: l) (hg : e1.scope.isGenerator = false) (hc : e1.scope.isCoroutine = false) (hb : e1.builtins = builtinsNs) (hgl : e1.globals = mainGlobals) (hr : Room 40 X.A) :
    OpR X (binaryOp .FloorDiv) (rI (fun _ j => 0 < j) fun i j => .int (i / j)) := by
  intro pins z σ H x y v u Q I rx ry want
  obtain ⟨i, j, rfl, rfl, hj, q⟩ := want
  obtain ⟨t1, rfl⟩ := rx
  obtain ⟨t2, rfl⟩ := ry
  have hd : X.A.depth + Builtin.pylongFrames < recursionLimit := by
    have := hr.dp
    show X.A.depth + 100 < recursionLimit
    omega
  have fr : X.A.frames = some (e1 :: l) := by rw [I.ok.frames, hst]
  have seer : z.heap.NoSeer := hP.seer.keeps I.bk
  have room : PySem.PylongRoom (model X.prog X.w) X.A z := PySem.PylongRoom.of I.nolimit hd (PySem.SeerAt.of seer hP.tree fr hg hc hb hgl)
  refine floordiv_int (show j ≠ 0 from Int.ne_of_gt hj) ?_ (.inr room)
  rw [Int.fdiv_eq_ediv_of_nonneg i (Int.le_of_lt hj)]
  exact ⟨.int (i / j), H, I.tok _, ⟨_, rfl⟩, q⟩
/-! ### the end, where the heap behind the top is known to hold what divisions ask -/
theorem lookup_app {α : Type} (X Y : List (Addr × α)) (a : Addr) : (X ++ Y).lookup a = (X.lookup a).or (Y.lookup a) := by
  induction X with
  | nil => simp
  | cons p r ih =>
    obtain ⟨b, o⟩ := p
    rw [List.cons_append, List.lookup_cons, List.lookup_cons, ih]
    split <;> rfl
theorem mem_of_lookup {α : Type} : ∀ {X : List (Addr × α)} {a : Addr} {o : α}, X.lookup a = some o → (a, o) ∈ X
  | [], _, _, h => nomatch h
  | (b, u) :: r, a, o, h => by
    rw [List.lookup_cons] at h
    split at h
    · rename_i e
      cases h
      rw [eq_of_beq e]
      exact List.mem_cons_self
    · exact List.mem_cons_of_mem _ (mem_of_lookup h)
theorem lookup_of_mem {α : Type} : ∀ {X : List (Addr × α)} {a : Addr} {o : α}, (a, o) ∈ X → ∃ u, X.lookup a = some u
  | (b, u) :: r, a, o, h => by
    rw [List.lookup_cons]
    split
    · exact ⟨u, rfl⟩
    · rename_i e
      rcases List.mem_cons.mp h with q | q
      · cases q
        exact absurd (beq_self_eq_true _) (by rw [e]; exact Bool.false_ne_true)
      · exact lookup_of_mem q
/-- a few objects of the heap carry what is asked; none of them is a list -/
theorem seer_by {g : Heap} (h : g.NoSeer) : ∃ X : PySem.W.Frag, (∀ p ∈ X, g.get? p.1 = some p.2 ∧ p.2.cls ≠ .type "list" ∨ (g.get? p.1 = some p.2 ∧ ∃ es ep, p.2.data = .dict es ep)) ∧ ∀ base : Heap, (∀ p ∈ X, base.get? p.1 = some p.2) → base.NoSeer := by
  obtain ⟨mc, ⟨o1, es1, ep1, g1, d1, r1⟩, c1, c2⟩ := h.statics
  obtain ⟨mm, ⟨o2, es2, ep2, g2, d2, r2⟩, m1⟩ := h.mods
  obtain ⟨mb, ⟨o3, es3, ep3, g3, d3, r3⟩, b0⟩ := h.imp
  obtain ⟨mg, bm, ob, ⟨o4, es4, ep4, g4, d4, r4⟩, q1, q2, q3, q4⟩ := h.main
  refine ⟨[(cStatics, o1), (sysModules, o2), (builtinsNs, o3), (mainGlobals, o4), (bm, ob)], ?_, fun base hb => ⟨?_, ?_, ?_, ?_⟩⟩
  · intro p hp
    simp only [List.mem_cons, List.not_mem_nil, or_false] at hp
    rcases hp with rfl | rfl | rfl | rfl | rfl
    · exact .inr ⟨g1, _, _, d1⟩
    · exact .inr ⟨g2, _, _, d2⟩
    · exact .inr ⟨g3, _, _, d3⟩
    · exact .inr ⟨g4, _, _, d4⟩
    · exact .inl ⟨q2, by rw [q3]; decide⟩
  · exact ⟨mc, ⟨o1, es1, ep1, hb (cStatics, o1) (by simp), d1, r1⟩, c1, c2⟩
  · exact ⟨mm, ⟨o2, es2, ep2, hb (sysModules, o2) (by simp), d2, r2⟩, m1⟩
  · exact ⟨mb, ⟨o3, es3, ep3, hb (builtinsNs, o3) (by simp), d3, r3⟩, b0⟩
  · exact ⟨mg, bm, ob, ⟨o4, es4, ep4, hb (mainGlobals, o4) (by simp), d4, r4⟩, q1, hb (bm, ob) (by simp), q3, q4⟩
theorem FnOk.less {P : Program} {w : World} {K K2 : PySem.W.Frag} {mg : Str → Option Value} {base : Heap} {CX : CXT} {k : Nat} {f : Addr} {fd : FuncData} {ps : List Str} {sp : Sp} (F : FnOk P w K mg base CX k f fd ps sp) (h : K.In base) : FnOk P w K2 mg base CX k f fd ps sp :=
  ⟨F.len, fun A outer s H args us vs Q E hr e0 hb hv hs => F.run A outer s H args us vs Q E hr ⟨e0.frames, ⟨h, e0.mod.glob, e0.mod.blt, e0.mod.nolimit⟩, e0.bs, e0.bsz, e0.funs, e0.frf, e0.hok, e0.bare⟩ hb hv hs⟩
/-- from the law's promise, shown over heaps of which Pyl holds, to the goal that the head leaves -/
theorem walk_seer {l : PySem.W.OpenLaw} {n k : Nat} {q : Program} {loose : List Str} {XP : (Str → Option Value) → Heap → Prop} {YP : World → Heap → Prop} {d : DefRec} {K : Params → PySem.W.Frag} {sp : PySem.W.Frag → Sp} {x : Str}
    (hn : l.most = some n) (hn2 : n ≤ sizeLine) (hdf : d.params.defaults = []) (hr : Room k callerA) (hno : importsNone q = true) (ht : l.prog.given.tree = none)
    (hY : ∀ (w : World) (h : Heap), YP w h → (K w.params).In h)
    (F : ∀ (w : World) (mg : Str → Option Value) (fa : Addr) (h : Heap), (K w.params).In h → h.Ns mainGlobals mg → mg d.name = some (.ref fa) →
      ∃ fd : FuncData, (∀ (s : Shared) (u : Value), BindsTo s fd ⟨[u], []⟩ [(x, u)]) ∧
        ∀ base : Heap, (K w.params).In base → base.Ns mainGlobals mg → Pyl l.prog base → FnOk l.prog w (K w.params) mg base CX0 k fa fd [x] (sp (K w.params)))
    (hsp : ∀ (K : PySem.W.Frag) (H : Hp) (a : Addr) (ns : List Int), ns.length ≤ n → SqL K H a (ns.map V.int) → sp K [.ref a] H (fun v _ => v = .bl true) fun _ _ _ => False) :
    PySem.W.WalkO q loose XP YP l.row.toRowW d [] (fun f vs => PySem.call f vs) := by
  refine Att.attach_call hn hdf fun w s0 s1 mg mb fa o pm cd doc a vs ns G Y ho hd hcd hmg hobj hints hlen hg => ?_
  have KX := hY w _ Y
  obtain ⟨fd, hbnd, hF⟩ := F w mg fa _ KX G.T.g hmg
  obtain ⟨X, hX, hs⟩ := seer_by (G.T.seer hno)
  have hX' : ∀ p ∈ X, s1.heap.get? p.1 = some p.2 := fun p hp => (hX p hp).elim (fun z => z.1) fun z => z.1
  have K2 : PySem.W.Frag.In (X ++ K w.params) s1.heap := fun b ob e => by
    rw [lookup_app] at e
    cases hx : X.lookup b with
    | some u =>
      rw [hx] at e
      obtain rfl : u = ob := Option.some.inj e
      exact hX' (b, u) (mem_of_lookup hx)
    | none =>
      rw [hx] at e
      exact KX b ob (by simpa using e)
  have down : ∀ base : Heap, PySem.W.Frag.In (X ++ K w.params) base → (K w.params).In base := fun base hb b ob e => by
    cases hx : X.lookup b with
    | some u =>
      have e1 := hX' (b, u) (mem_of_lookup hx)
      have e2 := KX b ob e
      rw [show s1.heap.get? b = some u from e1] at e2
      cases e2
      exact hb b ob (by rw [lookup_app, hx]; rfl)
    | none => exact hb b ob (by rw [lookup_app, hx, e]; rfl)
  have aX : X.lookup a = none := by
    cases hx : X.lookup a with
    | none => rfl
    | some u =>
      rcases hX _ (mem_of_lookup hx) with ⟨z, nz⟩ | ⟨z, es, ep, dz⟩
      · rw [show s1.heap.get? a = some u from z] at hobj
        cases hobj
        exact absurd rfl nz
      · rw [show s1.heap.get? a = some u from z] at hobj
        cases hobj
        cases dz
  refine law_call K2 G.T.g G.T.b G.T.builtins G.T.nolimit hg hobj hints (Nat.le_trans hlen hn2) hr (CX := CX0) (sp := sp (K w.params)) (fun base hb hns => ?_) hbnd (fun H hO hS => ?_) (fun H e s' z => z.elim)
  · refine FnOk.less (hF base (down base hb) hns ⟨ht, hs base fun p hp => ?_⟩) (down base hb)
    obtain ⟨u, hu⟩ := lookup_of_mem (X := X) (a := p.1) (o := p.2) hp
    have e1 := hX' (p.1, u) (mem_of_lookup hu)
    have e2 := hX' p hp
    rw [show s1.heap.get? p.1 = some u from e1] at e2
    cases e2
    exact hb p.1 p.2 (by rw [lookup_app, hu]; rfl)
  · refine hsp _ H a ns hlen ?_
    rcases hS with hS | ⟨o1, its, m, hk, r⟩
    · exact .inl hS
    · rw [lookup_app, aX] at hk
      exact .inr ⟨o1, its, m, by simpa using hk, r⟩
end CH

set_option Elab.async false
set_option linter.all false
set_option maxRecDepth 100000
/-! enumerate over a tuple: by what the tuple's iterator draws -/
namespace CH
open PySem PySem.Spec PyProof.Rows L2
/-- the items of the tuple at a, each in a new pair with its place -/
def ItE (K : PySem.W.Frag) (a : Addr) : It :=
  ⟨fun i G => ∃ xs : List V, SqT K G a xs ∧ i < xs.length,
   fun i G v G' => ∃ T x, v = .ref T ∧ G T = none ∧ G' = upd G T (.tup [.int (i : Nat), x]) ∧ ∀ xs : List V, SqT K G a xs → xs[i]? = some x,
   fun i G => ∃ xs : List V, SqT K G a xs ∧ xs.length ≤ i⟩
def TnE (e t a : Addr) (i : Nat) (h : Heap) : Prop := (∃ old, IsEnum h e t (i : Nat) old) ∧ h.IsTupleIter t a i ∧ e ≠ t ∧ a ≠ t ∧ a ≠ e
theorem turn_tupE {P : Program} {w : World} {K : PySem.W.Frag} {elts : List Expr} {kk : Nat} {tp : Pos} (a e t : Addr) : Turn P w K (.Tuple elts kk tp) (ItE K a) [e, t] e (TnE e t a) where
  mem := List.mem_cons_self
  obj := fun i h tn b hb => by
    obtain ⟨⟨old, he⟩, ⟨o, ho, _, hd⟩, _⟩ := tn
    rcases List.mem_cons.mp hb with rfl | hb
    · refine ⟨_, he, fun v q => ?_⟩
      cases q
    · obtain rfl := List.mem_singleton.mp hb
      refine ⟨o, ho, fun v q => ?_⟩
      rw [hd] at q
      cases q
  keep := fun i h h' tn k => by
    obtain ⟨⟨old, he⟩, hi, ne⟩ := tn
    exact ⟨⟨old, k e List.mem_cons_self _ he⟩, hi.at (k t (List.mem_cons_of_mem _ List.mem_cons_self)), ne⟩
  item := by
    intro X eP ew eK calm i pins z σ G E I hf tn go
    subst eP ew eK
    obtain ⟨⟨old, he⟩, hi, net, nat, nae⟩ := tn
    obtain ⟨xs, hx, hlt⟩ := go
    obtain ⟨its, rv, isT, -⟩ := I.tuple hx
    have hsz : i < its.toArray.size := by rw [List.size_toArray, ← rv.length]; exact hlt
    have isT' : z.heap.IsTuple a its.toArray := isT
    have lte : e < z.heap.objs.size := Heap.lt_size he
    have ltt : t < z.heap.objs.size := by obtain ⟨_, q, _⟩ := hi; exact Heap.lt_size q
    have D := Draws.tuple (prog := X.prog) (w := X.w) (A := X.A.in1) (I.ok.hd calm) t a nat its.toArray
    refine wpAny_pyNext_enum_itemD D he ⟨hi, isT'⟩ hsz net (by simp [net, Ne.symm nae]) fun u h1 tk hu ho st1 hT _ hk => ?_
    refine ⟨_, rfl, wpAny_letOwnedTupleGo_enum (s := { z with heap := h1, toks := tk + 1 }) ho fun h2 he2 sb => ?_⟩
    obtain ⟨x, hxi⟩ : ∃ x, xs[i]? = some x := ⟨xs[i], List.getElem?_eq_getElem hlt⟩
    obtain ⟨u', hu', ru⟩ := rv.get hxi
    have uu : u' = u := by
      have q : its[i]? = some u := by simpa using hu
      rw [hu'] at q
      exact Option.some.inj q
    subst uu
    have neT : z.heap.objs.size ≠ e := Nat.ne_of_gt lte
    have new : ObjOk X.prog X.w (upd G z.heap.objs.size (.tup [.int (i : Nat), x])) h2 z.heap.objs.size (.tup [.int (i : Nat), x]) :=
      ⟨by show 2 ≤ sizeLine; decide, [.int i tk, u'], .cons ⟨_, rfl⟩ (.cons ru .nil), ⟨_, (sb.2 _ neT).trans hT, rfl, _, rfl⟩⟩
    have J : Inv X pins σ (upd G z.heap.objs.size (.tup [.int (i : Nat), x])) { z with heap := h2, toks := tk + 1 } :=
      I.turnedNew (ch := [e, t]) (fun b o hb q => by
        have b1 : b ≠ e := fun w => hb (by rw [w]; exact List.mem_cons_self)
        have b2 : b ≠ t := fun w => hb (by rw [w]; exact List.mem_cons_of_mem _ List.mem_cons_self)
        exact (sb.2 b b1).trans (hk b o b1 b2 q)) hf Nat.le.refl new
    refine ⟨.ref z.heap.objs.size, _, J, rfl, ⟨_, x, rfl, I.hok.fresh Nat.le.refl, rfl, fun ys hy => by rw [I.tuple_inj hy hx]; exact hxi⟩, ⟨⟨u', ?_⟩, st1.1.at fun o q => (sb.2 t (Ne.symm net)).trans q, net, nat, nae⟩, fun b hb => ?_⟩
    · have c : ((i + 1 : Nat) : Int) = (i : Int) + 1 := by omega
      rw [c]
      exact he2
    · have lb : b < z.heap.objs.size := by
        rcases List.mem_cons.mp hb with rfl | q
        · exact lte
        · rw [List.mem_singleton.mp q]; exact ltt
      rw [upd_ne (Nat.ne_of_lt lb)]
      exact (hf b hb).1
  done := by
    intro X eP ew eK calm i pins z σ G E I hf tn stop
    subst eP ew eK
    obtain ⟨⟨old, he⟩, hi, net, nat, nae⟩ := tn
    obtain ⟨xs, hx, hle⟩ := stop
    obtain ⟨its, rv, isT, -⟩ := I.tuple hx
    have hnone : its.toArray[i]? = none := by
      have := rv.length
      simp
      omega
    have isT' : z.heap.IsTuple a its.toArray := isT
    -- an iterator that stands at or behind the end draws nothing more
    have D : Draws X.prog X.w X.A.in1 t [t, a] i (fun _ _ => False) (fun j h => (j = i ∧ h.IsTupleIter t a i) ∧ h.IsTuple a its.toArray) :=
      ⟨fun _ _ st => let ⟨o, ho, _⟩ := st.1.2; ⟨o, ho⟩, fun _ _ _ st k => ⟨⟨st.1.1, st.1.2.at fun o q => k t (by simp) o q⟩, st.2.at fun o q => k a (by simp) o q⟩,
        fun j s Q E' hj st _ => absurd st.1.1 (Nat.ne_of_lt hj), fun s Q E' st hE => wpAny_nextOf_tuple_end (I.ok.hd calm) st.1.2 st.2 hnone hE⟩
    refine wpAny_pyNext_enum_endD D he ⟨⟨rfl, hi⟩, isT'⟩ fun h' ext => ⟨rfl, ?_⟩
    exact I.turnedL (t' := z.toks) (ch := [e, t]) (fun b o hb q => ext b o (fun w => hb (by rw [w]; exact List.mem_cons_of_mem _ List.mem_cons_self)) q) hf
  self := fun A i z Q E tn h => by
    obtain ⟨⟨old, he⟩, _⟩ := tn
    exact wpAny_pyIter_enum he h
/-- enumerate(v), one argument, for what begins an iteration -/
theorem new_enum {v : Value} {o : Obj} {Z : Heap → Prop} (B : Begins v o Z) :
    Meets (Builtin.«enumerate.__new__» ⟨[.type "enumerate", v], []⟩) (fun _ R s => Z s.heap ∧
      R (.ok (.ret (.ref (s.heap.push o).objs.size))) { s with heap := (s.heap.push o).push { cls := .type "enumerate", data := .fields #[.none, .bool false, .ref s.heap.objs.size, rawInt 0, .none, .none] } }) := by
  refine .of_wp fun prog w A R s want => ?_
  obtain ⟨hp, gs, dr, tk, os⟩ := s
  obtain ⟨hz, fin⟩ := want
  have sub := sub_enumerate
  have start : ∀ {A' : Around} {E' : Value → Shared → Prop} {Q' : Value → Shared → Prop}, Q' (.ref hp.objs.size) ⟨hp.push o, gs, dr, tk, os⟩ → wpAny (model prog w) A' (pyIter v) Q' E' ⟨hp, gs, dr, tk, os⟩ :=
    fun q => B.iter prog w _ _ _ _ hz q
  wp_walk using start
  refine wpAny_stack_any fun st => wpAny_pure ?_
  split
  · rename_i c _ _ _ _ _
    cases (c == Value.type "enumerate") <;> (wp_walk using start; exact ⟨_, rfl, fin⟩)
  · wp_walk using start
    exact ⟨_, rfl, fin⟩
theorem call_enumT {prog : Program} {w : World} {A : Around} {E : Value → Shared → Prop} {s : Shared} {a : Addr} {items : Array Value} {Q : Value → Shared → Prop} (ha : s.heap.IsTuple a items)
    (fin : ∀ h', IsEnum h' (s.heap.objs.size + 1) s.heap.objs.size 0 .none → h'.IsTupleIter s.heap.objs.size a 0 → (∀ b o, s.heap.get? b = some o → h'.get? b = some o) → Q (.ref (s.heap.objs.size + 1)) { s with heap := h' }) :
    wpAny (model prog w) A (call (.type "enumerate") [.ref a]) Q E s := by
  have B := begins_tuple a items
  refine callType_new F.called_enumerate (by decide) (F.typeCall_enumerate_1 _) (F.newCall_enumerate_1 _) (fun obj => F.args_object_init_2 obj _) F.entry_enumerate_new (new_enum B) ⟨ha, ?_⟩
  have size1 : (s.heap.push { cls := .type "tuple_iterator", data := .fields #[.ref a, .int 0 0] }).objs.size = s.heap.objs.size + 1 := Heap.size_push ..
  show _ ∧ _
  rw [size1]
  have en : IsEnum ((s.heap.push { cls := .type "tuple_iterator", data := .fields #[.ref a, .int 0 0] }).push { cls := .type "enumerate", data := .fields #[.none, .bool false, .ref s.heap.objs.size, rawInt 0, .none, .none] }) (s.heap.objs.size + 1) s.heap.objs.size 0 .none := by
    have at1 := Heap.get?_push_size (s.heap.push { cls := .type "tuple_iterator", data := .fields #[.ref a, .int 0 0] }) (o := { cls := .type "enumerate", data := .fields #[.none, .bool false, .ref s.heap.objs.size, rawInt 0, .none, .none] }) rfl
    rw [size1] at at1
    exact at1
  exact ⟨⟨_, en, rfl⟩, fin _ en ⟨_, Heap.get?_push_of_some _ (Heap.get?_push_size _ rfl), rfl, rfl⟩ fun b o q => Heap.get?_push_of_some _ (Heap.get?_push_of_some _ q)⟩
def iEnumS (K : PySem.W.Frag) (ta : TA) : TI := fun σ G R => ta σ G fun vs G1 => ∃ a xs, vs = [.ref a] ∧ ((SqL K G1 a xs ∧ R (Ite K a) G1) ∨ (SqT K G1 a xs ∧ R (ItE K a) G1))
theorem pi_enumS {X : Cx} {e : Expr} {ta : TA} {p pos tpos : Pos} {elts : List Expr} {kk : Nat} (hg : Gl X "enumerate") (hm : X.mg "enumerate" = none) (ha : PA X [e] ta) (hs : starEach [e] X.env = [(false, eval e X.env)] := by rfl) :
    PI X (.Tuple elts kk tpos) (.Call (.Name "enumerate" p) [e] [] pos) (iEnumS X.K ta) := .mk fun pins z σ G R I want => by
  have arg := ha.run pos pins z σ G _ I want
  refine Call_ (ld_blt I hg hm boot_enumerate (PyProof.Rows.callWith_type1 (thn arg ?_) hs rfl))
  rintro us z1 ⟨vs, G1, I1, rv, a, xs, rfl, alt⟩
  obtain ⟨u, rfl, ru⟩ := vals1 rv
  obtain rfl : u = .ref a := ru
  have fresh2 : ∀ b ∈ [z1.heap.objs.size + 1, z1.heap.objs.size], FpOk X pins G1 b := fun b hb => by
    have le : z1.heap.objs.size ≤ b := by
      rcases List.mem_cons.mp hb with rfl | q
      · exact Nat.le_succ _
      · rw [List.mem_singleton.mp q]; exact Nat.le.refl
    exact I1.fpOk le (I1.hok.fresh le)
  rcases alt with ⟨hx, cont⟩ | ⟨hx, cont⟩
  · obtain ⟨its, -, pl, -⟩ := I1.list hx
    refine call_enumerate_list pl.isList fun h' en it _ k => wpAny_pyIter_enum en ?_
    exact ⟨_, _, _, _, G1, rfl, I1.kept (t' := z1.toks) k, turn_enum a (z1.heap.objs.size + 1) z1.heap.objs.size, ⟨⟨.none, en⟩, it, Nat.succ_ne_self _⟩, fresh2, cont⟩
  · obtain ⟨its, -, isT, -⟩ := I1.tuple hx
    have isT' : z1.heap.IsTuple a its.toArray := isT
    have lta : a < z1.heap.objs.size := by obtain ⟨o, q, _⟩ := isT'; exact Heap.lt_size q
    refine call_enumT isT' fun h' en it k => wpAny_pyIter_enum en ?_
    exact ⟨_, _, _, _, G1, rfl, I1.kept (t' := z1.toks) k, turn_tupE a (z1.heap.objs.size + 1) z1.heap.objs.size, ⟨⟨.none, en⟩, it, Nat.succ_ne_self _, Nat.ne_of_lt lta, Nat.ne_of_lt (Nat.lt_succ_of_lt lta)⟩, fresh2, cont⟩
end CH

set_option Elab.async false
set_option linter.all false
set_option maxRecDepth 100000
namespace CH
open PySem PySem.Spec PyProof.Rows L2
/-! ### how heaps grow -/
/-- tuples and frozen things stay -/
def Tst (H H' : Hp) : Prop := (∀ b xs, H b = some (.tup xs) → H' b = some (.tup xs)) ∧ ∀ b o u, H b = some (.frz o u) → H' b = some (.frz o u)
theorem Tst.refl (H : Hp) : Tst H H := ⟨fun _ _ h => h, fun _ _ _ h => h⟩
theorem Tst.trans {H H1 H2 : Hp} (a : Tst H H1) (b : Tst H1 H2) : Tst H H2 := ⟨fun c xs h => b.1 c xs (a.1 c xs h), fun c o u h => b.2 c o u (a.2 c o u h)⟩
/-- all but what lies in S stays, and tuples do in any case -/
def SB (S : Addr → Prop) (H H' : Hp) : Prop := Tst H H' ∧ ∀ b o, ¬ S b → H b = some o → H' b = some o
abbrev S0 : Addr → Prop := fun _ => False
theorem SB.refl {S : Addr → Prop} (H : Hp) : SB S H H := ⟨Tst.refl H, fun _ _ _ h => h⟩
theorem SB.trans {S : Addr → Prop} {H H1 H2 : Hp} (a : SB S H H1) (b : SB S H1 H2) : SB S H H2 := ⟨a.1.trans b.1, fun c o n h => b.2 c o n (a.2 c o n h)⟩
theorem SB.mono {S S' : Addr → Prop} {H H' : Hp} (a : SB S H H') (h : ∀ b, S b → S' b) : SB S' H H' := ⟨a.1, fun c o n e => a.2 c o (fun z => n (h c z)) e⟩
theorem SB.same {H H' : Hp} (a : SB S0 H H') : Same H H' := fun b o h => a.2 b o (fun z => z) h
theorem SB.any {S : Addr → Prop} {H H' : Hp} (a : SB S0 H H') : SB S H H' := a.mono fun _ z => z.elim
theorem SB.of_same {S : Addr → Prop} {H H' : Hp} (a : Same H H') : SB S H H' := ⟨⟨fun b xs h => a b _ h, fun b o u h => a b _ h⟩, fun b o _ h => a b o h⟩
theorem SB.new {S : Addr → Prop} {H : Hp} {p : Addr} {o : HO} (h : H p = none) : SB S H (upd H p o) := SB.of_same fun b x e => by
  rw [upd_ne (ne_of_none e h)]
  exact e
/-- a list or a dict is written -/
def Wr (o : HO) : Prop := (∃ xs, o = .lst xs) ∨ ∃ kvs, o = .dK kvs
theorem SB.put {S : Addr → Prop} {H : Hp} {p : Addr} {o u : HO} (h : H p = some o) (hw : Wr o) (hS : S p) : SB S H (upd H p u) := by
  have ne : ∀ b x, H b = some x → ¬ Wr x → b ≠ p := fun b x e n z => by
    subst z
    rw [h] at e
    cases e
    exact n hw
  refine ⟨⟨fun b xs e => ?_, fun b x y e => ?_⟩, fun b x n e => ?_⟩
  · rw [upd_ne (ne b _ e fun z => by rcases z with ⟨_, z⟩ | ⟨_, z⟩ <;> cases z)]
    exact e
  · rw [upd_ne (ne b _ e fun z => by rcases z with ⟨_, z⟩ | ⟨_, z⟩ <;> cases z)]
    exact e
  · rw [upd_ne (fun z => n (by rw [z]; exact hS))]
    exact e
/-- S may leave out what was not there at the start -/
theorem SB.less {S S' : Addr → Prop} {H H' : Hp} (a : SB S H H') (h : ∀ b, S b → S' b ∨ H b = none) : SB S' H H' :=
  ⟨a.1, fun c o n e => a.2 c o (fun z => by
    rcases h c z with q | q
    · exact n q
    · rw [q] at e; cases e) e⟩
theorem SB.sqT {S : Addr → Prop} {K : PySem.W.Frag} {H H' : Hp} {a : Addr} {xs : List V} (s : SB S H H') (h : SqT K H a xs) : SqT K H' a xs := by
  rcases h with (h | ⟨o, h⟩) | h
  · exact .inl (.inl (s.1.1 _ _ h))
  · exact .inl (.inr ⟨o, s.1.2 _ _ _ h⟩)
  · exact .inr h
theorem Tst.sqT {K : PySem.W.Frag} {H H' : Hp} {a : Addr} {xs : List V} (s : Tst H H') (h : SqT K H a xs) : SqT K H' a xs := by
  rcases h with (h | ⟨o, h⟩) | h
  · exact .inl (.inl (s.1 _ _ h))
  · exact .inl (.inr ⟨o, s.2 _ _ _ h⟩)
  · exact .inr h
theorem SB.sqL {S : Addr → Prop} {K : PySem.W.Frag} {H H' : Hp} {a : Addr} {xs : List V} (s : SB S H H') (n : ¬ S a) (h : SqL K H a xs) : SqL K H' a xs := by
  rcases h with (h | ⟨o, h⟩) | h
  · exact .inl (.inl (s.2 _ _ n h))
  · exact .inl (.inr ⟨o, s.1.2 _ _ _ h⟩)
  · exact .inr h
/-! ### data that never changes -/
abbrev RR (α : Type) := Hp → V → α → Prop
def Mono {α : Type} (r : RR α) : Prop := ∀ H H' v x, Tst H H' → r H v x → r H' v x
def rI : RR Int := fun _ v i => v = .int i
def rT {α : Type} (K : PySem.W.Frag) (r : RR α) : RR (List α) := fun H v xs => ∃ a vs, v = .ref a ∧ SqT K H a vs ∧ Paired (r H) vs xs
def rP {α β : Type} (K : PySem.W.Frag) (r : RR α) (s : RR β) : RR (α × β) := fun H v x => ∃ a u w, v = .ref a ∧ SqT K H a [u, w] ∧ r H u x.1 ∧ s H w x.2
theorem mono_I : Mono rI := fun _ _ _ _ _ h => h
theorem Paired.imp {α β : Type} {F G : α → β → Prop} : ∀ {l₁ : List α} {l₂ : List β}, Paired F l₁ l₂ → (∀ a b, F a b → G a b) → Paired G l₁ l₂
  | _, _, .nil, _ => .nil
  | _, _, .cons r t, f => .cons (f _ _ r) (Paired.imp t f)
theorem mono_T {α : Type} {K : PySem.W.Frag} {r : RR α} (m : Mono r) : Mono (rT K r) := fun H H' v xs t ⟨a, vs, e, h, p⟩ => ⟨a, vs, e, t.sqT h, Paired.imp p fun a b h => m _ _ _ _ t h⟩
theorem mono_P {α β : Type} {K : PySem.W.Frag} {r : RR α} {s : RR β} (m : Mono r) (m' : Mono s) : Mono (rP K r s) := fun H H' v xs t ⟨a, u, w, e, h, p, q⟩ => ⟨a, u, w, e, t.sqT h, m _ _ _ _ t p, m' _ _ _ _ t q⟩
theorem paired_ints : ∀ {vs : List V} {xs : List Int} {H : Hp}, Paired (rI H) vs xs → vs = xs.map V.int
  | _, _, _, .nil => rfl
  | _, _, _, .cons r t => by rw [paired_ints t, show _ = _ from r]; rfl
theorem ints_paired (H : Hp) : ∀ xs : List Int, Paired (rI H) (xs.map V.int) xs
  | [] => .nil
  | x :: xs => .cons rfl (ints_paired H xs)
/-- a tuple of ints -/
def rTI (K : PySem.W.Frag) : RR (List Int) := fun H v xs => ∃ a, v = .ref a ∧ SqT K H a (xs.map V.int)
theorem mono_TI {K : PySem.W.Frag} : Mono (rTI K) := fun H H' v xs t ⟨a, e, h⟩ => ⟨a, e, t.sqT h⟩
/-- a list of such data -/
def LsR {α : Type} (K : PySem.W.Frag) (r : RR α) (H : Hp) (a : Addr) (xs : List α) : Prop := ∃ vs, SqL K H a vs ∧ Paired (r H) vs xs
theorem Paired.get {α β : Type} {F : α → β → Prop} : ∀ {l₁ : List α} {l₂ : List β} {i : Nat} {x : α}, Paired F l₁ l₂ → l₁[i]? = some x → ∃ y, l₂[i]? = some y ∧ F x y
  | _, _, _, _, .nil, e => by simp at e
  | _, _, 0, _, .cons r _, e => by simp at e; subst e; exact ⟨_, rfl, r⟩
  | _, _, i + 1, x, .cons _ t, e => by
    obtain ⟨u, h1, h2⟩ := Paired.get (i := i) (x := x) t (by simpa using e)
    exact ⟨u, by simpa using h1, h2⟩
theorem Paired.get2 {α β : Type} {F : α → β → Prop} : ∀ {l₁ : List α} {l₂ : List β} {i : Nat} {y : β}, Paired F l₁ l₂ → l₂[i]? = some y → ∃ x, l₁[i]? = some x ∧ F x y
  | _, _, _, _, .nil, e => by simp at e
  | _, _, 0, _, .cons r _, e => by simp at e; subst e; exact ⟨_, rfl, r⟩
  | _, _, i + 1, x, .cons _ t, e => by
    obtain ⟨u, h1, h2⟩ := Paired.get2 (i := i) (y := x) t (by simpa using e)
    exact ⟨u, by simpa using h1, h2⟩
theorem Paired.app {α β : Type} {F : α → β → Prop} : ∀ {l₁ l₃ : List α} {l₂ l₄ : List β}, Paired F l₁ l₂ → Paired F l₃ l₄ → Paired F (l₁ ++ l₃) (l₂ ++ l₄)
  | _, _, _, _, .nil, q => q
  | _, _, _, _, .cons r t, q => .cons r (Paired.app t q)
/-! ### what is walked -/
/-- J walks n items, as long as only what lies in S is changed -/
structure Walks (S : Addr → Prop) (J : It) (H1 : Hp) (n : Nat) (item : Nat → V → Hp → Prop) : Prop where
  go : ∀ i H, i < n → SB S H1 H → J.go i H
  yld : ∀ i H x H', i < n → SB S H1 H → J.yld i H x H' → SB S0 H H' ∧ item i x H'
  stop : ∀ H, SB S H1 H → J.stop n H
theorem walks_tup {S : Addr → Prop} {K : PySem.W.Frag} {H : Hp} {a : Addr} {xs : List V} (h : SqT K H a xs) : Walks S (Itt K a) H xs.length (fun i x _ => xs[i]? = some x) :=
  ⟨fun i H' hi s => ⟨xs, xs[i], s.sqT h, List.getElem?_eq_getElem hi⟩, fun i H' x H2 hi s y => by
    obtain ⟨e, y⟩ := y
    subst e
    exact ⟨SB.refl _, y xs (s.sqT h)⟩, fun H' s => ⟨xs, s.sqT h, Nat.le_refl _⟩⟩
theorem walks_list {S : Addr → Prop} {K : PySem.W.Frag} {H : Hp} {a : Addr} {xs : List V} (n : ¬ S a) (h : SqL K H a xs) : Walks S (Itl K a) H xs.length (fun i x _ => xs[i]? = some x) :=
  ⟨fun i H' hi s => ⟨xs, xs[i], s.sqL n h, List.getElem?_eq_getElem hi⟩, fun i H' x H2 hi s y => by
    obtain ⟨e, y⟩ := y
    subst e
    exact ⟨SB.refl _, y xs (s.sqL n h)⟩, fun H' s => ⟨xs, s.sqL n h, Nat.le_refl _⟩⟩
theorem walks_range {S : Addr → Prop} {H : Hp} {lo : Int} {n : Nat} : Walks S (Itr lo n) H n (fun i x _ => x = .int (lo + i)) :=
  ⟨fun i H' hi s => hi, fun i H' x H2 hi s y => by
    obtain ⟨e, y⟩ := y
    subst e
    exact ⟨SB.refl _, y⟩, fun H' s => Nat.le_refl _⟩
theorem walks_zipT {S : Addr → Prop} {K : PySem.W.Frag} {H : Hp} {a b : Addr} {xs ys : List V} (h : SqT K H a xs) (h' : SqT K H b ys) (hl : xs.length = ys.length) : Walks S (RZ.ItzT K a b) H xs.length (fun i v H' => ∃ T x y, v = .ref T ∧ SqT K H' T [x, y] ∧ xs[i]? = some x ∧ ys[i]? = some y) :=
  ⟨fun i H' hi s => ⟨xs, ys, xs[i], ys[i], s.sqT h, s.sqT h', List.getElem?_eq_getElem hi, List.getElem?_eq_getElem _⟩, fun i H' x H2 hi s y => by
    obtain ⟨T, u, w, e, hT, e2, q1, q2⟩ := y
    subst e e2
    exact ⟨SB.new hT, T, u, w, rfl, .inl (.inl upd_same), q1 _ (s.sqT h), q2 _ (s.sqT h')⟩, fun H' s => ⟨xs, ys, s.sqT h, s.sqT h', .inl (Nat.le_refl _)⟩⟩
/-- a for over what is walked -/
theorem for_walk {S : Addr → Prop} {J : It} {H1 : Hp} {n : Nat} {item : Nat → V → Hp → Prop} {g : TG} {tb : L2.TS} {D : Ends} {σ : L2.St} (Wk : Walks S J H1 n item) (Pv : Nat → L2.St → Hp → Prop) (h0 : Pv 0 σ H1)
    (hl : ∀ i σ H, i ≤ n → Pv i σ H → SB S H1 H)
    (hs : ∀ i x σ H H', i < n → Pv i σ H → SB S0 H H' → item i x H' → g x σ H' fun σ2 H2 => tb { D with nx := Pv (i + 1), ct := Pv (i + 1), bk := D.nx } σ2 H2) (hd : ∀ σ H, Pv n σ H → D.nx σ H) :
    ∃ W : Nat → Nat → L2.St → Hp → Prop, (∃ m, W 0 m σ H1) ∧ ∀ i m σ H, W i m σ H →
      (J.stop i H ∧ D.nx σ H) ∨ (J.go i H ∧ ∃ N : L2.St → Hp → Prop, (∀ σ' H', N σ' H' → ∃ m', m' < m ∧ W (i + 1) m' σ' H') ∧ ∀ x H', J.yld i H x H' → g x σ H' fun σ2 H2 => tb { D with nx := N, ct := N, bk := D.nx } σ2 H2) := by
  refine ⟨fun i m σ H => m = n - i ∧ i ≤ n ∧ Pv i σ H, ⟨n, rfl, Nat.zero_le _, h0⟩, ?_⟩
  rintro i m σ H ⟨rfl, hi, p⟩
  have q := hl i σ H hi p
  by_cases hlt : i < n
  · refine .inr ⟨Wk.go i H hlt q, Pv (i + 1), fun σ' H' p' => ⟨n - (i + 1), by omega, rfl, hlt, p'⟩, fun x H' y => ?_⟩
    obtain ⟨s, it⟩ := Wk.yld i H x H' hlt q y
    exact hs i x σ H H' hlt p s it
  · have e : i = n := by omega
    subst e
    exact .inl ⟨Wk.stop H q, hd σ H p⟩
/-- a list comprehension over what is walked; o: the item that a turn brings, if any -/
theorem lc_walk {β : Type} {S : Addr → Prop} {J : It} {H1 : Hp} {n : Nat} {item : Nat → V → Hp → Prop} {g : TG} {tt : TT} {te : TE} {vs : List Nat} {σ : L2.St} {Q : VK} {D : Addr}
    (Wk : Walks (fun b => S b ∨ b = D) J H1 n item) (hD : H1 D = none) (hz : n < sizeLine) (R : Hp → V → β → Prop)
    (os : Nat → Option β) (mono : ∀ H H' v y, SB (fun b => S b ∨ b = D) H H' → R H v y → R H' v y) (nS : ¬ S D)
    (he : ∀ i x H (QY : VK) (QN : Hp → Prop), i < n → SB S H1 H → (∃ us, H D = some (.lst us)) → item i x H →
      (∀ v H' y, os i = some y → SB S H H' → R H' v y → QY v H') → (∀ H', os i = none → SB S H H' → QN H') →
      g x (wipe σ vs) H fun σ2 H2 => wipe σ2 vs = wipe σ vs ∧ tt σ2 H2 fun b H3 => if b = true then te σ2 H3 QY else QN H3)
    (hd : ∀ Hf us, SB S H1 Hf → Hf D = some (.lst us) → Paired (R Hf) us ((List.range n).filterMap os) → Q (.ref D) Hf) :
    ∃ W : Nat → Nat → Hp → Prop, (∃ m, W 0 m (upd H1 D (.lst []))) ∧ ∀ i m H, W i m H →
      (J.stop i H ∧ Q (.ref D) H) ∨ (J.go i H ∧ ∃ Nx : Hp → Prop, (∀ H', Nx H' → ∃ m', m' < m ∧ W (i + 1) m' H') ∧ ∀ x H', J.yld i H x H' → g x (wipe σ vs) H' fun σ2 H2 => wipe σ2 vs = wipe σ vs ∧ tt σ2 H2 fun b H3 =>
        if b = true then te σ2 H3 fun y H4 => ∃ acc, H4 D = some (.lst acc) ∧ acc.length < sizeLine ∧ Nx (upd H4 D (.lst (acc ++ [y]))) else Nx H3) := by
  have less : ∀ {H}, SB (fun b => S b ∨ b = D) H1 H → SB S H1 H := fun {H} s => s.less fun b h => by
    rcases h with h | h
    · exact .inl h
    · rw [h]; exact .inr hD
  have more : ∀ {H H'}, SB S H H' → SB (fun b => S b ∨ b = D) H H' := fun {H H'} s => s.mono fun _ h => .inl h
  let Pv : Nat → Hp → Prop := fun i H => SB (fun b => S b ∨ b = D) H1 H ∧ ∃ us, H D = some (.lst us) ∧ us.length ≤ i ∧ Paired (R H) us ((List.range i).filterMap os)
  refine ⟨fun i m H => m = n - i ∧ i ≤ n ∧ Pv i H, ⟨n, rfl, Nat.zero_le _, SB.new hD, [], upd_same, Nat.le_refl _, .nil⟩, ?_⟩
  rintro i m H ⟨rfl, hi, s, us, hu, hn, p⟩
  by_cases hlt : i < n
  · refine .inr ⟨Wk.go i H hlt s, Pv (i + 1), fun H' p' => ⟨n - (i + 1), by omega, rfl, hlt, p'⟩, fun x H' y => ?_⟩
    obtain ⟨s', it⟩ := Wk.yld i H x H' hlt s y
    have s2 : SB (fun b => S b ∨ b = D) H1 H' := s.trans s'.any
    have hu' : H' D = some (.lst us) := s'.2 _ _ (fun z => z) hu
    refine he i x H' _ _ hlt (less s2) ⟨us, hu'⟩ it (fun v H4 yy e s4 r => ?_) (fun H4 e s4 => ?_)
    · have h4 : H4 D = some (.lst us) := s4.2 _ _ nS hu'
      have sp : SB (fun b => S b ∨ b = D) H4 (upd H4 D (.lst (us ++ [v]))) := SB.put h4 (.inl ⟨_, rfl⟩) (.inr rfl)
      refine ⟨us, h4, by omega, (s2.trans (more s4)).trans sp, us ++ [v], upd_same, by simpa using hn, ?_⟩
      rw [List.range_succ, List.filterMap_append]
      refine Paired.app (Paired.imp p fun a b h => mono _ _ _ _ ((s'.any.trans (more s4)).trans sp) h) ?_
      simp only [List.filterMap_cons, e, List.filterMap_nil]
      exact .cons (mono _ _ _ _ sp r) .nil
    · have h4 : H4 D = some (.lst us) := s4.2 _ _ nS hu'
      refine ⟨s2.trans (more s4), us, h4, by omega, ?_⟩
      rw [List.range_succ, List.filterMap_append]
      simp only [List.filterMap_cons, e, List.filterMap_nil, List.append_nil]
      exact Paired.imp p fun a b h => mono _ _ _ _ (s'.any.trans (more s4)) h
  · have e : i = n := by omega
    subst e
    exact .inl ⟨Wk.stop H s, hd H us (less s) hu p⟩
/-- the reading of a for over a list or a tuple, behind the value of what is walked -/
theorem seq_for {S : Addr → Prop} {K : PySem.W.Frag} {a : Addr} {xs : List V} {g : TG} {tb : L2.TS} {D : Ends} {σ : L2.St} {H : Hp} (hq : SqA K H a xs) (na : ¬ S a) (Pv : Nat → L2.St → Hp → Prop) (h0 : Pv 0 σ H)
    (hl : ∀ i σ H', i ≤ xs.length → Pv i σ H' → SB S H H')
    (hs : ∀ i x σ H', xs[i]? = some x → Pv i σ H' → g x σ H' fun σ2 H2 => tb { D with nx := Pv (i + 1), ct := Pv (i + 1), bk := D.nx } σ2 H2) (hd : ∀ σ H', Pv xs.length σ H' → D.nx σ H') :
    ∃ a', V.ref a = V.ref a' ∧ (((∃ xs, SqL K H a' xs) ∧ (fun J H1 => ∃ W : Nat → Nat → L2.St → Hp → Prop, (∃ m, W 0 m σ H1) ∧ ∀ i m σ H, W i m σ H →
      (It.stop J i H ∧ D.nx σ H) ∨ (It.go J i H ∧ ∃ N : L2.St → Hp → Prop, (∀ σ' H', N σ' H' → ∃ m', m' < m ∧ W (i + 1) m' σ' H') ∧ ∀ x H', It.yld J i H x H' → g x σ H' fun σ2 H2 => tb { D with nx := N, ct := N, bk := D.nx } σ2 H2)) (Itl K a') H) ∨
      ((∃ xs, SqT K H a' xs) ∧ (fun J H1 => ∃ W : Nat → Nat → L2.St → Hp → Prop, (∃ m, W 0 m σ H1) ∧ ∀ i m σ H, W i m σ H →
      (It.stop J i H ∧ D.nx σ H) ∨ (It.go J i H ∧ ∃ N : L2.St → Hp → Prop, (∀ σ' H', N σ' H' → ∃ m', m' < m ∧ W (i + 1) m' σ' H') ∧ ∀ x H', It.yld J i H x H' → g x σ H' fun σ2 H2 => tb { D with nx := N, ct := N, bk := D.nx } σ2 H2)) (Itt K a') H)) := by
  refine ⟨a, rfl, ?_⟩
  rcases hq with hq | hq
  · refine .inl ⟨⟨xs, hq⟩, for_list (xs := xs) Pv h0 (fun i σ H' hi p => (hl i σ H' hi p).sqL na hq) hs hd⟩
  · refine .inr ⟨⟨xs, hq⟩, for_tup (xs := xs) Pv h0 (fun i σ H' hi p => (hl i σ H' hi p).sqT hq) hs hd⟩
/-- the reading of a comprehension over a list or a tuple -/
theorem seq_lc {β : Type} {S : Addr → Prop} {K : PySem.W.Frag} {a : Addr} {xs : List V} {g : TG} {tt : TT} {te : TE} {vs : List Nat} {σ : L2.St} {H : Hp} {Q : VK} (hq : SqA K H a xs) (na : ¬ S a) (hz : xs.length < sizeLine)
    (R : Hp → V → β → Prop) (os : Nat → Option β) (mono : ∀ D H1 H' v y, H D = none → SB (fun b => S b ∨ b = D) H1 H' → R H1 v y → R H' v y) (nS : ∀ D, H D = none → ¬ S D)
    (he : ∀ i x H' (QY : VK) (QN : Hp → Prop), xs[i]? = some x → SB S H H' →
      (∀ v H2 y, os i = some y → SB S H' H2 → R H2 v y → QY v H2) → (∀ H2, os i = none → SB S H' H2 → QN H2) →
      g x (wipe σ vs) H' fun σ2 H2 => wipe σ2 vs = wipe σ vs ∧ tt σ2 H2 fun b H3 => if b = true then te σ2 H3 QY else QN H3)
    (hd : ∀ D Hf us, H D = none → SB S H Hf → Hf D = some (.lst us) → Paired (R Hf) us ((List.range xs.length).filterMap os) → Q (.ref D) Hf) :
    ∃ a', V.ref a = V.ref a' ∧ (((∃ xs, SqL K H a' xs) ∧ (fun J H1 => ∀ D, H1 D = none → ∃ W : Nat → Nat → Hp → Prop, (∃ m, W 0 m (upd H1 D (.lst []))) ∧ ∀ i m H, W i m H →
      (It.stop J i H ∧ Q (.ref D) H) ∨ (It.go J i H ∧ ∃ Nx : Hp → Prop, (∀ H', Nx H' → ∃ m', m' < m ∧ W (i + 1) m' H') ∧ ∀ x H', It.yld J i H x H' → g x (wipe σ vs) H' fun σ2 H2 => wipe σ2 vs = wipe σ vs ∧ tt σ2 H2 fun b H3 =>
        if b = true then te σ2 H3 fun y H4 => ∃ acc, H4 D = some (.lst acc) ∧ acc.length < sizeLine ∧ Nx (upd H4 D (.lst (acc ++ [y]))) else Nx H3)) (Itl K a') H) ∨
      ((∃ xs, SqT K H a' xs) ∧ (fun J H1 => ∀ D, H1 D = none → ∃ W : Nat → Nat → Hp → Prop, (∃ m, W 0 m (upd H1 D (.lst []))) ∧ ∀ i m H, W i m H →
      (It.stop J i H ∧ Q (.ref D) H) ∨ (It.go J i H ∧ ∃ Nx : Hp → Prop, (∀ H', Nx H' → ∃ m', m' < m ∧ W (i + 1) m' H') ∧ ∀ x H', It.yld J i H x H' → g x (wipe σ vs) H' fun σ2 H2 => wipe σ2 vs = wipe σ vs ∧ tt σ2 H2 fun b H3 =>
        if b = true then te σ2 H3 fun y H4 => ∃ acc, H4 D = some (.lst acc) ∧ acc.length < sizeLine ∧ Nx (upd H4 D (.lst (acc ++ [y]))) else Nx H3)) (Itt K a') H)) := by
  refine ⟨a, rfl, ?_⟩
  rcases hq with hq | hq
  · refine .inl ⟨⟨xs, hq⟩, fun D hD => ?_⟩
    have aD : H a = none ∨ a ≠ D := by
      by_cases z : a = D
      · subst z; exact .inl hD
      · exact .inr z
    by_cases z : a = D
    · -- the list stands in the written part: a new object lies elsewhere; here it is not tracked
      subst z
      have hk : ∀ H', SqL K H' a xs := by
        rcases hq with (q | ⟨o, q⟩) | q
        · rw [hD] at q; cases q
        · rw [hD] at q; cases q
        · exact fun H' => .inr q
      refine lc_walk (S := S) (n := xs.length) (item := fun i x _ => xs[i]? = some x) ⟨fun i H' hi s => ⟨xs, xs[i], hk _, List.getElem?_eq_getElem hi⟩, fun i H' x H2 hi s y => ?_, fun H' s => ⟨xs, hk _, Nat.le_refl _⟩⟩ hD hz R os (fun H1 H' v y => mono a H1 H' v y hD) (nS a hD) (fun i x H' QY QN hi s _ it => he i x H' QY QN it s) (hd a · · hD)
      obtain ⟨e, y⟩ := y
      subst e
      exact ⟨SB.refl _, y xs (hk _)⟩
    · refine lc_walk (S := S) (n := xs.length) (walks_list (fun q => q.elim na z) hq) hD hz R os (fun H1 H' v y => mono D H1 H' v y hD) (nS D hD) (fun i x H' QY QN hi s _ it => he i x H' QY QN it s) (hd D · · hD)
  · refine .inr ⟨⟨xs, hq⟩, fun D hD => ?_⟩
    refine lc_walk (S := S) (n := xs.length) (walks_tup hq) hD hz R os (fun H1 H' v y => mono D H1 H' v y hD) (nS D hD) (fun i x H' QY QN hi s _ it => he i x H' QY QN it s) (hd D · · hD)
theorem range_get {β : Type} (ys : List β) : (List.range ys.length).filterMap (fun i => ys[i]?) = ys := by
  induction ys with
  | nil => rfl
  | cons y ys ih =>
    rw [List.length_cons, List.range_succ_eq_map, List.filterMap_cons]
    show y :: List.filterMap (fun i => (y :: ys)[i]?) (List.map Nat.succ (List.range ys.length)) = y :: ys
    rw [List.filterMap_map]
    congr 1
/-- .. where each turn brings one item -/
theorem seq_map {β : Type} {S : Addr → Prop} {K : PySem.W.Frag} {a : Addr} {xs : List V} {g : TG} {te : TE} {vs : List Nat} {σ : L2.St} {H : Hp} {Q : VK} (hq : SqA K H a xs) (na : ¬ S a) (hz : xs.length < sizeLine)
    (R : RR β) (ys : List β) (hy : ys.length = xs.length) (mono : Mono R) (nS : ∀ D, H D = none → ¬ S D)
    (he : ∀ (i : Nat) x y H' (QY : VK), xs[i]? = some x → ys[i]? = some y → SB S H H' → (∀ v H2, SB S H' H2 → R H2 v y → QY v H2) → g x (wipe σ vs) H' fun σ2 H2 => wipe σ2 vs = wipe σ vs ∧ te σ2 H2 QY)
    (hg : ∀ x σ H Q Q', (∀ σ2 H2, Q σ2 H2 → Q' σ2 H2) → g x σ H Q → g x σ H Q')
    (hd : ∀ D Hf us, H D = none → SB S H Hf → Hf D = some (.lst us) → Paired (R Hf) us ys → Q (.ref D) Hf) :
    ∃ a', V.ref a = V.ref a' ∧ (((∃ xs, SqL K H a' xs) ∧ (fun J H1 => ∀ D, H1 D = none → ∃ W : Nat → Nat → Hp → Prop, (∃ m, W 0 m (upd H1 D (.lst []))) ∧ ∀ i m H, W i m H →
      (It.stop J i H ∧ Q (.ref D) H) ∨ (It.go J i H ∧ ∃ Nx : Hp → Prop, (∀ H', Nx H' → ∃ m', m' < m ∧ W (i + 1) m' H') ∧ ∀ x H', It.yld J i H x H' → g x (wipe σ vs) H' fun σ2 H2 => wipe σ2 vs = wipe σ vs ∧ tYes σ2 H2 fun b H3 =>
        if b = true then te σ2 H3 fun y H4 => ∃ acc, H4 D = some (.lst acc) ∧ acc.length < sizeLine ∧ Nx (upd H4 D (.lst (acc ++ [y]))) else Nx H3)) (Itl K a') H) ∨
      ((∃ xs, SqT K H a' xs) ∧ (fun J H1 => ∀ D, H1 D = none → ∃ W : Nat → Nat → Hp → Prop, (∃ m, W 0 m (upd H1 D (.lst []))) ∧ ∀ i m H, W i m H →
      (It.stop J i H ∧ Q (.ref D) H) ∨ (It.go J i H ∧ ∃ Nx : Hp → Prop, (∀ H', Nx H' → ∃ m', m' < m ∧ W (i + 1) m' H') ∧ ∀ x H', It.yld J i H x H' → g x (wipe σ vs) H' fun σ2 H2 => wipe σ2 vs = wipe σ vs ∧ tYes σ2 H2 fun b H3 =>
        if b = true then te σ2 H3 fun y H4 => ∃ acc, H4 D = some (.lst acc) ∧ acc.length < sizeLine ∧ Nx (upd H4 D (.lst (acc ++ [y]))) else Nx H3)) (Itt K a') H)) := by
  refine seq_lc (tt := tYes) hq na hz R (fun i => ys[i]?) (fun D H1 H' v y _ s r => mono _ _ _ _ s.1 r) nS (fun i x H' QY QN hx s h1 h2 => ?_) (fun D Hf us hD s h p => hd D Hf us hD s h ?_)
  · have hi : i < ys.length := by
      rw [hy]
      exact (List.getElem?_eq_some_iff.mp hx).1
    refine hg _ _ _ _ _ (fun σ2 H2 z => ⟨z.1, ?_⟩) (he i x ys[i] H' QY hx (List.getElem?_eq_getElem hi) s fun v H2 s2 r => h1 v H2 _ (List.getElem?_eq_getElem hi) s2 r)
    show if true = true then te σ2 H2 QY else QN H2
    rw [if_pos rfl]
    exact z.2
  · rw [← hy, range_get] at p
    exact p
theorem gName_mono {i : Nat} : ∀ x σ H (Q Q' : L2.St → Hp → Prop), (∀ σ2 H2, Q σ2 H2 → Q' σ2 H2) → gName i x σ H Q → gName i x σ H Q' := fun _ _ _ _ _ f h => f _ _ h
/-! ### whole readings -/
theorem tfor_seq {S : Addr → Prop} {K : PySem.W.Frag} {a : Addr} {xs : List V} {tl : TE} {g : TG} {tb : L2.TS} {D : Ends} {σ : L2.St} {H0 H : Hp} (htl : ∀ R : VK, R (.ref a) H → tl σ H0 R) (hq : SqA K H a xs) (na : ¬ S a) (Pv : Nat → L2.St → Hp → Prop) (h0 : Pv 0 σ H)
    (hl : ∀ i σ H', i ≤ xs.length → Pv i σ H' → SB S H H')
    (hs : ∀ i x σ H', xs[i]? = some x → Pv i σ H' → g x σ H' fun σ2 H2 => tb { D with nx := Pv (i + 1), ct := Pv (i + 1), bk := D.nx } σ2 H2) (hd : ∀ σ H', Pv xs.length σ H' → D.nx σ H') :
    tFor (iSeq K tl) g tb D σ H0 := htl _ (seq_for hq na Pv h0 hl hs hd)
theorem tlc_seq {β : Type} {S : Addr → Prop} {K : PySem.W.Frag} {a : Addr} {xs : List V} {tl : TE} {g : TG} {tt : TT} {te : TE} {vs : List Nat} {σ : L2.St} {H0 H : Hp} {Q : VK} (htl : ∀ R : VK, R (.ref a) H → tl σ H0 R) (hq : SqA K H a xs) (na : ¬ S a) (hz : xs.length < sizeLine)
    (R : Hp → V → β → Prop) (os : Nat → Option β) (mono : ∀ D H1 H' v y, H D = none → SB (fun b => S b ∨ b = D) H1 H' → R H1 v y → R H' v y) (nS : ∀ D, H D = none → ¬ S D)
    (he : ∀ (i : Nat) x H' (QY : VK) (QN : Hp → Prop), xs[i]? = some x → SB S H H' →
      (∀ v H2 y, os i = some y → SB S H' H2 → R H2 v y → QY v H2) → (∀ H2, os i = none → SB S H' H2 → QN H2) →
      g x (wipe σ vs) H' fun σ2 H2 => wipe σ2 vs = wipe σ vs ∧ tt σ2 H2 fun b H3 => if b = true then te σ2 H3 QY else QN H3)
    (hd : ∀ D Hf us, H D = none → SB S H Hf → Hf D = some (.lst us) → Paired (R Hf) us ((List.range xs.length).filterMap os) → Q (.ref D) Hf) :
    tLc (iSeq K tl) g tt te vs σ H0 Q := htl _ (seq_lc hq na hz R os mono nS he hd)
theorem tlc_map {β : Type} {S : Addr → Prop} {K : PySem.W.Frag} {a : Addr} {xs : List V} {tl : TE} {g : TG} {te : TE} {vs : List Nat} {σ : L2.St} {H0 H : Hp} {Q : VK} (htl : ∀ R : VK, R (.ref a) H → tl σ H0 R) (hq : SqA K H a xs) (na : ¬ S a) (hz : xs.length < sizeLine)
    (R : RR β) (ys : List β) (hy : ys.length = xs.length) (mono : Mono R) (nS : ∀ D, H D = none → ¬ S D)
    (he : ∀ (i : Nat) x y H' (QY : VK), xs[i]? = some x → ys[i]? = some y → SB S H H' → (∀ v H2, SB S H' H2 → R H2 v y → QY v H2) → g x (wipe σ vs) H' fun σ2 H2 => wipe σ2 vs = wipe σ vs ∧ te σ2 H2 QY)
    (hg : ∀ x σ H Q Q', (∀ σ2 H2, Q σ2 H2 → Q' σ2 H2) → g x σ H Q → g x σ H Q')
    (hd : ∀ D Hf us, H D = none → SB S H Hf → Hf D = some (.lst us) → Paired (R Hf) us ys → Q (.ref D) Hf) :
    tLc (iSeq K tl) g tYes te vs σ H0 Q := htl _ (seq_map hq na hz R ys hy mono nS he hg hd)
theorem tVar_at {i : Nat} {σ : L2.St} {H : Hp} {v : V} (h : σ[i]? = some (some v)) (R : VK) (r : R v H) : tVar i σ H R := ⟨v, h, r⟩
/-- over a range -/
theorem tlc_range {β : Type} {S : Addr → Prop} {ta : TA} {n : Int} {g : TG} {te : TE} {vs : List Nat} {σ : L2.St} {H0 H : Hp} {Q : VK} (hta : ∀ R : List V → Hp → Prop, R [.int n] H → ta σ H0 R) (h0 : 0 ≤ n) (hz : n.toNat < sizeLine) (hn : n < 2 ^ 62)
    (R : RR β) (P : Nat → β → Prop) (mono : Mono R) (nS : ∀ D, H D = none → ¬ S D)
    (hg : ∀ x σ H Q Q', (∀ σ2 H2, Q σ2 H2 → Q' σ2 H2) → g x σ H Q → g x σ H Q') (J : Hp → Prop)
    (hJ : J H) (hJk : ∀ H H', J H → SB S0 H H' → J H') (hJp : ∀ H D xs, J H → H0 D = none → H D = some (.lst xs) → ∀ ys, J (upd H D (.lst ys)))
    (he : ∀ (i : Nat) H' (QY : VK), i < n.toNat → SB S H H' → J H' → (∀ v H2 y, P i y → SB S H' H2 → J H2 → R H2 v y → QY v H2) → g (.int i) (wipe σ vs) H' fun σ2 H2 => wipe σ2 vs = wipe σ vs ∧ te σ2 H2 QY)
    (hd : ∀ D Hf us ys, H D = none → SB S H Hf → J Hf → Hf D = some (.lst us) → Paired (R Hf) us ys → ys.length = n.toNat → (∀ i y, ys[i]? = some y → P i y) → Q (.ref D) Hf) (hH : ∀ D, H D = none → H0 D = none) :
    tLc (iRng1 ta) g tYes te vs σ H0 Q := by
  refine hta _ ⟨n, rfl, by omega, hn, fun D hD => ?_⟩
  let Pv : Nat → Hp → Prop := fun i H' => SB (fun b => S b ∨ b = D) H H' ∧ J H' ∧ ∃ us ys, H' D = some (.lst us) ∧ ys.length = i ∧ Paired (R H') us ys ∧ ∀ j y, ys[j]? = some y → P j y
  have less : ∀ {H'}, SB (fun b => S b ∨ b = D) H H' → SB S H H' := fun {H'} s => s.less fun b h => by
    rcases h with h | h
    · exact .inl h
    · rw [h]; exact .inr hD
  have more : ∀ {H H'}, SB S H H' → SB (fun b => S b ∨ b = D) H H' := fun {H H'} s => s.mono fun _ h => .inl h
  refine lc_range (lo := 0) (n := n.toNat) (Qd := fun H' => Q (.ref D) H') Pv ⟨SB.new hD, hJk _ _ hJ (SB.new hD), [], [], upd_same, rfl, .nil, fun j y h => by simp at h⟩ ?_ ?_
  · rintro i H' hi ⟨s, j, us, ys, hu, hl, p, hp⟩
    have lp : ∀ {us : List V} {ys : List β}, Paired (R H') us ys → us.length = ys.length := fun q => Paired.length q
    rw [show ((0 : Int) + (i : Int)) = (i : Int) by omega]
    refine hg _ _ _ _ _ (fun σ2 H2 z => ⟨z.1, ?_⟩) (he i H' (fun y H4 => ∃ acc, H4 D = some (.lst acc) ∧ acc.length < sizeLine ∧ Pv (i + 1) (upd H4 D (.lst (acc ++ [y])))) hi (less s) j fun v H2 y hP s2 j2 r => ?_)
    · show if true = true then te σ2 H2 _ else Pv (i + 1) H2
      rw [if_pos rfl]
      exact z.2
    · have h2 : H2 D = some (.lst us) := s2.2 _ _ (nS D hD) hu
      have sp : SB (fun b => S b ∨ b = D) H2 (upd H2 D (.lst (us ++ [v]))) := SB.put h2 (.inl ⟨_, rfl⟩) (.inr rfl)
      refine ⟨us, h2, by rw [lp p, hl]; omega, (s.trans (more s2)).trans sp, hJp _ _ _ j2 (hH D hD) h2 _, us ++ [v], ys ++ [y], upd_same, by simp [hl], Paired.app (Paired.imp p fun a b h => mono _ _ _ _ ((more s2).trans sp).1 h) (.cons (mono _ _ _ _ sp.1 r) .nil), fun k z hk => ?_⟩
      rw [List.getElem?_append] at hk
      split at hk
      · exact hp k z hk
      · have : k = ys.length := by
          have := (List.getElem?_eq_some_iff.mp hk).1
          simp at this
          omega
        subst this
        simp at hk
        rw [← hk, hl]
        exact hP
  · rintro H' ⟨s, j, us, ys, hu, hl, p, hp⟩
    exact hd D H' us ys hD (less s) j hu p hl hp
/-! ### over anything that is walked -/
theorem tlc_walk {β : Type} {S : Addr → Prop} {wi : TI} {J : It} {n : Nat} {item : Nat → V → Hp → Prop} {g : TG} {tt : TT} {te : TE} {vs : List Nat} {σ : L2.St} {H0 H : Hp} {Q : VK} (hwi : ∀ R : It → Hp → Prop, R J H → wi σ H0 R)
    (Wk : ∀ D, H D = none → Walks (fun b => S b ∨ b = D) J H n item) (hz : n < sizeLine) (R : Addr → Hp → V → β → Prop) (os : Nat → Option β)
    (mono : ∀ D H1 H' v y, H D = none → SB (fun b => S b ∨ b = D) H1 H' → R D H1 v y → R D H' v y) (nS : ∀ D, H D = none → ¬ S D)
    (he : ∀ D i x H' (QY : VK) (QN : Hp → Prop), H D = none → i < n → SB S H H' → (∃ us, H' D = some (.lst us)) → item i x H' →
      (∀ v H2 y, os i = some y → SB S H' H2 → R D H2 v y → QY v H2) → (∀ H2, os i = none → SB S H' H2 → QN H2) →
      g x (wipe σ vs) H' fun σ2 H2 => wipe σ2 vs = wipe σ vs ∧ tt σ2 H2 fun b H3 => if b = true then te σ2 H3 QY else QN H3)
    (hd : ∀ D Hf us, H D = none → SB S H Hf → Hf D = some (.lst us) → Paired (R D Hf) us ((List.range n).filterMap os) → Q (.ref D) Hf) :
    tLc wi g tt te vs σ H0 Q :=
  hwi _ fun D hD => lc_walk (Wk D hD) hD hz (R D) os (fun H1 H' v y => mono D H1 H' v y hD) (nS D hD) (fun i x H' QY QN => he D i x H' QY QN hD) (hd D · · hD)
theorem tfor_walk {S : Addr → Prop} {wi : TI} {J : It} {n : Nat} {item : Nat → V → Hp → Prop} {g : TG} {tb : L2.TS} {D : Ends} {σ : L2.St} {H0 H : Hp} (hwi : ∀ R : It → Hp → Prop, R J H → wi σ H0 R) (Wk : Walks S J H n item) (Pv : Nat → L2.St → Hp → Prop) (h0 : Pv 0 σ H)
    (hl : ∀ i σ H', i ≤ n → Pv i σ H' → SB S H H')
    (hs : ∀ i x σ H1 H', i < n → Pv i σ H1 → SB S0 H1 H' → item i x H' → g x σ H' fun σ2 H2 => tb { D with nx := Pv (i + 1), ct := Pv (i + 1), bk := D.nx } σ2 H2) (hd : ∀ σ H', Pv n σ H' → D.nx σ H') : tFor wi g tb D σ H0 :=
  hwi _ (for_walk Wk Pv h0 hl hs hd)
theorem wi_list {K : PySem.W.Frag} {tl : TE} {a : Addr} {xs : List V} {σ : L2.St} {H0 H : Hp} (htl : ∀ R : VK, R (.ref a) H → tl σ H0 R) (h : SqL K H a xs) (R : It → Hp → Prop) (r : R (Itl K a) H) : iSeq K tl σ H0 R := htl _ ⟨a, rfl, .inl ⟨⟨xs, h⟩, r⟩⟩
theorem wi_tup {K : PySem.W.Frag} {tl : TE} {a : Addr} {xs : List V} {σ : L2.St} {H0 H : Hp} (htl : ∀ R : VK, R (.ref a) H → tl σ H0 R) (h : SqT K H a xs) (R : It → Hp → Prop) (r : R (Itt K a) H) : iSeq K tl σ H0 R := htl _ ⟨a, rfl, .inr ⟨⟨xs, h⟩, r⟩⟩
theorem wi_rng {ta : TA} {n : Int} {σ : L2.St} {H0 H : Hp} (hta : ∀ R : List V → Hp → Prop, R [.int n] H → ta σ H0 R) (h0 : 0 ≤ n) (h1 : n < 2 ^ 62) (R : It → Hp → Prop) (r : R (Itr 0 n.toNat) H) : iRng1 ta σ H0 R := hta _ ⟨n, rfl, by omega, h1, r⟩
theorem wi_zipT {K : PySem.W.Frag} {ta : TA} {a b : Addr} {xs ys : List V} {σ : L2.St} {H0 H : Hp} (hta : ∀ R : List V → Hp → Prop, R [.ref a, .ref b] H → ta σ H0 R) (h : SqT K H a xs) (h' : SqT K H b ys) (R : It → Hp → Prop) (r : R (RZ.ItzT K a b) H) : RZ.iZipA K ta σ H0 R :=
  hta _ ⟨a, b, xs, ys, rfl, .inr ⟨h, h', r⟩⟩
theorem wi_enT {K : PySem.W.Frag} {ta : TA} {a : Addr} {xs : List V} {σ : L2.St} {H0 H : Hp} (hta : ∀ R : List V → Hp → Prop, R [.ref a] H → ta σ H0 R) (h : SqT K H a xs) (R : It → Hp → Prop) (r : R (ItE K a) H) : iEnumS K ta σ H0 R := hta _ ⟨a, xs, rfl, .inr ⟨h, r⟩⟩
theorem wi_enL {K : PySem.W.Frag} {ta : TA} {a : Addr} {xs : List V} {σ : L2.St} {H0 H : Hp} (hta : ∀ R : List V → Hp → Prop, R [.ref a] H → ta σ H0 R) (h : SqL K H a xs) (R : It → Hp → Prop) (r : R (Ite K a) H) : iEnumS K ta σ H0 R := hta _ ⟨a, xs, rfl, .inl ⟨h, r⟩⟩
theorem walks_enT {S : Addr → Prop} {K : PySem.W.Frag} {H : Hp} {a : Addr} {xs : List V} (h : SqT K H a xs) : Walks S (ItE K a) H xs.length (fun i v H' => ∃ T x, v = .ref T ∧ SqT K H' T [.int (i : Nat), x] ∧ xs[i]? = some x) :=
  ⟨fun i H' hi s => ⟨xs, s.sqT h, hi⟩, fun i H' x H2 hi s y => by
    obtain ⟨T, u, e, hT, e2, q1⟩ := y
    subst e e2
    exact ⟨SB.new hT, T, u, rfl, .inl (.inl upd_same), q1 _ (s.sqT h)⟩, fun H' s => ⟨xs, s.sqT h, Nat.le_refl _⟩⟩
theorem walks_enL {S : Addr → Prop} {K : PySem.W.Frag} {H : Hp} {a : Addr} {xs : List V} (n : ¬ S a) (h : SqL K H a xs) : Walks S (Ite K a) H xs.length (fun i v H' => ∃ T x, v = .ref T ∧ SqT K H' T [.int (i : Nat), x] ∧ xs[i]? = some x) :=
  ⟨fun i H' hi s => ⟨xs, xs[i], s.sqL n h, List.getElem?_eq_getElem hi⟩, fun i H' x H2 hi s y => by
    obtain ⟨T, u, e, hT, e2, q1⟩ := y
    subst e e2
    exact ⟨SB.new hT, T, u, rfl, .inl (.inl upd_same), q1 _ (s.sqL n h)⟩, fun H' s => ⟨xs, s.sqL n h, Nat.le_refl _⟩⟩
/-- a list that is tracked stands apart from what is new -/
theorem walks_lst {S : Addr → Prop} {K : PySem.W.Frag} {H : Hp} {a : Addr} {xs : List V} (n : ¬ S a) (h : H a = some (.lst xs)) : ∀ D, H D = none → Walks (fun b => S b ∨ b = D) (Itl K a) H xs.length (fun i x _ => xs[i]? = some x) :=
  fun D hD => walks_list (fun z => z.elim n (ne_of_none h hD)) (SqL.of h)
/-- a turn without a test -/
theorem tyes {te : TE} {QY : VK} {QN : Hp → Prop} {σ : L2.St} {H : Hp} (h : te σ H QY) : tYes σ H fun b H3 => if b = true then te σ H3 QY else QN H3 := by
  show if true = true then te σ H QY else QN H
  rw [if_pos rfl]
  exact h
/-! ### readings opened one step at a time -/
theorem tTest_i {t : TE} {σ : L2.St} {H : Hp} {Q : Bool → Hp → Prop} (h : t σ H fun x H' => ∃ k, x = .bl k ∧ Q k H') : tTest t σ H Q := h
theorem tOp_i {r : R2} {ta tb : TE} {σ : L2.St} {H : Hp} {Q : VK} (h : ta σ H fun x H1 => tb σ H1 fun y H2 => r x y H2 Q) : tOp r ta tb σ H Q := h
theorem tCons_i {ta : TE} {tr : TA} {σ : L2.St} {H : Hp} {Q : List V → Hp → Prop} (h : ta σ H fun x H1 => tr σ H1 fun xs H2 => Q (x :: xs) H2) : tCons ta tr σ H Q := h
theorem tCB_i {r : List V → Hp → VK → Prop} {t : TA} {σ : L2.St} {H : Hp} {Q : VK} (h : t σ H fun vs H1 => r vs H1 Q) : tCB r t σ H Q := h
theorem tCall_i {sp : Sp} {dvs : List V} {E : XK} {t : TA} {σ : L2.St} {H : Hp} {Q : VK} (h : t σ H fun vs H1 => sp (vs ++ dvs) H1 Q E) : tCall sp dvs E t σ H Q := h
theorem tAsg_i {te : TE} {g : TG} {D : Ends} {σ : L2.St} {H : Hp} (h : te σ H fun x H1 => g x σ H1 D.nx) : tAsg te g D σ H := h
theorem tSeq_i {t u : L2.TS} {D : Ends} {σ : L2.St} {H : Hp} (h : t { D with nx := u D } σ H) : tSeq t u D σ H := h
theorem tRet_i {te : TE} {D : Ends} {σ : L2.St} {H : Hp} (h : te σ H D.rt) : tRet te D σ H := h
/-! ### the rules with the written part named -/
section
variable {X : Cx} {K : PySem.W.Frag}
theorem pi_seqK {tg l : Expr} {tl : TE} (hK : X.K = K) (hl : PE X l tl) : PI X tg l (iSeq K tl) := hK ▸ pi_seq hl
theorem ix_listK (hK : X.K = K) : IxR X (rIxL K) := hK ▸ ix_list
theorem ix_tupK (hK : X.K = K) : IxR X (rIxT K) := hK ▸ ix_tup
theorem op_eqDK (hK : X.K = K) (hu : X.A.units + 64 < cLine) : OpR X (compareOp .Eq) (rEqD K) := hK ▸ op_eqD hu
theorem op_neDK (hK : X.K = K) (hu : X.A.units + 64 < cLine) : OpR X (compareOp .NotEq) (rNeD K) := hK ▸ op_neD hu
theorem sl_listK (hK : X.K = K) : SlR X (rSlL K) := hK ▸ sl_list
theorem sl_tupK (hK : X.K = K) : SlR X (rSlT K) := hK ▸ sl_tup
theorem op_catTK (hK : X.K = K) : OpR X (binaryOp .Add) (rCatT K) := hK ▸ op_catT
def rTupOf (K : PySem.W.Frag) : List V → Hp → VK → Prop := fun xs H Q => ∃ p ys, xs = [.ref p] ∧ ((SqL K H p ys ∧ ∀ l, H l = none → Q (.ref l) (upd H l (.tup ys))) ∨ (SqT K H p ys ∧ Q (.ref p) H))
theorem tuple_ofK (hK : X.K = K) : CallR X (.type "tuple") (rTupOf K) := hK ▸ call_tuple_of
def rLstOf (K : PySem.W.Frag) : List V → Hp → VK → Prop := fun xs H Q => ∃ p ys, xs = [.ref p] ∧ (SqL K H p ys ∨ SqT K H p ys) ∧ ∀ l, H l = none → Q (.ref l) (upd H l (.lst ys))
theorem list_ofK (hK : X.K = K) : CallR X (.type "list") (rLstOf K) := hK ▸ call_list_of
def rLenOf (K : PySem.W.Frag) : List V → Hp → VK → Prop := fun xs H Q => ∃ p ys, xs = [.ref p] ∧ (SqL K H p ys ∨ SqT K H p ys) ∧ Q (.int ys.length) H
theorem len_ofK (hK : X.K = K) : CallR X (.builtin "len") (rLenOf K) := hK ▸ call_len_seq
theorem all_ofK (hK : X.K = K) (hc : X.calm = true) : CallR X (.builtin "all") (rAll K) := hK ▸ cr_all hc
theorem any_ofK (hK : X.K = K) (hc : X.calm = true) : CallR X (.builtin "any") (rAny K) := hK ▸ cr_any hc
theorem sum_ofK (hK : X.K = K) (hc : X.calm = true) : CallR X (.builtin "sum") (rSum K) := hK ▸ cr_sum hc
theorem isi_ofK (hK : X.K = K) : CallR X (.builtin "isinstance") (rIsi K) := hK ▸ call_isi
end
end CH

set_option Elab.async false
set_option linter.all false
set_option maxRecDepth 100000
namespace CH
open PySem PySem.Spec PyProof.Rows L2
/-! ### drawing -/
abbrev kN : Key := Sum.inr "numbers"
abbrev kA : Key := Sum.inr "at"
abbrev kR : Key := Sum.inr "rest"
abbrev kS : Key := Sum.inr "seed"
def dkv (a : Addr) (t r s : Int) : List (Key × V) := [(kN, .ref a), (kA, .int t), (kR, .int r), (kS, .int s)]
theorem dkv_N (a : Addr) (t r s : Int) : valV (dkv a t r s) kN = some (.ref a) := by rfl
theorem dkv_A (a : Addr) (t r s : Int) : valV (dkv a t r s) kA = some (.int t) := by rfl
theorem dkv_R (a : Addr) (t r s : Int) : valV (dkv a t r s) kR = some (.int r) := by rfl
theorem dkv_S (a : Addr) (t r s : Int) : valV (dkv a t r s) kS = some (.int s) := by rfl
theorem put_A (a : Addr) (t r s v : Int) : putK (dkv a t r s) kA (.int v) = dkv a v r s := by rfl
theorem put_R (a : Addr) (t r s v : Int) : putK (dkv a t r s) kR (.int v) = dkv a t v s := by rfl
theorem put_S (a : Addr) (t r s v : Int) : putK (dkv a t r s) kS (.int v) = dkv a t r v := by rfl
theorem merge_dkv (a : Addr) (t r s : Int) : mergeK [] [(kN, .ref a), (kA, .int t), (kR, .int r), (kS, .int s)] = dkv a t r s := by rfl
/-- a script that is being drawn from -/
structure DrAt (K : PySem.W.Frag) (H : Hp) (d a : Addr) (ns : List Int) (t r s : Int) : Prop where
  at_ : H d = some (.dK (dkv a t r s))
  seq : SqL K H a (ns.map V.int)
  t0 : 0 ≤ t
  r0 : 0 ≤ r
  s0 : 0 ≤ s
  s1 : s < 2147483647
def DrS (K : PySem.W.Frag) (H : Hp) (d a : Addr) (ns : List Int) : Prop := ∃ t r s, DrAt K H d a ns t r s
abbrev Sd (d : Addr) : Addr → Prop := fun b => b = d
theorem sqL_dict {K : PySem.W.Frag} {H H' : Hp} {d a : Addr} {kvs : List (Key × V)} {xs : List V} (h : H d = some (.dK kvs)) (s : SB (Sd d) H H') (q : SqL K H a xs) : SqL K H' a xs := by
  rcases q with (q | ⟨o, q⟩) | q
  · exact .inl (.inl (s.2 _ _ (ne_of q h (by intro z; cases z)) q))
  · exact .inl (.inr ⟨o, s.1.2 _ _ _ q⟩)
  · exact .inr q
theorem DrAt.put {K : PySem.W.Frag} {H : Hp} {d a : Addr} {ns : List Int} {t r s t' r' s' : Int} (h : DrAt K H d a ns t r s) (h1 : 0 ≤ t') (h2 : 0 ≤ r') (h3 : 0 ≤ s') (h4 : s' < 2147483647) :
    DrAt K (upd H d (.dK (dkv a t' r' s'))) d a ns t' r' s' ∧ SB (Sd d) H (upd H d (.dK (dkv a t' r' s'))) := by
  have sb : SB (Sd d) H (upd H d (.dK (dkv a t' r' s'))) := SB.put h.at_ (.inr ⟨_, rfl⟩) rfl
  exact ⟨⟨upd_same, sqL_dict h.at_ sb h.seq, h1, h2, h3, h4⟩, sb⟩
/-- what else happens does not touch it -/
theorem DrS.same {K : PySem.W.Frag} {H H' : Hp} {d a : Addr} {ns : List Int} (h : DrS K H d a ns) (s : SB S0 H H') : DrS K H' d a ns := by
  obtain ⟨t, r, z, q⟩ := h
  exact ⟨t, r, z, s.2 _ _ (fun z => z) q.at_, s.sqL (fun z => z) q.seq, q.t0, q.r0, q.s0, q.s1⟩
theorem DrS.ne {K : PySem.W.Frag} {H : Hp} {d a : Addr} {ns : List Int} (h : DrS K H d a ns) {D : Addr} (e : H D = none) : ¬ Sd d D := fun z => by
  obtain ⟨t, r, s, D0⟩ := h
  rw [show D = d from z, D0.at_] at e
  cases e
theorem DrS.ned {K : PySem.W.Frag} {H : Hp} {d a : Addr} {ns : List Int} (h : DrS K H d a ns) {D : Addr} {xs : List V} (e : H D = some (.lst xs)) : ¬ Sd d D := fun z => by
  obtain ⟨t, r, s, D0⟩ := h
  rw [show D = d from z, D0.at_] at e
  cases e
/-- a list that was new when the script stood already is written -/
theorem DrS.put {K : PySem.W.Frag} {H H1 : Hp} {d a D : Addr} {ns : List Int} {xs : List V} {o : HO} (h : DrS K H d a ns) (e : H D = none) (h1 : DrS K H1 d a ns) (e1 : H1 D = some (.lst xs)) : DrS K (upd H1 D o) d a ns := by
  obtain ⟨t0, r0, z0, D0⟩ := h
  obtain ⟨t, r, z, D1⟩ := h1
  have nd : d ≠ D := ne_of D1.at_ e1 (by intro z; cases z)
  refine ⟨t, r, z, ?_, ?_, D1.t0, D1.r0, D1.s0, D1.s1⟩
  · rw [upd_ne nd]
    exact D1.at_
  · rcases D0.seq with (q | ⟨o, q⟩) | q
    · have na : a ≠ D := ne_of_none q e
      rcases D1.seq with (p | ⟨o, p⟩) | p
      · exact .inl (.inl (by rw [upd_ne na]; exact p))
      · exact .inl (.inr ⟨o, by rw [upd_ne na]; exact p⟩)
      · exact .inr p
    · have na : a ≠ D := ne_of_none q e
      rcases D1.seq with (p | ⟨o, p⟩) | p
      · exact .inl (.inl (by rw [upd_ne na]; exact p))
      · exact .inl (.inr ⟨o, by rw [upd_ne na]; exact p⟩)
      · exact .inr p
    · exact .inr q
theorem mod_lt {i m : Int} (h : 0 < m) : 0 ≤ i % m ∧ i % m < m := ⟨Int.emod_nonneg i (by omega), Int.emod_lt_of_pos i h⟩
theorem div_nn {i m : Int} (h0 : 0 ≤ i) (h : 0 < m) : 0 ≤ i / m := Int.ediv_nonneg h0 (by omega)
theorem natAbs_lt {i : Int} {n : Nat} (h1 : -(n : Int) < i) (h2 : i < n) : i.natAbs < n := by omega
theorem ints_get {xs : List Int} {i : Nat} {x : V} (h : (xs.map V.int)[i]? = some x) : ∃ n, xs[i]? = some n ∧ x = .int n := by
  rw [List.getElem?_map] at h
  obtain ⟨n, h1, h2⟩ := Option.map_eq_some_iff.mp h
  exact ⟨n, h1, h2.symm⟩
theorem abs_if (n : Int) : (if n < 0 then -n else n) = (n.natAbs : Int) := by
  split <;> omega
theorem tyT {K : PySem.W.Frag} {H : Hp} {a : Addr} {xs : List V} (h : SqT K H a xs) : TyX K H (.ref a) (.type "tuple") := by
  rcases h with (h | ⟨o, h⟩) | ⟨o, its, n, hk, hc, _⟩
  · exact .base (.tup h)
  · exact .fTuple h
  · exact .kTuple hk hc
theorem tyL {K : PySem.W.Frag} {H : Hp} {a : Addr} {xs : List V} (h : SqL K H a xs) : TyX K H (.ref a) (.type "list") := by
  rcases h with (h | ⟨o, h⟩) | ⟨o, its, n, hk, hc, _⟩
  · exact .base (.lst h)
  · exact .base (.frz h)
  · exact .kList hk hc
def rB : RR Bool := fun _ v b => v = .bl b
theorem mono_B : Mono rB := fun _ _ _ _ _ h => h
theorem paired_bools : ∀ {vs : List V} {xs : List Bool} {H : Hp}, Paired (rB H) vs xs → vs = xs.map V.bl
  | _, _, _, .nil => rfl
  | _, _, _, .cons r t => by rw [paired_bools t, show _ = _ from r]; rfl
/-! ### data compared -/
theorem dp_ints {K : PySem.W.Frag} {H : Hp} : ∀ xs : List Int, DpAll K H (xs.map V.int) (xs.map PyData.int)
  | [] => .nil
  | x :: xs => .cons (.int x) (dp_ints xs)
theorem dp_TI {K : PySem.W.Frag} {H : Hp} {v : V} {xs : List Int} (h : rTI K H v xs) : Dp K H v (.tuple (xs.map PyData.int)) := by
  obtain ⟨a, rfl, q⟩ := h
  exact .tup q (dp_ints xs)
/-- data of a depth that is borne: ints, tuples and lists of them -/
def Gd (n : Nat) (d : PyData) : Prop := d.canLay0 = true ∧ d.depth ≤ n
theorem Gd.shaped {n : Nat} {d : PyData} (h : Gd n d) (hn : n ≤ 64 := by decide) : SeqAt.shaped d = true := by
  unfold SeqAt.shaped
  rw [h.1, Bool.true_and]
  exact decide_eq_true (Nat.le_trans h.2 hn)
theorem gd_int (i : Int) : Gd 1 (.int i) := ⟨by simp [PyData.canLay0], by simp [PyData.depth]⟩
theorem gd_all {n : Nat} : ∀ {ds : List PyData}, (∀ d ∈ ds, Gd n d) → PyData.canLayAll0 ds = true ∧ PyData.depthAll ds ≤ n
  | [], _ => ⟨by simp [PyData.canLayAll0], by simp [PyData.depthAll]⟩
  | d :: ds, h => by
    obtain ⟨h1, h2⟩ := gd_all (ds := ds) fun x hx => h x (List.mem_cons_of_mem _ hx)
    obtain ⟨g1, g2⟩ := h d List.mem_cons_self
    refine ⟨by simp [PyData.canLayAll0, h1, g1], ?_⟩
    simp only [PyData.depthAll]
    omega
theorem gd_tup {n : Nat} {ds : List PyData} (h : ∀ d ∈ ds, Gd n d) : Gd (n + 1) (.tuple ds) := by
  obtain ⟨h1, h2⟩ := gd_all h
  exact ⟨by simp [PyData.canLay0, h1], by simp only [PyData.depth]; omega⟩
theorem gd_lst {n : Nat} {ds : List PyData} (h : ∀ d ∈ ds, Gd n d) : Gd (n + 1) (.list ds) := by
  obtain ⟨h1, h2⟩ := gd_all h
  exact ⟨by simp [PyData.canLay0, h1], by simp only [PyData.depth]; omega⟩
theorem gd_ints (xs : List Int) : ∀ d ∈ xs.map PyData.int, Gd 1 d := fun d h => by
  obtain ⟨i, _, rfl⟩ := List.mem_map.mp h
  exact gd_int i
theorem gd_TI (xs : List Int) : Gd 2 (.tuple (xs.map PyData.int)) := gd_tup (gd_ints xs)
theorem eqv_all_ints : ∀ xs ys : List Int, PyData.eqvAll (xs.map PyData.int) (ys.map PyData.int) = decide (xs = ys)
  | [], [] => by simp [PyData.eqvAll]
  | [], _ :: _ => by simp [PyData.eqvAll]
  | _ :: _, [] => by simp [PyData.eqvAll]
  | x :: xs, y :: ys => by
    simp only [List.map_cons, PyData.eqvAll, PyData.eqv, eqv_all_ints xs ys]
    by_cases h : x = y <;> by_cases h2 : xs = ys <;> simp [h, h2]
theorem eqv_TI (xs ys : List Int) : PyData.eqv (.tuple (xs.map PyData.int)) (.tuple (ys.map PyData.int)) = decide (xs = ys) := by
  simp only [PyData.eqv, eqv_all_ints]
/-! ### cutting a block -/
theorem seqcut {t u : L2.TS} {D : Ends} {σ : L2.St} {H : Hp} (Mid : L2.St → Hp → Prop) (h1 : ∀ U : L2.St → Hp → Prop, (∀ σ' H', Mid σ' H' → U σ' H') → t { D with nx := U } σ H) (h2 : ∀ σ' H', Mid σ' H' → u D σ' H') : tSeq t u D σ H := h1 (u D) h2
theorem natAbs_mul_lt {i j : Int} {a b : Nat} (h1 : i.natAbs ≤ a) (h2 : j.natAbs ≤ b) : (i * j).natAbs ≤ a * b := by
  rw [Int.natAbs_mul]
  exact Nat.mul_le_mul h1 h2
theorem bits_le {i : Int} {a : Nat} (h : i.natAbs < 2 ^ a) : Builtin.Int.intBits i ≤ a := by
  unfold Builtin.Int.intBits
  split
  · exact Nat.zero_le _
  · rename_i h0
    have n0 : i.natAbs ≠ 0 := fun z => h0 (by
      have : i = 0 := Int.natAbs_eq_zero.mp z
      simp [this])
    exact (Nat.log2_lt n0).mpr h
/-- a product of numbers of together no more than 2 ^ 26 bits -/
theorem mulK_bits {i j : Int} {a b : Nat} (ha : i.natAbs < 2 ^ a) (hb : j.natAbs < 2 ^ b) (h : a + b ≤ 67108864) : IntMulOk i j := by
  have h1 := bits_le ha
  have h2 := bits_le hb
  unfold IntMulOk
  intro z
  rw [Bool.and_eq_true] at z
  have z2 : Builtin.Int.intTooBig ((Builtin.Int.intBits i + Builtin.Int.intBits j : Nat) : Int) = true := by simpa using z.2
  unfold Builtin.Int.intTooBig at z2
  have z3 := of_decide_eq_true z2
  have e : bitsLine = 134217728 := by decide
  rw [e] at z3
  omega
end CH

set_option Elab.async false
set_option linter.all false
set_option maxRecDepth 100000
namespace CH
open PySem PySem.Spec PyProof.Rows L2
theorem eqv_ints_nil (xs : List Int) : PyData.eqv (.list (xs.map PyData.int)) (.list []) = decide (xs = []) := by
  have := eqv_all_ints xs []
  simp only [List.map_nil] at this
  simp only [PyData.eqv, this]
theorem ne_dec {n : Int} : (!decide (V.int n = V.int 0)) = (n != 0) := by
  by_cases h : n = 0
  · subst h; rfl
  · have h1 : ¬ V.int n = V.int 0 := fun z => h (V.int.inj z)
    rw [decide_eq_false h1]
    simp [h]
theorem filter_range {β : Type} (p : β → Bool) : ∀ xs : List β, (List.range xs.length).filterMap (fun i => (xs[i]?).bind fun x => if p x = true then some x else none) = xs.filter p
  | [] => rfl
  | x :: xs => by
    rw [List.length_cons, List.range_succ_eq_map, List.filterMap_cons, List.filterMap_map]
    have ih := filter_range p xs
    have e : ((fun i => ((x :: xs)[i]?).bind fun x => if p x = true then some x else none) ∘ Nat.succ) = fun i => (xs[i]?).bind fun x => if p x = true then some x else none := by
      funext i
      rfl
    rw [e, ih]
    show (match (if p x = true then some x else none) with | none => xs.filter p | some b => b :: xs.filter p) = (x :: xs).filter p
    by_cases h : p x = true
    · rw [if_pos h, List.filter_cons_of_pos h]
    · rw [if_neg h, List.filter_cons_of_neg h]
theorem nz_filter (xs : List Int) : decide (xs.filter (fun u => u != 0) = []) = !nz xs := by
  unfold nz
  by_cases h : xs.any (fun u => u != 0) = true
  · rw [h]
    refine decide_eq_false fun z => ?_
    obtain ⟨u, hu, hu0⟩ := List.any_eq_true.mp h
    have : u ∈ xs.filter (fun u => u != 0) := List.mem_filter.mpr ⟨hu, hu0⟩
    rw [z] at this
    exact nomatch this
  · have h' : xs.any (fun u => u != 0) = false := Bool.eq_false_iff.mpr h
    rw [h']
    refine decide_eq_true (List.filter_eq_nil_iff.mpr fun u hu => ?_)
    have := List.any_eq_false.mp h' u hu
    exact this
/-- the numbers that are not nought, as a new list -/
theorem nz_comp {K : PySem.W.Frag} {σ : L2.St} {H : Hp} {i j : Nat} {a : Addr} {xs : List Int} {Q : VK} (hσ : σ[i]? = some (some (.ref a))) (hj : j < σ.length) (hq : SqA K H a (xs.map V.int)) (hz : xs.length < sizeLine)
    (hd : ∀ D Hf, H D = none → SB S0 H Hf → Hf D = some (.lst ((xs.filter (fun u => u != 0)).map V.int)) → Q (.ref D) Hf) :
    tLc (iSeq K (tVar i)) (gName j) (tTest (tOp rNe (tVar j) (tC (.int 0)))) (tVar j) [j] σ H Q := by
  refine tlc_seq (S := S0) (H := H) (tVar_at hσ) hq (fun z => z) (by rw [List.length_map]; exact hz) CH.rI (fun i => (xs[i]?).bind fun x => if x != 0 then some x else none) (fun _ _ _ _ _ _ _ h => h) (fun _ _ z => z) ?_ ?_
  · intro k x H' QY QN hx s hY hN
    obtain ⟨n, hn, rfl⟩ := ints_get hx
    have hs : ((wipe σ [j]).set j (some (V.int n)))[j]? = some (some (V.int n)) := by
      rw [List.getElem?_set_self (by rw [wipe_length]; exact hj)]
    refine ⟨?_, .int n, hs, rfl, _, rfl, ?_⟩
    · show ((σ.set j none).set j (some (V.int n))).set j none = σ.set j none
      rw [List.set_set, List.set_set]
    · rw [ne_dec]
      dsimp only
      by_cases h : (n != 0) = true
      · rw [if_pos h]
        refine ⟨.int n, hs, hY _ _ n ?_ (SB.refl _) rfl⟩
        show (xs[k]?).bind _ = _
        rw [hn]
        show (if (n != 0) = true then some n else none) = some n
        rw [if_pos h]
      · rw [if_neg h]
        refine hN _ ?_ (SB.refl _)
        show (xs[k]?).bind _ = _
        rw [hn]
        show (if (n != 0) = true then some n else none) = none
        rw [if_neg h]
  · intro D Hf us hD s h p
    rw [List.length_map, filter_range (fun x : Int => x != 0) xs] at p
    rw [paired_ints p] at h
    exact hd D Hf hD s h
/-- whether some number is not nought -/
theorem nz_test {K : PySem.W.Frag} {σ : L2.St} {H : Hp} {i j : Nat} {a : Addr} {xs : List Int} {Q : Bool → Hp → Prop} (hσ : σ[i]? = some (some (.ref a))) (hj : j < σ.length) (hq : SqA K H a (xs.map V.int)) (hz : xs.length < sizeLine)
    (hU : ∀ H', SB S0 H H' → Q (nz xs) H') :
    tTest (tOp (rNeD K) (tLc (iSeq K (tVar i)) (gName j) (tTest (tOp rNe (tVar j) (tC (.int 0)))) (tVar j) [j]) (tLst tNil)) σ H Q := by
  refine tTest_i (tOp_i (nz_comp hσ hj hq hz fun D Hf hD s h => ?_))
  refine ⟨Nat.zero_le _, fun E hE => ?_⟩
  have s2 : SB S0 Hf (upd Hf E (.lst [])) := SB.new hE
  refine ⟨.list ((xs.filter (fun u => u != 0)).map PyData.int), .list [], .lst (.inl (.inl (s2.2 _ _ (fun z => z) h))) (dp_ints _), .lst (.inl (.inl upd_same)) .nil, (gd_lst (gd_ints _)).shaped, (gd_lst (n := 1) (ds := []) (fun _ h => by cases h)).shaped, _, rfl, ?_⟩
  rw [eqv_ints_nil, nz_filter, Bool.not_not]
  exact hU _ (s.trans s2)
theorem nz_testE {K : PySem.W.Frag} {σ : L2.St} {H : Hp} {i j : Nat} {a : Addr} {xs : List Int} {Q : Bool → Hp → Prop} (hσ : σ[i]? = some (some (.ref a))) (hj : j < σ.length) (hq : SqA K H a (xs.map V.int)) (hz : xs.length < sizeLine)
    (hU : ∀ H', SB S0 H H' → Q (!nz xs) H') :
    tTest (tOp (rEqD K) (tLc (iSeq K (tVar i)) (gName j) (tTest (tOp rNe (tVar j) (tC (.int 0)))) (tVar j) [j]) (tLst tNil)) σ H Q := by
  refine tTest_i (tOp_i (nz_comp hσ hj hq hz fun D Hf hD s h => ?_))
  refine ⟨Nat.zero_le _, fun E hE => ?_⟩
  have s2 : SB S0 Hf (upd Hf E (.lst [])) := SB.new hE
  refine ⟨.list ((xs.filter (fun u => u != 0)).map PyData.int), .list [], .lst (.inl (.inl (s2.2 _ _ (fun z => z) h))) (dp_ints _), .lst (.inl (.inl upd_same)) .nil, (gd_lst (gd_ints _)).shaped, (gd_lst (n := 1) (ds := []) (fun _ h => by cases h)).shaped, _, rfl, ?_⟩
  rw [eqv_ints_nil, nz_filter]
  exact hU _ (s.trans s2)
/-- a list of ints of one's own -/
def rLI : RR Vec := fun H v x => ∃ p, v = .ref p ∧ H p = some (.lst (x.map V.int))
def rLD (D : Addr) : RR Vec := fun H v x => ∃ p, v = .ref p ∧ p ≠ D ∧ H p = some (.lst (x.map V.int))
theorem rLD_keep {S : Addr → Prop} {D : Addr} {H H' : Hp} {v : V} {x : Vec} (s : SB (fun b => S b ∨ b = D) H H') (hS : ∀ b, ¬ S b) (h : rLD D H v x) : rLD D H' v x := by
  obtain ⟨p, e, n, h⟩ := h
  exact ⟨p, e, n, s.2 _ _ (fun z => z.elim (hS p) n) h⟩
theorem rLI_keep {H H' : Hp} {v : V} {x : Vec} (s : SB S0 H H') (h : rLI H v x) : rLI H' v x := by
  obtain ⟨p, e, h⟩ := h
  exact ⟨p, e, s.2 _ _ (fun z => z) h⟩
theorem cut_one (xs : List V) : cutV xs (some 1) none = xs.drop 1 := by
  have e1 : HT.sIx xs.length 0 (some 1) = min 1 xs.length := HT.sIx_nat xs.length 0 1
  have e2 : HT.sIx xs.length xs.length none = xs.length := HT.sIx_none ..
  unfold cutV
  rw [e1, e2]
  cases xs with
  | nil => rfl
  | cons x r =>
    have e3 : min 1 (x :: r).length = 1 := by
      rw [List.length_cons]
      omega
    rw [e3]
    exact List.take_of_length_le (by simp)
theorem dp_LL {K : PySem.W.Frag} {H : Hp} : ∀ {us : List V} {rs : List Vec}, Paired (rLI H) us rs → DpAll K H us (rs.map fun r => PyData.list (r.map PyData.int))
  | _, _, .nil => .nil
  | _, _, .cons h t => by
    obtain ⟨p, rfl, hp⟩ := h
    exact .cons (.lst (.inl (.inl hp)) (dp_ints _)) (dp_LL t)
theorem eqv_nil (ds : List PyData) : PyData.eqv (.list ds) (.list []) = ds.isEmpty := by
  cases ds <;> simp [PyData.eqv, PyData.eqvAll]
/-- the first place that is not nought, as it is found in a list of all such -/
theorem first_of {f : Vec} {p : Nat} (h : firstp f = some p) : ∃ rest, (List.range f.length).filterMap (fun j => if (at0 f j != 0) = true then some (j : Int) else none) = (p : Int) :: rest := by
  obtain ⟨h1, h2, h3⟩ := firstp_some h
  obtain ⟨m, hm⟩ : ∃ m, f.length = p + (m + 1) := ⟨f.length - p - 1, by omega⟩
  rw [hm, List.range_add, List.filterMap_append]
  have z : (List.range p).filterMap (fun j => if (at0 f j != 0) = true then some (j : Int) else none) = [] := by
    rw [List.filterMap_eq_nil_iff]
    intro j hj
    have := h3 j (List.mem_range.mp hj)
    rw [this]
    rfl
  rw [z, List.nil_append, List.range_succ_eq_map, List.map_cons, List.filterMap_cons]
  have e : (at0 f (p + 0) != 0) = true := by
    rw [Nat.add_zero]
    simpa using h2
  rw [if_pos e]
  exact ⟨_, rfl⟩
/-- a list, wherever it is told, stands apart from what is new -/
theorem walksL_new {K : PySem.W.Frag} {H : Hp} {a : Addr} {xs : List V} (h : SqL K H a xs) : ∀ D, H D = none → Walks (fun b => S0 b ∨ b = D) (Itl K a) H xs.length (fun i x _ => xs[i]? = some x) := fun D hD => by
  have key : ∀ H', SB (fun b => S0 b ∨ b = D) H H' → SqL K H' a xs := fun H' s => by
    rcases h with (h | ⟨o, h⟩) | h
    · exact .inl (.inl (s.2 _ _ (fun z => z.elim id (ne_of_none h hD)) h))
    · exact .inl (.inr ⟨o, s.1.2 _ _ _ h⟩)
    · exact .inr h
  refine ⟨fun i H' hi s => ⟨xs, xs[i], key _ s, List.getElem?_eq_getElem hi⟩, fun i H' x H2 hi s y => ?_, fun H' s => ⟨xs, key _ s, Nat.le_refl _⟩⟩
  obtain ⟨e, y⟩ := y
  subst e
  exact ⟨SB.refl _, y xs (key _ s)⟩
theorem at_TI {x : Vec} {p : Nat} (h : p < x.length) : atI (x.map V.int) (p : Int) = some (.int (at0 x p)) := by
  refine atI_nat ?_
  rw [List.getElem?_map, get_at0 h]
  rfl
def rN : RR Nat := fun _ v n => v = .int n
theorem mono_N : Mono rN := fun _ _ _ _ _ h => h
abbrev rLead (K : PySem.W.Frag) : RR Lead := rP K rN (rTI K)
theorem mono_Lead {K : PySem.W.Frag} : Mono (rLead K) := mono_P mono_N mono_TI
theorem dp_LT {K : PySem.W.Frag} {H : Hp} : ∀ {us : List V} {rs : List Vec}, Paired (rTI K H) us rs → DpAll K H us (rs.map fun r => PyData.tuple (r.map PyData.int))
  | _, _, .nil => .nil
  | _, _, .cons h t => .cons (dp_TI h) (dp_LT t)
theorem gd_LT (rs : List Vec) : Gd 3 (.list (rs.map fun r => PyData.tuple (r.map PyData.int))) := gd_lst fun d hd => by
  obtain ⟨r, _, rfl⟩ := List.mem_map.mp hd
  exact gd_TI r
theorem eqv_self {n : Nat} {d : PyData} (h : Gd n d) : PyData.eqv d d = true := SeqAt.eqv_refl d h.1
/-- lists that are appended to -/
theorem pairs_keep {α : Type} {r : RR α} (m : Mono r) {H H' : Hp} {us : List V} {xs : List α} (t : Tst H H') (h : Paired (r H) us xs) : Paired (r H') us xs := Paired.imp h fun _ _ q => m _ _ _ _ t q
theorem atI_neg1 {xs : List V} {x : V} (h : xs[xs.length - 1]? = some x) (h0 : 0 < xs.length) : atI xs (-1) = some x := by
  unfold atI
  have e : ixN xs.length (-1) = some (xs.length - 1) := by
    unfold ixN
    rw [if_neg (by decide), if_pos (by omega)]
    congr 1
    omega
  rw [e]
  exact h
theorem atI_neg2 {xs : List V} {x : V} (h : xs[xs.length - 2]? = some x) (h0 : 1 < xs.length) : atI xs (-2) = some x := by
  unfold atI
  have e : ixN xs.length (-2) = some (xs.length - 2) := by
    unfold ixN
    rw [if_neg (by decide), if_pos (by omega)]
    congr 1
    omega
  rw [e]
  exact h
/-- a list of one's own -/
def LsT {α : Type} (r : RR α) (H : Hp) (a : Addr) (xs : List α) : Prop := ∃ us, H a = some (.lst us) ∧ Paired (r H) us xs
theorem LsT.ls {α : Type} {K : PySem.W.Frag} {r : RR α} {H : Hp} {a : Addr} {xs : List α} (h : LsT r H a xs) : LsR K r H a xs := let ⟨us, h1, h2⟩ := h; ⟨us, SqL.of h1, h2⟩
theorem LsT.keep {α : Type} {r : RR α} (m : Mono r) {H H' : Hp} {a : Addr} {xs : List α} (h : LsT r H a xs) (s : SB S0 H H') : LsT r H' a xs := let ⟨us, h1, h2⟩ := h; ⟨us, s.2 _ _ (fun z => z) h1, pairs_keep m s.1 h2⟩
theorem LsR.keep {α : Type} {K : PySem.W.Frag} {r : RR α} (m : Mono r) {H H' : Hp} {a : Addr} {xs : List α} (h : LsR K r H a xs) (s : SB S0 H H') : LsR K r H' a xs := let ⟨us, h1, h2⟩ := h; ⟨us, s.sqL (fun z => z) h1, pairs_keep m s.1 h2⟩
end CH

set_option Elab.async false
set_option linter.all false
set_option maxRecDepth 100000
namespace CH
open PySem PySem.Spec PyProof.Rows L2
/-! ### tuples of ints in their order -/
def lexI : Vec → Vec → Bool
  | x :: xs, y :: ys => if x = y then lexI xs ys else decide (x < y)
  | [], _ :: _ => true
  | _, [] => false
theorem lexI_irr : ∀ x : Vec, lexI x x = false
  | [] => rfl
  | x :: xs => by
    show (if x = x then lexI xs xs else decide (x < x)) = false
    rw [if_pos rfl]
    exact lexI_irr xs
theorem lexI_asym : ∀ x y : Vec, lexI x y = true → lexI y x = false
  | [], [], h => nomatch h
  | [], _ :: _, _ => rfl
  | _ :: _, [], h => nomatch h
  | x :: xs, y :: ys, h => by
    have h' : (if x = y then lexI xs ys else decide (x < y)) = true := h
    show (if y = x then lexI ys xs else decide (y < x)) = false
    by_cases e : x = y
    · rw [if_pos e] at h'
      rw [if_pos e.symm]
      exact lexI_asym xs ys h'
    · rw [if_neg e] at h'
      rw [if_neg (Ne.symm e)]
      have := of_decide_eq_true h'
      exact decide_eq_false (by omega)
theorem lexI_ntr : ∀ x y z : Vec, lexI y x = false → lexI z y = false → lexI z x = false
  | [], [], z, _, h => h
  | [], _ :: _, [], _, h => nomatch h
  | [], _ :: _, _ :: _, _, _ => rfl
  | _ :: _, [], _, h, _ => nomatch h
  | _ :: _, _ :: _, [], _, h => nomatch h
  | x :: xs, y :: ys, z :: zs, h1, h2 => by
    have h1' : (if y = x then lexI ys xs else decide (y < x)) = false := h1
    have h2' : (if z = y then lexI zs ys else decide (z < y)) = false := h2
    show (if z = x then lexI zs xs else decide (z < x)) = false
    by_cases e1 : y = x
    · rw [if_pos e1] at h1'
      subst e1
      by_cases e2 : z = y
      · rw [if_pos e2] at h2' ⊢
        exact lexI_ntr xs ys zs h1' h2'
      · rw [if_neg e2] at h2' ⊢
        exact h2'
    · rw [if_neg e1] at h1'
      have g1 := of_decide_eq_false h1'
      by_cases e2 : z = y
      · subst e2
        rw [if_neg e1]
        exact h1'
      · rw [if_neg e2] at h2'
        have g2 := of_decide_eq_false h2'
        rw [if_neg (by omega)]
        exact decide_eq_false (by omega)
theorem lexI_tot : ∀ x y : Vec, x.length = y.length → lexI x y = false → lexI y x = false → x = y
  | [], [], _, _, _ => rfl
  | [], _ :: _, h, _, _ => nomatch h
  | _ :: _, [], h, _, _ => nomatch h
  | x :: xs, y :: ys, hl, h1, h2 => by
    have h1' : (if x = y then lexI xs ys else decide (x < y)) = false := h1
    have h2' : (if y = x then lexI ys xs else decide (y < x)) = false := h2
    by_cases e : x = y
    · rw [if_pos e] at h1'
      rw [if_pos e.symm] at h2'
      rw [e, lexI_tot xs ys (Nat.succ.inj hl) h1' h2']
    · rw [if_neg e] at h1'
      rw [if_neg (Ne.symm e)] at h2'
      have := of_decide_eq_false h1'
      have := of_decide_eq_false h2'
      omega
/-- a tuple of ints, in a heap -/
def TupV (h : Heap) (u : Value) (n : Vec) : Prop := ∃ (a : Addr) (o : Obj) (its : List Value) (m : Nat), u = .ref a ∧ h.get? a = some o ∧ o.cls = .type "tuple" ∧ o.data = .seq its.toArray m ∧ Vals (n.map V.int) its
theorem TupV.keeps {h h' : Heap} {u : Value} {n : Vec} (t : TupV h u n) (k : ∀ b o, h.get? b = some o → o.cls = .type "tuple" → h'.get? b = some o) : TupV h' u n := by
  obtain ⟨a, o, its, m, e, g, c, r⟩ := t
  exact ⟨a, o, its, m, e, k a o g c, c, r⟩
theorem TupV.inj {h : Heap} {u : Value} {n n' : Vec} (t : TupV h u n) (t' : TupV h u n') : n = n' := by
  obtain ⟨a, o, its, m, rfl, g, c, d, v⟩ := t
  obtain ⟨a', o', its', m', e', g', c', d', v'⟩ := t'
  cases e'
  rw [g] at g'
  cases g'
  rw [d] at d'
  injection d' with d1 _
  have : its = its' := by simpa using congrArg Array.toList d1
  subst this
  have := v.inj v'
  exact List.map_inj_right (fun a b h => V.int.inj h) |>.mp this
theorem lex_run {prog : Program} {w : World} {A : Around} {s : Shared} {b : Bool} {R : Bool → Shared → Prop} : ∀ (x y : Vec) (xs ys : List Value) (i : Nat), x.length = y.length → Vals (x.map V.int) xs → Vals (y.map V.int) ys → R (lexI x y) s → PySem.W.KatLex prog w A b false R (xs.zip ys) i s
  | [], [], _, _, _, _, .nil, .nil, h => PySem.W.kat_nil h
  | [], _ :: _, _, _, _, hl, _, _, _ => nomatch hl
  | _ :: _, [], _, _, _, hl, _, _, _ => nomatch hl
  | x :: x', y :: y', u :: us, v :: vs, i, hl, .cons ru tu, .cons rv tv, h => by
    obtain ⟨t1, rfl⟩ := ru
    obtain ⟨t2, rfl⟩ := rv
    have h' : R (if x = y then lexI x' y' else decide (x < y)) s := h
    refine PySem.W.kat_cons (SeqAt.EqAt.int_int x t1 y t2 prog w _ _ ?_)
    refine PySem.W.kat_go (fun e => ?_) (fun e => ?_)
    · have ex : x = y := by simpa using e
      rw [if_pos ex] at h'
      exact PySem.W.kat_yes (lex_run x' y' us vs (i + 1) (Nat.succ.inj hl) tu tv h')
    · have ex : ¬ x = y := by simpa using e
      rw [if_neg ex] at h'
      cases hb : (b && i == 0) with
      | true =>
        refine PySem.W.kat_no ?_
        rw [hb]
        exact PyProof.Rows.oneLt_int h'
      | false =>
        refine PySem.W.kat_no ?_
        rw [hb]
        exact PySem.W.kat_one _ _ (PyProof.Rows.lt_int h')
theorem tups_kind {h : Heap} {k : Value → Vec} : ∀ {vs : List Value}, (∀ v ∈ vs, TupV h v (k v) ∧ 1 ≤ (k v).length) → ∃ fs, PySem.W.KatTups h vs fs ∧ fs.length = vs.length ∧ ∀ f ∈ fs, ∃ x t, f = Value.int x t
  | [], _ => ⟨[], .nil, rfl, (fun _ h => nomatch h)⟩
  | v :: vs, hv => by
    obtain ⟨fs, h1, h2, h3⟩ := tups_kind (vs := vs) fun u hu => hv u (List.mem_cons_of_mem _ hu)
    obtain ⟨⟨a, o, its, m, e, g, c, d, r⟩, hl⟩ := hv v List.mem_cons_self
    generalize k v = n at *
    match n, its, r, hl with
    | x :: n', u :: us, .cons ru _, _ =>
      obtain ⟨t, rfl⟩ := ru
      subst e
      refine ⟨.int x t :: fs, .cons g c d (by simp) h1, by simp [h2], fun f hf => ?_⟩
      rcases List.mem_cons.mp hf with q | q
      · exact ⟨x, t, q⟩
      · exact h3 f q
def rSortA (K : PySem.W.Frag) : List V → Hp → VK → Prop := fun vs H Q => ∃ (a : Addr) (xs : List V) (ks : List Vec) (d : Nat), vs = [.ref a] ∧ SqL K H a xs ∧ Paired (rTI K H) xs ks ∧ 1 ≤ d ∧ (∀ k ∈ ks, k.length = d) ∧
  ∀ (ys : List V) (ks' : List Vec) (p : Addr), H p = none → Paired (rTI K H) ys ks' → ks'.Perm ks → ks'.Pairwise (fun x y => lexI y x = false) → Q (.ref p) (upd H p (.lst ys))
theorem paired_map {α β γ : Type} {F : α → β → Prop} {f : γ → α} {g : γ → β} : ∀ {l : List γ}, (∀ c ∈ l, F (f c) (g c)) → Paired F (l.map f) (l.map g)
  | [], _ => .nil
  | c :: l, h => .cons (h c List.mem_cons_self) (paired_map fun d hd => h d (List.mem_cons_of_mem _ hd))
theorem paired_all {α β : Type} {F : α → β → Prop} : ∀ {l : List α} {m : List β}, Paired F l m → ∀ a ∈ l, ∃ b ∈ m, F a b
  | _, _, .nil, _, h => nomatch h
  | _, _, .cons r t, a, h => by
    rcases List.mem_cons.mp h with e | h
    · subst e
      exact ⟨_, List.mem_cons_self, r⟩
    · obtain ⟨b, hb, q⟩ := paired_all t a h
      exact ⟨b, List.mem_cons_of_mem _ hb, q⟩
open Classical in
noncomputable def keyV (h : Heap) (v : Value) : Vec := if q : ∃ n, TupV h v n then Classical.choose q else []
theorem keyV_of {h : Heap} {v : Value} {n : Vec} (t : TupV h v n) : keyV h v = n := by
  have q : ∃ n, TupV h v n := ⟨n, t⟩
  unfold keyV
  rw [dif_pos q]
  exact (Classical.choose_spec q).inj t
theorem sort_ofK {X : Cx} {K : PySem.W.Frag} (hK : X.K = K) : CallR X (.builtin "sorted") (rSortA K) := by
  subst hK
  intro pins z σ G vs us Q I rv want
  obtain ⟨a, xs, ks, d, rfl, hs, pk, hd, hlen, q⟩ := want
  obtain ⟨its, ri, pl, hz⟩ := I.list hs
  obtain ⟨u, rfl, ru⟩ := vals1 rv
  obtain rfl : u = .ref a := ru
  obtain ⟨e1, e2⟩ := refs_back ri fun x m => by
    obtain ⟨b, _, t, e, _⟩ := paired_all pk x m
    exact ⟨t, e⟩
  -- each item as the tuple that it is
  have raw : ∀ v ∈ its, ∃ n ∈ ks, TupV z.heap v n ∧ rTI X.K G (backV v) n := fun v hv => by
    obtain ⟨t, rfl⟩ := e2 v hv
    have hm : V.ref t ∈ xs := by rw [e1]; exact List.mem_map.mpr ⟨_, hv, rfl⟩
    obtain ⟨n, hn, t', e, ht⟩ := paired_all pk _ hm
    cases e
    obtain ⟨its2, r2, ⟨o, ho, hc, m, hd⟩, _⟩ := I.tuple ht
    exact ⟨n, hn, ⟨t, o, its2, m, rfl, ho, hc, hd, r2⟩, ⟨t, rfl, ht⟩⟩
  obtain ⟨k, kof⟩ : ∃ k : Value → Vec, ∀ v n, TupV z.heap v n → k v = n := ⟨keyV z.heap, fun v n t => keyV_of t⟩
  have kin : ∀ v ∈ its, TupV z.heap v (k v) ∧ (k v).length = d ∧ rTI X.K G (backV v) (k v) := fun v hv => by
    obtain ⟨n, hn, t, r⟩ := raw v hv
    rw [kof v n t]
    exact ⟨t, hlen n hn, r⟩
  have O : SrtO.Swo fun v u => lexI (k v) (k u) := ⟨fun x y => lexI_asym _ _, fun x y w => lexI_ntr _ _ _⟩
  refine SrtO.sorted_ord O pl.isList (by rw [← ri.length]; exact hz) (fun h2 g1 b hb keep g2 keep2 => ?_) fun out so st => ?_
  · -- any two of them compare so
    have tv : ∀ v ∈ its, TupV g2 v (k v) := fun v hv => ((kin v hv).1.keeps fun c o e _ => (keep c o e).2).keeps fun c o e cl => keep2 c o (fun y => by
      subst y
      rw [show (Shared.heap { z with heap := g1 }).get? c = some (seqObj "list" its.toArray 0) from hb] at e
      cases e
      exact absurd (Value.type.inj cl) (by decide)) e
    obtain ⟨fs, f1, f2, f3⟩ := tups_kind (h := g2) (k := k) (vs := its) fun v hv => ⟨tv v hv, by rw [(kin v hv).2.1]; exact hd⟩
    refine ⟨tuples' true, fun Q' E' hq => ?_, fun p q' hp hq' => ?_⟩
    · refine PySem.W.kat_kind (T := .type "int") f1 (by omega) (fun f hf => ?_) (by rfl) ?_
      · obtain ⟨x, t, rfl⟩ := f3 f hf
        exact PySem.W.Looks.now
      · have e : (Value.type "int" != Value.type "tuple") = true := by first | decide +kernel | rfl
        rw [e]
        exact hq
    · obtain ⟨a1, o1, i1, m1, ep, g1', c1, d1, v1⟩ := tv _ hp
      obtain ⟨a2, o2, i2, m2, eq, g2', c2, d2, v2⟩ := tv _ hq'
      have l1 := (kin _ hp).2.1
      have l2 := (kin _ hq').2.1
      show wpAny _ _ (keyLt' (tuples' true) p.1 q'.1) _ _ _
      have fin : (fun (r : Bool) (s' : Shared) => s' = { z with heap := g2 } ∧ r = SrtO.lt2 (fun v u => lexI (k v) (k u)) p q') (lexI (k p.1) (k q'.1)) { z with heap := g2 } := ⟨rfl, rfl⟩
      generalize k p.1 = n1 at *
      generalize k q'.1 = n2 at *
      rw [ep, eq]
      refine PySem.W.kat_lt g1' d1 g2' d2 ?_
      have sz : decide (i1.toArray.size < i2.toArray.size) = false := by
        have w1 := v1.length
        have w2 := v2.length
        rw [List.length_map] at w1 w2
        rw [List.size_toArray, List.size_toArray]
        exact decide_eq_false (by omega)
      rw [sz]
      exact lex_run n1 n2 i1 i2 0 (by rw [l1, l2]) v1 v2 fin
  · obtain ⟨ep, he⟩ := PyProof.Rows.sortedAll_at z.heap its out.toArray
    have pm : out.Perm its := st.perm
    have refs : ∀ u ∈ out, ∃ a, u = Value.ref a := fun u hu => e2 u (pm.mem_iff.mp hu)
    have lo : (out.map backV).length ≤ sizeLine := by
      rw [List.length_map, pm.length_eq, ← ri.length]
      exact hz
    have ekl : ∀ {l : List Value} {xs : List V} {ks : List Vec}, l.map backV = xs → Paired (rTI X.K G) xs ks → (∀ v ∈ l, rTI X.K G (backV v) (k v)) → (∀ v ∈ l, ∀ n, rTI X.K G (backV v) n → k v = n) → l.map k = ks := by
      intro l
      induction l with
      | nil =>
        intro xs ks e p _ _
        subst e
        cases p
        rfl
      | cons v l ih =>
        intro xs ks e p h1 h2
        subst e
        cases p with
        | cons r t =>
          rw [List.map_cons, h2 v List.mem_cons_self _ r, ih rfl t (fun w hw => h1 w (List.mem_cons_of_mem _ hw)) fun w hw => h2 w (List.mem_cons_of_mem _ hw)]
    have uq : ∀ v ∈ its, ∀ n, rTI X.K G (backV v) n → k v = n := fun v hv n hn => by
      obtain ⟨t, e, ht⟩ := (kin v hv).2.2
      obtain ⟨t', e', ht'⟩ := hn
      rw [e] at e'
      cases e'
      have := I.tuple_inj ht ht'
      exact List.map_inj_right (fun a b h => V.int.inj h) |>.mp this
    have ek : its.map k = ks := ekl e1.symm pk (fun v hv => (kin v hv).2.2) uq
    refine ⟨.ref _, upd G (z.heap.objs.size + 1) (.lst (out.map backV)), I.laid (t' := z.toks) (fun _ _ => PyProof.Rows.sortedAll_old) (Nat.le_succ _) ⟨lo, out, ep, vals_back refs, he⟩, rfl, ?_⟩
    refine q (out.map backV) (out.map k) _ (I.hok.fresh (Nat.le_succ _)) (paired_map fun u hu => (kin u (pm.mem_iff.mp hu)).2.2) ?_ ?_
    · rw [← ek]
      exact pm.map k
    · rw [List.pairwise_map]
      exact so
end CH

set_option Elab.async false
set_option linter.all false
set_option maxRecDepth 100000
namespace CH
open PySem PySem.Spec PyProof.Rows L2
/-! ### the program's own words about cones -/
abbrev Ray := Vec × Int
abbrev band (a b : Int) : Int := Builtin.bitAnd a b
abbrev bor (a b : Int) : Int := Builtin.bitOr a b
def unitv (n p : Nat) : Vec := (List.range n).map fun s => if s = p then 1 else 0
def crossP (lines : List Vec) (row : Vec) : Option Nat := lines.findIdx? fun l => dot l row != 0
def lev (x ray row : Vec) : Vec := blend x (dot ray row) ray (-(dot x row))
def upw (line row : Vec) : Vec := if 0 < dot line row then line else neg line
def without (lines : List Vec) (p : Nat) : List Vec := lines.take p ++ lines.drop (p + 1)
def bentL (lines : List Vec) (p : Nat) (row : Vec) : List Vec := (without lines p).map fun o => lev o (upw (lines.getD p []) row) row
def bentR (lines : List Vec) (p : Nat) (masked : List Ray) (row : Vec) (bit : Int) : List Ray :=
  (masked.map fun q => (lev q.1 (upw (lines.getD p []) row) row, bor q.2 bit)) ++ [(upw (lines.getD p []) row, bit - 1)]
def nbs (m o : Int) (ms : List Int) : Bool := decide ((ms.filter fun h => decide (band h (band m o) = band m o)).length ≤ 2)
def crossed1 (h : Ray) (below : List Ray) (ms : List Int) (row : Vec) (bit : Int) : List Ray :=
  below.filterMap fun l => if nbs h.2 l.2 ms = true then some (lev l.1 h.1 row, bor (band h.2 l.2) bit) else none
def crossedR (above below : List Ray) (ms : List Int) (row : Vec) (bit : Int) : List Ray := above.flatMap fun h => crossed1 h below ms row bit
def aboveR (masked : List Ray) (row : Vec) : List Ray := masked.filter fun q => decide (0 < dot q.1 row)
def levelR (masked : List Ray) (row : Vec) (bit : Int) : List Ray := (masked.filter fun q => decide (dot q.1 row = 0)).map fun q => (q.1, bor q.2 bit)
def belowR (masked : List Ray) (row : Vec) : List Ray := masked.filter fun q => decide (dot q.1 row < 0)
def halvedR (masked : List Ray) (row : Vec) (bit : Int) : List Ray := aboveR masked row ++ levelR masked row bit ++ crossedR (aboveR masked row) (belowR masked row) (masked.map (·.2)) row bit
structure CState where
  lines : List Vec
  masked : List Ray
  bit : Int
def coneStep (s : CState) (row : Vec) : CState :=
  match crossP s.lines row with
  | none => ⟨s.lines, halvedR s.masked row s.bit, s.bit * 2⟩
  | some p => ⟨bentL s.lines p row, bentR s.lines p s.masked row s.bit, s.bit * 2⟩
def cone0 (n : Nat) : CState := ⟨(List.range n).map (unitv n), [], 1⟩
def coneRun (rows : List Vec) (n : Nat) : CState := rows.foldl coneStep (cone0 n)
def coneL (rows : List Vec) (n : Nat) : List Lead := ech (coneRun rows n).lines
def coneR (rows : List Vec) (n : Nat) : List Vec := (coneRun rows n).masked.map fun q => redu q.1 (coneL rows n)
/-! ### lowest terms -/
def Lw (x : Vec) : Prop := gl x ≤ 1
theorem Lw_low (x : Vec) : Lw (low x) := by
  unfold Lw
  by_cases h : gl x < 2
  · rw [show low x = x from if_pos h]
    omega
  · have e : low x = x.map (fun u => u / (gl x : Int)) := if_neg h
    obtain ⟨g, hg⟩ : ∃ g, gl x = g := ⟨_, rfl⟩
    have hd : gl (low x) * g ∣ g := by
      have : gl (low x) * g ∣ gl x := gl_great fun u hu => by
        have h1 : (gl (low x) : Int) ∣ u / (gl x : Int) := gl_dvd (by rw [e]; exact List.mem_map.mpr ⟨u, hu, rfl⟩)
        have h2 : (gl x : Int) * (u / (gl x : Int)) = u := Int.mul_ediv_cancel' (gl_dvd hu)
        obtain ⟨k, hk⟩ := h1
        have h3 : u = (gl (low x) * g : Nat) * k := by
          rw [← h2, hk, hg]
          rw [Int.natCast_mul]
          grind
        rw [h3, Int.natAbs_mul]
        exact Nat.dvd_mul_right _ _
      rw [hg] at this
      exact this
    have hle := Nat.le_of_dvd (by omega) hd
    have : gl (low x) * g ≤ 1 * g := by omega
    exact Nat.le_of_mul_le_mul_right this (by omega)
theorem Lw.one {x : Vec} (h : Lw x) {p : Nat} (hp : at0 x p ≠ 0) : gl x = 1 := by
  have h0 : gl x ≠ 0 := fun z => by
    by_cases hl : p < x.length
    · exact hp (gl_zero z _ (List.mem_of_getElem? (get_at0 hl)))
    · exact hp (at0_out (by omega))
  unfold Lw at h
  omega
theorem gl_neg (x : Vec) : gl (neg x) = gl x := by
  unfold gl neg
  rw [List.foldl_map]
  congr 1
  funext g u
  rw [Int.natAbs_neg]
theorem Lw.neg {x : Vec} (h : Lw x) : Lw (neg x) := by
  unfold Lw
  rw [gl_neg]
  exact h
theorem Lw.posed {x : Vec} {p : Nat} (h : Lw x) : Lw (posed x p) := by
  unfold CH.posed
  split
  · exact h.neg
  · exact h
theorem Lw.clear {x l : Vec} {p : Nat} (h : Lw x) : Lw (clear x p l) := by
  unfold CH.clear
  split
  · exact h
  · exact Lw_low _
theorem Lw.redu : ∀ {L : List Lead} {x : Vec}, Lw x → Lw (redu x L)
  | [], _, h => h
  | q :: L, x, h => Lw.redu (L := L) (x := CH.clear x q.1 q.2) h.clear
theorem ech_Lw (rows : List Vec) : ∀ q ∈ ech rows, Lw q.2 := by
  have go : ∀ (rest : List Vec) (L : List Lead), (∀ q ∈ L, Lw q.2) → ∀ q ∈ rest.foldl echStep L, Lw q.2 := by
    intro rest
    induction rest with
    | nil => intro L h; exact h
    | cons r rest ih =>
      intro L h
      refine ih (echStep L r) fun q hq => ?_
      unfold echStep at hq
      split at hq
      · exact h q hq
      · rcases List.mem_append.mp hq with z | z
        · obtain ⟨s, hs, rfl⟩ := List.mem_map.mp z
          exact (h s hs).clear
        · rw [List.mem_singleton.mp z]
          exact (Lw_low _).posed
  exact go rows [] fun _ h => nomatch h
theorem unitv_length (n p : Nat) : (unitv n p).length = n := by
  unfold unitv
  rw [List.length_map, List.length_range]
theorem Lw_unit (n p : Nat) : Lw (unitv n p) := by
  unfold Lw
  by_cases hp : p < n
  · have m : (1 : Int) ∈ unitv n p := List.mem_map.mpr ⟨p, List.mem_range.mpr hp, by rw [if_pos rfl]⟩
    exact gl_le m (by decide)
  · have z : gl (unitv n p) = 0 := by
      have : (0 : Nat) ∣ gl (unitv n p) := gl_great fun x hx => by
        obtain ⟨s, hs, rfl⟩ := List.mem_map.mp hx
        have := List.mem_range.mp hs
        rw [if_neg (by omega)]
        exact Nat.dvd_refl _
      exact Nat.zero_dvd.mp this
    omega
/-! ### what is moved along a ray to a bound -/
theorem lev_length {x ray row : Vec} (h : x.length = ray.length) : (lev x ray row).length = x.length := blend_length h
theorem lev_dot {x ray row : Vec} (h : x.length = ray.length) (r : Vec) : ∃ g : Int, 0 < g ∧ g * dot (lev x ray row) r = dot ray row * dot x r - dot x row * dot ray r := by
  obtain ⟨g, hg, e⟩ := blend_spec (x := x) (y := ray) (a := dot ray row) (b := -(dot x row))
  refine ⟨g, hg, ?_⟩
  rw [← dot_sml]
  show dot (sml g (blend x (dot ray row) ray (-(dot x row)))) r = _
  rw [e, dot_lin r h]
  grind
theorem upw_length (l row : Vec) : (upw l row).length = l.length := by
  unfold upw
  split
  · rfl
  · exact neg_length l
theorem upw_dot {l row : Vec} (h : dot l row ≠ 0) : 0 < dot (upw l row) row := by
  unfold upw
  split
  · assumption
  · rw [dot_neg]
    omega
theorem upw_zero {l row r : Vec} (h : dot l r = 0) : dot (upw l row) r = 0 := by
  unfold upw
  split
  · exact h
  · rw [dot_neg, h]
    rfl
theorem Lw_lev (x ray row : Vec) : Lw (lev x ray row) := Lw_low _
theorem Lw.upw {l row : Vec} (h : Lw l) : Lw (upw l row) := by
  unfold CH.upw
  split
  · exact h
  · exact h.neg
theorem mem_without {lines : List Vec} {p : Nat} {x : Vec} (h : x ∈ without lines p) : x ∈ lines := by
  rcases List.mem_append.mp h with q | q
  · exact List.mem_of_mem_take q
  · exact List.mem_of_mem_drop q
/-- lines at no row's other side, rays inside of all and off one -/
structure CHold (n : Nat) (rows : List Vec) (s : CState) : Prop where
  ll : ∀ l ∈ s.lines, l.length = n ∧ Lw l
  l0 : ∀ l ∈ s.lines, ∀ r ∈ rows, dot l r = 0
  rl : ∀ q ∈ s.masked, q.1.length = n ∧ Lw q.1
  r0 : ∀ q ∈ s.masked, ∀ r ∈ rows, 0 ≤ dot q.1 r
  r1 : ∀ q ∈ s.masked, ∃ r ∈ rows, 0 < dot q.1 r
theorem crossP_none {lines : List Vec} {row : Vec} (h : crossP lines row = none) : ∀ l ∈ lines, dot l row = 0 := fun l hl => by
  have := List.findIdx?_eq_none_iff.mp h l hl
  simpa using this
theorem crossP_some {lines : List Vec} {row : Vec} {p : Nat} (h : crossP lines row = some p) : ∃ l, lines[p]? = some l ∧ lines.getD p [] = l ∧ l ∈ lines ∧ dot l row ≠ 0 := by
  obtain ⟨hlt, h1, _⟩ := List.findIdx?_eq_some_iff_getElem.mp h
  refine ⟨lines[p], List.getElem?_eq_getElem hlt, ?_, List.getElem_mem hlt, by simpa using h1⟩
  rw [List.getD_eq_getElem?_getD, List.getElem?_eq_getElem hlt]
  rfl
theorem pos_of_mul {g a : Int} (hg : 0 < g) (h : 0 < g * a) : 0 < a := Int.pos_of_mul_pos_right h (by omega)
theorem nn_of_mul {g a : Int} (hg : 0 < g) (h : 0 ≤ g * a) : 0 ≤ a := Int.nonneg_of_mul_nonneg_right h hg
theorem CHold.step {n : Nat} {rows : List Vec} {s : CState} (h : CHold n rows s) (row : Vec) : CHold n (rows ++ [row]) (coneStep s row) := by
  have split : ∀ {P : Vec → Prop}, (∀ r ∈ rows, P r) → P row → ∀ r ∈ rows ++ [row], P r := fun h1 h2 r hr => by
    rcases List.mem_append.mp hr with z | z
    · exact h1 r z
    · rw [List.mem_singleton.mp z]; exact h2
  unfold coneStep
  cases hc : crossP s.lines row with
  | none =>
    have hz := crossP_none hc
    have part : ∀ q ∈ halvedR s.masked row s.bit, (q.1.length = n ∧ Lw q.1) ∧ (∀ r ∈ rows ++ [row], 0 ≤ dot q.1 r) ∧ ∃ r ∈ rows ++ [row], 0 < dot q.1 r := fun q hq => by
      rcases List.mem_append.mp hq with hq | hq
      · rcases List.mem_append.mp hq with hq | hq
        · obtain ⟨m, d⟩ := List.mem_filter.mp hq
          have d' := of_decide_eq_true d
          exact ⟨h.rl q m, split (h.r0 q m) (by omega), row, List.mem_append_right _ (List.mem_singleton.mpr rfl), d'⟩
        · obtain ⟨w, hw, rfl⟩ := List.mem_map.mp hq
          obtain ⟨m, d⟩ := List.mem_filter.mp hw
          have d' := of_decide_eq_true d
          obtain ⟨r, hr, hp⟩ := h.r1 w m
          exact ⟨h.rl w m, split (h.r0 w m) (by show 0 ≤ dot w.1 row; omega), r, List.mem_append_left _ hr, hp⟩
      · obtain ⟨hi, hhi, hin⟩ := List.mem_flatMap.mp hq
        obtain ⟨lo, hlo, e⟩ := List.mem_filterMap.mp hin
        split at e
        · cases e
          obtain ⟨m1, d1⟩ := List.mem_filter.mp hhi
          obtain ⟨m2, d2⟩ := List.mem_filter.mp hlo
          have d1' := of_decide_eq_true d1
          have d2' := of_decide_eq_true d2
          have hl : lo.1.length = hi.1.length := by rw [(h.rl lo m2).1, (h.rl hi m1).1]
          refine ⟨⟨by rw [lev_length hl]; exact (h.rl lo m2).1, Lw_lev _ _ _⟩, split (fun r hr => ?_) ?_, ?_⟩
          · obtain ⟨g, hg, e⟩ := lev_dot (row := row) hl r
            refine nn_of_mul hg ?_
            rw [e]
            have a1 := Int.mul_nonneg (Int.le_of_lt d1') (h.r0 lo m2 r hr)
            have a2 := Int.mul_nonneg (show 0 ≤ -(dot lo.1 row) by omega) (h.r0 hi m1 r hr)
            grind
          · obtain ⟨g, hg, e⟩ := lev_dot (row := row) hl row
            refine nn_of_mul hg ?_
            rw [e]
            grind
          · obtain ⟨r, hr, hp⟩ := h.r1 hi m1
            refine ⟨r, List.mem_append_left _ hr, ?_⟩
            obtain ⟨g, hg, e⟩ := lev_dot (row := row) hl r
            refine pos_of_mul hg ?_
            rw [e]
            have a1 := Int.mul_nonneg (Int.le_of_lt d1') (h.r0 lo m2 r hr)
            have a2 := Int.mul_pos (show 0 < -(dot lo.1 row) by omega) hp
            grind
        · cases e
    exact ⟨h.ll, fun l hl => split (h.l0 l hl) (hz l hl), fun q hq => (part q hq).1, fun q hq => (part q hq).2.1, fun q hq => (part q hq).2.2⟩
  | some p =>
    obtain ⟨l, el, ed, ml, nz⟩ := crossP_some hc
    have lray : (upw l row).length = n := by rw [upw_length, (h.ll l ml).1]
    have up := upw_dot nz
    refine ⟨fun x hx => ?_, fun x hx => ?_, fun q hq => ?_, fun q hq => ?_, fun q hq => ?_⟩
    · obtain ⟨o, ho, rfl⟩ := List.mem_map.mp hx
      have mo := mem_without ho
      rw [ed]
      exact ⟨by rw [lev_length (by rw [(h.ll o mo).1, lray]), (h.ll o mo).1], Lw_lev _ _ _⟩
    · obtain ⟨o, ho, rfl⟩ := List.mem_map.mp hx
      have mo := mem_without ho
      rw [ed]
      have hl : o.length = (upw l row).length := by rw [(h.ll o mo).1, lray]
      refine split (fun r hr => ?_) ?_
      · obtain ⟨g, hg, e⟩ := lev_dot (row := row) hl r
        rw [h.l0 o mo r hr, upw_zero (h.l0 l ml r hr)] at e
        exact (Int.mul_eq_zero.mp (e.trans (by grind))).resolve_left (by omega)
      · obtain ⟨g, hg, e⟩ := lev_dot (row := row) hl row
        exact (Int.mul_eq_zero.mp (e.trans (by grind))).resolve_left (by omega)
    · rcases List.mem_append.mp hq with hq | hq
      · obtain ⟨w, hw, rfl⟩ := List.mem_map.mp hq
        rw [ed]
        exact ⟨by rw [lev_length (by rw [(h.rl w hw).1, lray]), (h.rl w hw).1], Lw_lev _ _ _⟩
      · rw [List.mem_singleton.mp hq, ed]
        exact ⟨lray, (h.ll l ml).2.upw⟩
    · rcases List.mem_append.mp hq with hq | hq
      · obtain ⟨w, hw, rfl⟩ := List.mem_map.mp hq
        rw [ed]
        have hl : w.1.length = (upw l row).length := by rw [(h.rl w hw).1, lray]
        refine split (fun r hr => ?_) ?_
        · obtain ⟨g, hg, e⟩ := lev_dot (row := row) hl r
          refine nn_of_mul hg ?_
          rw [e, upw_zero (h.l0 l ml r hr)]
          have a1 := Int.mul_nonneg (Int.le_of_lt up) (h.r0 w hw r hr)
          grind
        · obtain ⟨g, hg, e⟩ := lev_dot (row := row) hl row
          refine nn_of_mul hg ?_
          rw [e]
          grind
      · rw [List.mem_singleton.mp hq, ed]
        exact split (fun r hr => by rw [upw_zero (h.l0 l ml r hr)]; exact Int.le_refl _) (Int.le_of_lt up)
    · rcases List.mem_append.mp hq with hq | hq
      · obtain ⟨w, hw, rfl⟩ := List.mem_map.mp hq
        rw [ed]
        have hl : w.1.length = (upw l row).length := by rw [(h.rl w hw).1, lray]
        obtain ⟨r, hr, hp⟩ := h.r1 w hw
        refine ⟨r, List.mem_append_left _ hr, ?_⟩
        obtain ⟨g, hg, e⟩ := lev_dot (row := row) hl r
        refine pos_of_mul hg ?_
        rw [e, upw_zero (h.l0 l ml r hr)]
        have a1 := Int.mul_pos up hp
        grind
      · rw [List.mem_singleton.mp hq, ed]
        exact ⟨row, List.mem_append_right _ (List.mem_singleton.mpr rfl), up⟩
theorem run_snoc (rows : List Vec) (r : Vec) (n : Nat) : coneRun (rows ++ [r]) n = coneStep (coneRun rows n) r := by
  unfold coneRun
  rw [List.foldl_append]
  rfl
theorem cone0_hold (n : Nat) : CHold n [] (cone0 n) := by
  refine ⟨fun l hl => ?_, (fun l _ r hr => nomatch hr), (fun q hq => nomatch hq), (fun q hq => nomatch hq), (fun q hq => nomatch hq)⟩
  obtain ⟨p, _, rfl⟩ := List.mem_map.mp hl
  exact ⟨unitv_length n p, Lw_unit n p⟩
theorem run_hold (n : Nat) (rows : List Vec) : CHold n rows (coneRun rows n) := by
  have go : ∀ (rest done : List Vec), CHold n done (coneRun done n) → CHold n (done ++ rest) (coneRun (done ++ rest) n) := by
    intro rest
    induction rest with
    | nil =>
      intro done h
      rw [List.append_nil]
      exact h
    | cons r rest ih =>
      intro done h
      have := ih (done ++ [r]) (by rw [run_snoc]; exact h.step r)
      rw [List.append_assoc] at this
      exact this
  exact go rows [] (cone0_hold n)
theorem dot_nil_r (x : Vec) : dot x [] = 0 := by cases x <;> rfl
theorem nz_of_dot : ∀ {x r : Vec}, dot x r ≠ 0 → ∃ p, at0 x p ≠ 0
  | [], r, h => absurd (by cases r <;> rfl) h
  | x :: xs, [], h => absurd rfl h
  | x :: xs, r :: rs, h => by
    by_cases hx : x = 0
    · have h' : x * r + dot xs rs ≠ 0 := h
      rw [hx, Int.zero_mul, Int.zero_add] at h'
      obtain ⟨p, hp⟩ := nz_of_dot h'
      exact ⟨p + 1, hp⟩
    · exact ⟨0, hx⟩
/-- the lines and rays that are told -/
theorem cone_lines {n : Nat} {rows : List Vec} : ∀ q ∈ coneL rows n, q.2.length = n ∧ gl q.2 = 1 ∧ ∀ r ∈ rows, dot q.2 r = 0 := fun q hq => by
  have h := run_hold n rows
  have E := ech_ok (n := n) (rows := (coneRun rows n).lines) fun l hl => (h.ll l hl).1
  have hp := E.pos q hq
  refine ⟨E.len q hq, (ech_Lw _ q hq).one (p := q.1) (by omega), fun r hr => ?_⟩
  have sp := E.out q hq
  have hS : ∀ v, v ∈ (coneRun rows n).lines → v.length = n := fun v hv => (h.ll v hv).1
  have key : ∀ x, Span n (· ∈ (coneRun rows n).lines) x → dot x r = 0 := fun x hx => by
    induction hx with
    | zero => exact dot_zeros n r
    | of hv => exact h.l0 _ hv r hr
    | lin a b h1 h2 e1 e2 =>
      rw [dot_lin r ((h1.length hS).trans (h2.length hS).symm), e1, e2]
      grind
    | div hc _ _ e =>
      rw [dot_sml] at e
      exact (Int.mul_eq_zero.mp e).resolve_left hc
  exact key _ sp
theorem cone_rays {n : Nat} {rows : List Vec} : ∀ x ∈ coneR rows n, x.length = n ∧ gl x = 1 ∧ (∀ r ∈ rows, 0 ≤ dot x r) ∧ ∃ r ∈ rows, 0 < dot x r := fun x hx => by
  obtain ⟨q, hq, rfl⟩ := List.mem_map.mp hx
  have h := run_hold n rows
  have E := ech_ok (n := n) (rows := (coneRun rows n).lines) fun l hl => (h.ll l hl).1
  have lq := (h.rl q hq).1
  have hl := redu_length (L := coneL rows n) E.toLeads lq
  have key : ∀ r ∈ rows, ∃ g a : Int, 0 < g ∧ 0 < a ∧ g * dot (redu q.1 (coneL rows n)) r = a * dot q.1 r := fun r hr => redu_dot (L := coneL rows n) E.toLeads lq fun l hl => (cone_lines l hl).2.2 r hr
  obtain ⟨r1, hr1, hp1⟩ := h.r1 q hq
  have pos1 : 0 < dot (redu q.1 (coneL rows n)) r1 := by
    obtain ⟨g, a, hg, ha, e⟩ := key r1 hr1
    refine pos_of_mul hg ?_
    rw [e]
    exact Int.mul_pos ha hp1
  obtain ⟨p, hp⟩ := nz_of_dot (x := redu q.1 (coneL rows n)) (r := r1) (by omega)
  refine ⟨hl, ((h.rl q hq).2.redu).one hp, fun r hr => ?_, r1, hr1, pos1⟩
  obtain ⟨g, a, hg, ha, e⟩ := key r hr
  refine nn_of_mul hg ?_
  rw [e]
  exact Int.mul_nonneg (Int.le_of_lt ha) (h.r0 q hq r hr)
end CH

set_option Elab.async false
set_option linter.all false
set_option maxRecDepth 100000
namespace CH
open PySem PySem.Spec PyProof.Rows L2
/-! ### masks: numbers whose bits are rows -/
theorem band_nat (a b : Nat) : band (a : Int) (b : Int) = ((a &&& b : Nat) : Int) := by
  have := bitAnd_pp (x := (a : Int)) (y := (b : Int)) (by omega) (by omega)
  rw [Int.toNat_natCast, Int.toNat_natCast] at this
  exact this
theorem bor_nat (a b : Nat) : bor (a : Int) (b : Int) = ((a ||| b : Nat) : Int) := by
  have := L2.bitOr_nn (x := (a : Int)) (y := (b : Int)) (by omega) (by omega)
  rw [Int.toNat_natCast, Int.toNat_natCast] at this
  exact this
theorem or_bit {m k : Nat} (h : m < 2 ^ k) : m ||| 2 ^ k = m + 2 ^ k := by
  have := Nat.two_pow_add_eq_or_of_lt h 1
  rw [Nat.mul_one] at this
  rw [Nat.or_comm, ← this, Nat.add_comm]
theorem and_lt {a b k : Nat} (h : a < 2 ^ k) : a &&& b < 2 ^ k := Nat.lt_of_le_of_lt Nat.and_le_left h
/-- the masks are numbers of so many bits, none twice -/
structure Masks (k : Nat) (ms : List Int) : Prop where
  nat : ∀ m ∈ ms, ∃ a : Nat, m = a ∧ a < 2 ^ k
  nd : ms.Nodup
theorem nodup_bound : ∀ (N : Nat) (l : List Nat), l.Nodup → (∀ x ∈ l, x < N) → l.length ≤ N
  | 0, [], _, _ => Nat.le_refl _
  | 0, x :: _, _, h => absurd (h x List.mem_cons_self) (Nat.not_lt_zero _)
  | N + 1, l, nd, h => by
    have h1 : (l.filter (fun x => x != N)).length ≤ N := nodup_bound N _ (nd.filter _) fun x hx => by
      obtain ⟨m, ne⟩ := List.mem_filter.mp hx
      have := h x m
      have ne' : x ≠ N := by simpa using ne
      omega
    have h2 : l.length ≤ (l.filter (fun x => x != N)).length + 1 := by
      have : (l.erase N) = l.filter (fun x => x != N) := nd.erase_eq_filter N
      rw [← this, List.length_erase]
      split <;> omega
    omega
theorem Masks.length {k : Nat} {ms : List Int} (h : Masks k ms) : ms.length ≤ 2 ^ k := by
  have e : (ms.map Int.toNat).length ≤ 2 ^ k := by
    refine nodup_bound (2 ^ k) _ ?_ fun x hx => ?_
    · refine List.pairwise_map.mpr (h.nd.imp_of_mem fun {a b} ha hb ne z => ne ?_)
      obtain ⟨x, rfl, _⟩ := h.nat a ha
      obtain ⟨y, rfl, _⟩ := h.nat b hb
      have : x = y := by simpa using z
      rw [this]
    · obtain ⟨m, hm, rfl⟩ := List.mem_map.mp hx
      obtain ⟨a, rfl, ha⟩ := h.nat m hm
      simpa using ha
  rw [List.length_map] at e
  exact e
theorem pair_sub {α : Type} : ∀ {l : List α} {x y : α}, x ∈ l → y ∈ l → x ≠ y → [x, y].Sublist l ∨ [y, x].Sublist l
  | a :: l, x, y, hx, hy, ne => by
    rcases List.mem_cons.mp hx with e | hx
    · rcases List.mem_cons.mp hy with e' | hy
      · exact absurd (e.trans e'.symm) ne
      · rw [e]
        exact .inl ((List.singleton_sublist.mpr hy).cons_cons a)
    · rcases List.mem_cons.mp hy with e' | hy
      · rw [e']
        exact .inr ((List.singleton_sublist.mpr hx).cons_cons a)
      · rcases pair_sub hx hy ne with z | z
        · exact .inl (z.cons a)
        · exact .inr (z.cons a)
/-- three masks with all the shared bits: no neighbours -/
theorem nbs_three {m o a b c : Int} {ms : List Int} (nd : ms.Nodup) (ha : a ∈ ms) (hb : b ∈ ms) (hc : c ∈ ms) (ab : a ≠ b) (ac : a ≠ c) (bc : b ≠ c)
    (qa : band a (band m o) = band m o) (qb : band b (band m o) = band m o) (qc : band c (band m o) = band m o) : nbs m o ms = false := by
  unfold nbs
  refine decide_eq_false fun hle => ?_
  have f : ∀ x, x ∈ ms → band x (band m o) = band m o → x ∈ ms.filter fun h => decide (band h (band m o) = band m o) := fun x hx q => List.mem_filter.mpr ⟨hx, decide_eq_true q⟩
  have nf : (ms.filter fun h => decide (band h (band m o) = band m o)).Nodup := nd.filter _
  generalize (ms.filter fun h => decide (band h (band m o) = band m o)) = l at *
  have fa := f a ha qa
  have fb := f b hb qb
  have fc := f c hc qc
  match l, hle with
  | [], _ => exact nomatch fa
  | [x], _ =>
    rw [List.mem_singleton] at fa fb
    exact ab (fa.trans fb.symm)
  | [x, y], _ =>
    simp only [List.mem_cons, List.not_mem_nil, or_false] at fa fb fc
    rcases fa with rfl | rfl <;> rcases fb with rfl | rfl <;> rcases fc with rfl | rfl <;> first | exact ab rfl | exact ac rfl | exact bc rfl
  | _ :: _ :: _ :: _, h => simp at h
theorem self_and {a b : Nat} : a &&& (a &&& b) = a &&& b := by rw [← Nat.and_assoc, Nat.and_self]
theorem self_and' {a b : Nat} : b &&& (a &&& b) = a &&& b := by rw [Nat.and_comm a b, self_and]
theorem masks_step {k : Nat} {s : CState} {row : Vec} (hb : s.bit = ((2 ^ k : Nat) : Int)) (h : Masks k (s.masked.map (·.2))) : Masks (k + 1) ((coneStep s row).masked.map (·.2)) ∧ (coneStep s row).bit = ((2 ^ (k + 1) : Nat) : Int) := by
  have bit2 : s.bit * 2 = ((2 ^ (k + 1) : Nat) : Int) := by
    rw [hb, Nat.pow_succ]
    omega
  have lt2 : ∀ {a : Nat}, a < 2 ^ k → a < 2 ^ (k + 1) := fun h => Nat.lt_of_lt_of_le h (Nat.pow_le_pow_right (by decide) (Nat.le_succ k))
  have up : ∀ q ∈ s.masked, ∃ a : Nat, q.2 = a ∧ a < 2 ^ k := fun q hq => h.nat _ (List.mem_map.mpr ⟨q, hq, rfl⟩)
  have orb : ∀ a : Nat, a < 2 ^ k → bor (a : Int) s.bit = ((a + 2 ^ k : Nat) : Int) := fun a ha => by rw [hb, bor_nat, or_bit ha]
  have lt3 : ∀ {a : Nat}, a < 2 ^ k → a + 2 ^ k < 2 ^ (k + 1) := fun h => by
    rw [Nat.pow_succ]
    omega
  unfold coneStep
  cases hc : crossP s.lines row with
  | some p =>
    refine ⟨?_, bit2⟩
    show Masks (k + 1) ((bentR s.lines p s.masked row s.bit).map (·.2))
    unfold bentR
    rw [List.map_append, List.map_map]
    have last : s.bit - 1 = ((2 ^ k - 1 : Nat) : Int) := by
      have := Nat.two_pow_pos k
      rw [hb]
      omega
    refine ⟨fun m hm => ?_, ?_⟩
    · rcases List.mem_append.mp hm with z | z
      · obtain ⟨q, hq, rfl⟩ := List.mem_map.mp z
        obtain ⟨a, ea, la⟩ := up q hq
        refine ⟨a + 2 ^ k, ?_, lt3 la⟩
        show bor q.2 s.bit = _
        rw [ea, orb a la]
      · have e : m = s.bit - 1 := by simpa using z
        refine ⟨2 ^ k - 1, by rw [e, last], lt2 (by have := Nat.two_pow_pos k; omega)⟩
    · show List.Pairwise _ _
      rw [List.pairwise_append]
      refine ⟨?_, List.pairwise_singleton _ _, fun a ha b hb' => ?_⟩
      · rw [List.pairwise_map]
        have nd := List.pairwise_map.mp h.nd
        refine nd.imp_of_mem fun {x y} hx hy ne z => ne ?_
        obtain ⟨a, ea, la⟩ := up x hx
        obtain ⟨c, ec, lc⟩ := up y hy
        have z' : bor x.2 s.bit = bor y.2 s.bit := z
        rw [ea, ec, orb a la, orb c lc] at z'
        rw [ea, ec]
        omega
      · obtain ⟨q, hq, rfl⟩ := List.mem_map.mp ha
        obtain ⟨c, ec, lc⟩ := up q hq
        have e : b = s.bit - 1 := by simpa using hb'
        show bor q.2 s.bit ≠ b
        rw [e, last, ec, orb c lc]
        have := Nat.two_pow_pos k
        omega
  | none =>
    refine ⟨?_, bit2⟩
    show Masks (k + 1) ((halvedR s.masked row s.bit).map (·.2))
    have mem : ∀ q ∈ s.masked, q.2 ∈ s.masked.map (·.2) := fun q hq => List.mem_map.mpr ⟨q, hq, rfl⟩
    -- two rays with one mask are one: so rays on different sides have different masks
    have inj : ∀ q ∈ s.masked, ∀ w ∈ s.masked, q.2 = w.2 → q = w := fun q hq w hw e => by
      have nd := List.pairwise_map.mp h.nd
      refine Classical.byContradiction fun ne => ?_
      rcases pair_sub hq hw ne with z | z
      · exact List.pairwise_iff_forall_sublist.mp nd z e
      · exact List.pairwise_iff_forall_sublist.mp nd z e.symm
    have apart : ∀ q ∈ s.masked, ∀ w ∈ s.masked, dot q.1 row ≠ dot w.1 row → q.2 ≠ w.2 := fun q hq w hw ne e => ne (by rw [inj q hq w hw e])
    have cr : ∀ hi ∈ s.masked, ∀ lo ∈ s.masked, ∀ {a c : Nat}, hi.2 = a → a < 2 ^ k → lo.2 = c → c < 2 ^ k → bor (band hi.2 lo.2) s.bit = (((a &&& c) + 2 ^ k : Nat) : Int) := fun hi _ lo _ a c ea la ec lc => by
      rw [ea, ec, band_nat, orb _ (and_lt la)]
    unfold halvedR
    rw [List.map_append, List.map_append]
    refine ⟨fun m hm => ?_, ?_⟩
    · rcases List.mem_append.mp hm with z | z
      · rcases List.mem_append.mp z with z | z
        · obtain ⟨q, hq, rfl⟩ := List.mem_map.mp z
          obtain ⟨a, ea, la⟩ := up q (List.mem_filter.mp hq).1
          exact ⟨a, ea, lt2 la⟩
        · obtain ⟨w, hw, rfl⟩ := List.mem_map.mp z
          obtain ⟨q, hq, rfl⟩ := List.mem_map.mp hw
          obtain ⟨a, ea, la⟩ := up q (List.mem_filter.mp hq).1
          refine ⟨a + 2 ^ k, ?_, lt3 la⟩
          show bor q.2 s.bit = _
          rw [ea, orb a la]
      · obtain ⟨w, hw, rfl⟩ := List.mem_map.mp z
        obtain ⟨hi, hhi, hin⟩ := List.mem_flatMap.mp hw
        obtain ⟨lo, hlo, e⟩ := List.mem_filterMap.mp hin
        split at e
        · cases e
          have m1 := (List.mem_filter.mp hhi).1
          have m2 := (List.mem_filter.mp hlo).1
          obtain ⟨a, ea, la⟩ := up hi m1
          obtain ⟨c, ec, lc⟩ := up lo m2
          refine ⟨(a &&& c) + 2 ^ k, ?_, lt3 (and_lt la)⟩
          exact cr hi m1 lo m2 ea la ec lc
        · cases e
    · show List.Pairwise _ _
      have ndm := List.pairwise_map.mp h.nd
      rw [List.pairwise_append]
      refine ⟨?_, ?_, fun x hx y hy => ?_⟩
      · rw [List.pairwise_append]
        refine ⟨List.pairwise_map.mpr (ndm.sublist List.filter_sublist), ?_, fun x hx y hy => ?_⟩
        · show List.Pairwise _ ((levelR s.masked row s.bit).map (·.2))
          unfold levelR
          rw [List.map_map, List.pairwise_map]
          refine (ndm.sublist List.filter_sublist).imp_of_mem fun {x y} hx hy ne z => ne ?_
          obtain ⟨a, ea, la⟩ := up x (List.mem_filter.mp hx).1
          obtain ⟨c, ec, lc⟩ := up y (List.mem_filter.mp hy).1
          have z' : bor x.2 s.bit = bor y.2 s.bit := z
          rw [ea, ec, orb a la, orb c lc] at z'
          rw [ea, ec]
          omega
        · obtain ⟨q, hq, rfl⟩ := List.mem_map.mp hx
          obtain ⟨w, hw, rfl⟩ := List.mem_map.mp hy
          obtain ⟨v, hv, rfl⟩ := List.mem_map.mp hw
          obtain ⟨a, ea, la⟩ := up q (List.mem_filter.mp hq).1
          obtain ⟨c, ec, lc⟩ := up v (List.mem_filter.mp hv).1
          show q.2 ≠ bor v.2 s.bit
          rw [ea, ec, orb c lc]
          omega
      · -- among those between neighbours
        show List.Pairwise _ ((crossedR _ _ _ row s.bit).map (·.2))
        rw [List.pairwise_map]
        unfold crossedR
        rw [List.pairwise_flatMap]
        refine ⟨fun hi hhi => ?_, ?_⟩
        · unfold crossed1
          rw [List.pairwise_filterMap]
          refine (ndm.sublist List.filter_sublist).imp_of_mem fun {l1 l2} h1 h2 ne x ex y ey z => ?_
          split at ex
          · rename_i nb1
            split at ey
            · cases ex
              cases ey
              obtain ⟨mh, dh⟩ := List.mem_filter.mp hhi
              obtain ⟨m1, d1⟩ := List.mem_filter.mp h1
              obtain ⟨m2, d2⟩ := List.mem_filter.mp h2
              have dh' := of_decide_eq_true dh
              have d1' := of_decide_eq_true d1
              have d2' := of_decide_eq_true d2
              obtain ⟨a, ea, la⟩ := up hi mh
              obtain ⟨c1, ec1, lc1⟩ := up l1 m1
              obtain ⟨c2, ec2, lc2⟩ := up l2 m2
              have z' : bor (band hi.2 l1.2) s.bit = bor (band hi.2 l2.2) s.bit := z
              rw [cr hi mh l1 m1 ea la ec1 lc1, cr hi mh l2 m2 ea la ec2 lc2] at z'
              have es : a &&& c1 = a &&& c2 := by omega
              have : nbs hi.2 l1.2 (s.masked.map (·.2)) = false := by
                refine nbs_three h.nd (mem hi mh) (mem l1 m1) (mem l2 m2) (apart hi mh l1 m1 (by omega)) (apart hi mh l2 m2 (by omega)) ne ?_ ?_ ?_
                · rw [ea, ec1, band_nat, band_nat, self_and]
                · rw [ea, ec1, band_nat, band_nat, self_and']
                · rw [ea, ec1, ec2, band_nat, band_nat, es, self_and']
              rw [this] at nb1
              cases nb1
            · cases ey
          · cases ex
        · refine (ndm.sublist List.filter_sublist).imp_of_mem fun {h1 h2} hh1 hh2 ne x hx y hy z => ?_
          obtain ⟨l1, hl1, e1⟩ := List.mem_filterMap.mp hx
          obtain ⟨l2, hl2, e2⟩ := List.mem_filterMap.mp hy
          split at e1
          · rename_i nb1
            split at e2
            · cases e1
              cases e2
              obtain ⟨m1, d1⟩ := List.mem_filter.mp hh1
              obtain ⟨m2, d2⟩ := List.mem_filter.mp hh2
              obtain ⟨n1, g1⟩ := List.mem_filter.mp hl1
              obtain ⟨n2, g2⟩ := List.mem_filter.mp hl2
              have d1' := of_decide_eq_true d1
              have d2' := of_decide_eq_true d2
              have g1' := of_decide_eq_true g1
              have g2' := of_decide_eq_true g2
              obtain ⟨a1, ea1, la1⟩ := up h1 m1
              obtain ⟨a2, ea2, la2⟩ := up h2 m2
              obtain ⟨c1, ec1, lc1⟩ := up l1 n1
              obtain ⟨c2, ec2, lc2⟩ := up l2 n2
              have z' : bor (band h1.2 l1.2) s.bit = bor (band h2.2 l2.2) s.bit := z
              rw [cr h1 m1 l1 n1 ea1 la1 ec1 lc1, cr h2 m2 l2 n2 ea2 la2 ec2 lc2] at z'
              have es : a1 &&& c1 = a2 &&& c2 := by omega
              have : nbs h1.2 l1.2 (s.masked.map (·.2)) = false := by
                refine nbs_three h.nd (mem h1 m1) (mem h2 m2) (mem l1 n1) ne (apart h1 m1 l1 n1 (by omega)) (apart h2 m2 l1 n1 (by omega)) ?_ ?_ ?_
                · rw [ea1, ec1, band_nat, band_nat, self_and]
                · rw [ea1, ea2, ec1, band_nat, band_nat, es, self_and]
                · rw [ea1, ec1, band_nat, band_nat, self_and']
              rw [this] at nb1
              cases nb1
            · cases e2
          · cases e1
      · -- against the others
        obtain ⟨w, hw, rfl⟩ := List.mem_map.mp hy
        obtain ⟨hi, hhi, hin⟩ := List.mem_flatMap.mp hw
        obtain ⟨lo, hlo, e⟩ := List.mem_filterMap.mp hin
        split at e
        · rename_i nb1
          cases e
          obtain ⟨m1, d1⟩ := List.mem_filter.mp hhi
          obtain ⟨m2, d2⟩ := List.mem_filter.mp hlo
          have d1' := of_decide_eq_true d1
          have d2' := of_decide_eq_true d2
          obtain ⟨a, ea, la⟩ := up hi m1
          obtain ⟨c, ec, lc⟩ := up lo m2
          show x ≠ bor (band hi.2 lo.2) s.bit
          rw [cr hi m1 lo m2 ea la ec lc]
          rcases List.mem_append.mp hx with hx | hx
          · obtain ⟨q, hq, rfl⟩ := List.mem_map.mp hx
            obtain ⟨b, eb, lb⟩ := up q (List.mem_filter.mp hq).1
            rw [eb]
            omega
          · obtain ⟨v, hv, rfl⟩ := List.mem_map.mp hx
            obtain ⟨q, hq, rfl⟩ := List.mem_map.mp hv
            obtain ⟨mq, dq⟩ := List.mem_filter.mp hq
            have dq' := of_decide_eq_true dq
            obtain ⟨b, eb, lb⟩ := up q mq
            show bor q.2 s.bit ≠ _
            rw [eb, orb b lb]
            intro z
            have es : b = a &&& c := by omega
            have : nbs hi.2 lo.2 (s.masked.map (·.2)) = false := by
              refine nbs_three h.nd (mem hi m1) (mem lo m2) (mem q mq) (apart hi m1 lo m2 (by omega)) (apart hi m1 q mq (by omega)) (apart lo m2 q mq (by omega)) ?_ ?_ ?_
              · rw [ea, ec, band_nat, band_nat, self_and]
              · rw [ea, ec, band_nat, band_nat, self_and']
              · rw [ea, ec, eb, band_nat, band_nat, es, Nat.and_self]
            rw [this] at nb1
            cases nb1
        · cases e
theorem run_masks {n : Nat} : ∀ (rows : List Vec), Masks rows.length ((coneRun rows n).masked.map (·.2)) ∧ (coneRun rows n).bit = ((2 ^ rows.length : Nat) : Int) := by
  have go : ∀ (rest done : List Vec), (Masks done.length ((coneRun done n).masked.map (·.2)) ∧ (coneRun done n).bit = ((2 ^ done.length : Nat) : Int)) → Masks (done ++ rest).length ((coneRun (done ++ rest) n).masked.map (·.2)) ∧ (coneRun (done ++ rest) n).bit = ((2 ^ (done ++ rest).length : Nat) : Int) := by
    intro rest
    induction rest with
    | nil =>
      intro done h
      rw [List.append_nil]
      exact h
    | cons r rest ih =>
      intro done h
      have := ih (done ++ [r]) (by
        rw [run_snoc, List.length_append, List.length_singleton]
        exact masks_step h.2 h.1)
      rw [List.append_assoc] at this
      exact this
  intro rows
  exact go rows [] ⟨⟨(fun _ h => nomatch h), .nil⟩, rfl⟩
end CH

set_option Elab.async false
set_option linter.all false
set_option maxRecDepth 100000
namespace CH
open PySem PySem.Spec PyProof.Rows L2
/-! ### how great the numbers of a cone become -/
theorem dot_abs {b c : Nat} : ∀ {x r : Vec}, Bd b x → Bd c r → (dot x r).natAbs + x.length ≤ x.length * 2 ^ (b + c) ∨ (dot x r).natAbs ≤ x.length * 2 ^ (b + c) - x.length ∧ (dot x r).natAbs < x.length * 2 ^ (b + c) + 1
  | [], r, _, _ => .inl (by cases r <;> simp [dot])
  | x :: xs, [], _, _ => .inl (by
    show 0 + (xs.length + 1) ≤ (xs.length + 1) * 2 ^ (b + c)
    have := Nat.two_pow_pos (b + c)
    have : (xs.length + 1) * 1 ≤ (xs.length + 1) * 2 ^ (b + c) := Nat.mul_le_mul_left _ this
    omega)
  | x :: xs, r :: rs, hx, hr => by
    have h1 := mul_bits (hx x List.mem_cons_self) (hr r List.mem_cons_self)
    have e : (dot (x :: xs) (r :: rs)).natAbs ≤ (x * r).natAbs + (dot xs rs).natAbs := Int.natAbs_add_le _ _
    have hm : (xs.length + 1) * 2 ^ (b + c) = xs.length * 2 ^ (b + c) + 2 ^ (b + c) := Nat.succ_mul _ _
    have hl : (x :: xs).length = xs.length + 1 := rfl
    rw [hl, hm]
    have p := Nat.two_pow_pos (b + c)
    have q : xs.length * 1 ≤ xs.length * 2 ^ (b + c) := Nat.mul_le_mul_left _ p
    rcases dot_abs (x := xs) (r := rs) (fun u hu => hx u (List.mem_cons_of_mem _ hu)) (fun u hu => hr u (List.mem_cons_of_mem _ hu)) with ih | ⟨ih, _⟩
    · exact .inl (by omega)
    · exact .inl (by omega)
theorem dot_bits {b c : Nat} {x r : Vec} (hl : x.length ≤ 8) (hx : Bd b x) (hr : Bd c r) : (dot x r).natAbs < 2 ^ (b + c + 3) := by
  have p := Nat.two_pow_pos (b + c)
  have e : 2 ^ (b + c + 3) = 8 * 2 ^ (b + c) := by rw [Nat.pow_add]; omega
  have m : x.length * 2 ^ (b + c) ≤ 8 * 2 ^ (b + c) := Nat.mul_le_mul_right _ hl
  have q : x.length * 1 ≤ x.length * 2 ^ (b + c) := Nat.mul_le_mul_left _ p
  rw [e]
  rcases dot_abs hx hr with h | ⟨h, _⟩
  · by_cases h0 : x.length = 0
    · have hx0 := List.length_eq_zero_iff.mp h0
      subst hx0
      have : dot [] r = 0 := by cases r <;> rfl
      rw [this]
      omega
    · omega
  · by_cases h0 : x.length = 0
    · have hx0 := List.length_eq_zero_iff.mp h0
      subst hx0
      have : dot [] r = 0 := by cases r <;> rfl
      rw [this]
      omega
    · omega
theorem Bd.lev {b c : Nat} {x ray row : Vec} (h : x.length = ray.length) (h8 : x.length ≤ 8) (hx : Bd b x) (hy : Bd b ray) (hr : Bd c row) : Bd (2 * b + c + 4) (lev x ray row) := by
  refine Bd.low ?_
  have := Bd.lin (b := b) (c := b + c + 3) (a := dot ray row) (d := -(dot x row)) h hx hy (dot_bits (h ▸ h8) hy hr) (by rw [Int.natAbs_neg]; exact dot_bits h8 hx hr)
  exact this.mono (by omega)
theorem Bd.upw {b : Nat} {l row : Vec} (h : Bd b l) : Bd b (upw l row) := by
  unfold CH.upw
  split
  · exact h
  · exact h.neg
def cz (c : Nat) : Nat → Nat
  | 0 => 1
  | k + 1 => 2 * cz c k + c + 4
theorem cz_mono (c : Nat) {i j : Nat} (h : i ≤ j) : cz c i ≤ cz c j := by
  induction h with
  | refl => exact Nat.le_refl _
  | step _ ih =>
    rename_i m _
    show cz c i ≤ 2 * cz c m + c + 4
    omega
structure CSize (c n k : Nat) (s : CState) : Prop where
  cnt : s.lines.length ≤ n
  few : n ≤ k + s.lines.length
  lin : ∀ l ∈ s.lines, Bd (cz c (n - s.lines.length)) l
  ray : ∀ q ∈ s.masked, Bd (cz c k) q.1
theorem without_length {lines : List Vec} {p : Nat} (h : p < lines.length) : (without lines p).length + 1 = lines.length := by
  unfold without
  rw [List.length_append, List.length_take, List.length_drop]
  omega
theorem CSize.step {c n k : Nat} {rows : List Vec} {s : CState} {row : Vec} (h : CSize c n k s) (hh : CHold n rows s) (hn : n ≤ 8) (hr : Bd c row) : CSize c n (k + 1) (coneStep s row) := by
  have ck : cz c k ≤ cz c (k + 1) := cz_mono c (Nat.le_succ k)
  have cl : cz c (n - s.lines.length) ≤ cz c k := cz_mono c (by have := h.few; omega)
  unfold coneStep
  cases hc : crossP s.lines row with
  | none =>
    refine ⟨h.cnt, by have := h.few; show n ≤ k + 1 + s.lines.length; omega, h.lin, fun q hq => ?_⟩
    rcases List.mem_append.mp hq with hq | hq
    · rcases List.mem_append.mp hq with hq | hq
      · exact (h.ray q (List.mem_filter.mp hq).1).mono ck
      · obtain ⟨w, hw, rfl⟩ := List.mem_map.mp hq
        exact (h.ray w (List.mem_filter.mp hw).1).mono ck
    · obtain ⟨hi, hhi, hin⟩ := List.mem_flatMap.mp hq
      obtain ⟨lo, hlo, e⟩ := List.mem_filterMap.mp hin
      split at e
      · cases e
        have m1 := (List.mem_filter.mp hhi).1
        have m2 := (List.mem_filter.mp hlo).1
        exact Bd.lev (by rw [(hh.rl lo m2).1, (hh.rl hi m1).1]) (by rw [(hh.rl lo m2).1]; exact hn) (h.ray lo m2) (h.ray hi m1) hr
      · cases e
  | some p =>
    obtain ⟨l, el, ed, ml, nz⟩ := crossP_some hc
    have hp : p < s.lines.length := (List.getElem?_eq_some_iff.mp el).1
    have lw := without_length hp
    have lb : (bentL s.lines p row).length + 1 = s.lines.length := by
      unfold bentL
      rw [List.length_map]
      exact lw
    have lray : (CH.upw l row).length = n := by rw [upw_length, (hh.ll l ml).1]
    have bray : Bd (cz c (n - s.lines.length)) (CH.upw l row) := (h.lin l ml).upw
    refine ⟨by have := h.cnt; show (bentL s.lines p row).length ≤ n; omega, by have := h.few; show n ≤ k + 1 + (bentL s.lines p row).length; omega, fun x hx => ?_, fun q hq => ?_⟩
    · obtain ⟨o, ho, rfl⟩ := List.mem_map.mp hx
      have mo := mem_without ho
      show Bd (cz c (n - (bentL s.lines p row).length)) _
      have e : n - (bentL s.lines p row).length = (n - s.lines.length) + 1 := by have := h.cnt; omega
      rw [e, ed]
      exact Bd.lev (by rw [(hh.ll o mo).1, lray]) (by rw [(hh.ll o mo).1]; exact hn) (h.lin o mo) bray hr
    · rcases List.mem_append.mp hq with hq | hq
      · obtain ⟨w, hw, rfl⟩ := List.mem_map.mp hq
        rw [ed]
        exact Bd.lev (by rw [(hh.rl w hw).1, lray]) (by rw [(hh.rl w hw).1]; exact hn) (h.ray w hw) (bray.mono cl) hr
      · rw [List.mem_singleton.mp hq, ed]
        exact bray.mono (Nat.le_trans cl ck)
theorem cone0_size (c n : Nat) : CSize c n 0 (cone0 n) := by
  have e : (cone0 n).lines.length = n := by
    show ((List.range n).map (unitv n)).length = n
    rw [List.length_map, List.length_range]
  refine ⟨by omega, by omega, fun l hl => ?_, (fun q hq => nomatch hq)⟩
  obtain ⟨p, _, rfl⟩ := List.mem_map.mp hl
  refine fun u hu => ?_
  obtain ⟨s, _, rfl⟩ := List.mem_map.mp hu
  refine Nat.lt_of_lt_of_le (m := 2) ?_ (Nat.pow_le_pow_right (n := 2) (by decide) (cz_mono c (Nat.zero_le (n - (cone0 n).lines.length))))
  split <;> decide
theorem run_size {c n : Nat} (hn : n ≤ 8) {rows : List Vec} (hr : ∀ r ∈ rows, Bd c r) : CSize c n rows.length (coneRun rows n) := by
  have go : ∀ (rest done : List Vec), (∀ r ∈ rest, Bd c r) → CSize c n done.length (coneRun done n) → CSize c n (done ++ rest).length (coneRun (done ++ rest) n) := by
    intro rest
    induction rest with
    | nil =>
      intro done _ h
      rw [List.append_nil]
      exact h
    | cons r rest ih =>
      intro done hb h
      have := ih (done ++ [r]) (fun x hx => hb x (List.mem_cons_of_mem _ hx)) (by
        rw [run_snoc, List.length_append, List.length_singleton]
        exact h.step (run_hold n done) hn (hb r List.mem_cons_self))
      rw [List.append_assoc] at this
      exact this
  exact go rows [] hr (cone0_size c n)
/-! ### how rays with masks stand in the heap -/
abbrev rRay (K : PySem.W.Frag) : RR Ray := rP K (rTI K) CH.rI
theorem mono_Ray {K : PySem.W.Frag} : Mono (rRay K) := mono_P mono_TI mono_I
theorem dot_sum : ∀ x y : Vec, (List.zipWith (· * ·) x y).sum = dot x y
  | [], [] => rfl
  | [], _ :: _ => rfl
  | _ :: _, [] => rfl
  | x :: xs, y :: ys => by
    show (x * y :: List.zipWith (· * ·) xs ys).sum = x * y + dot xs ys
    rw [List.sum_cons, dot_sum xs ys]
end CH

set_option Elab.async false
set_option linter.all false
set_option maxRecDepth 100000
namespace CH
open PySem PySem.Spec PyProof.Rows L2
/-! ### more readings opened -/
theorem tIfS_i {tt : TT} {t u : L2.TS} {D : Ends} {σ : L2.St} {H : Hp} (h : tt σ H fun b H1 => if b = true then t D σ H1 else u D σ H1) : tIfS tt t u D σ H := h
theorem tNot_i {tt : TT} {σ : L2.St} {H : Hp} {Q : Bool → Hp → Prop} (h : tt σ H fun b H1 => Q (!b) H1) : tNot tt σ H Q := h
theorem tB_i {t : TE} {σ : L2.St} {H : Hp} {Q : Bool → Hp → Prop} (h : t σ H fun x H' => ∃ k, x = .bl k ∧ Q k H') : tB t σ H Q := h
theorem tOr_i {tt u : TT} {σ : L2.St} {H : Hp} {Q : Bool → Hp → Prop} (h : tt σ H fun c H1 => if c = true then Q true H1 else u σ H1 Q) : tOr tt u σ H Q := h
/-! ### how great leads become -/
theorem echStep_len (L : List Lead) (row : Vec) : (echStep L row).length ≤ L.length + 1 := by
  unfold echStep
  split
  · omega
  · rw [List.length_append, List.length_map]
    exact Nat.le_refl _
theorem ech_take {rows : List Vec} {i : Nat} {r : Vec} (h : rows[i]? = some r) : ech (rows.take (i + 1)) = echStep (ech (rows.take i)) r := by
  unfold ech
  rw [List.take_add_one, h, Option.toList_some, List.foldl_append]
  rfl
theorem ech_len (rows : List Vec) : ∀ i, (ech (rows.take i)).length ≤ i
  | 0 => by
    rw [List.take_zero]
    exact Nat.le_refl _
  | i + 1 => by
    cases h : rows[i]? with
    | none =>
      have h1 : rows.length ≤ i := List.getElem?_eq_none_iff.mp h
      rw [List.take_of_length_le (by omega), ← List.take_of_length_le h1]
      exact Nat.le_succ_of_le (ech_len rows i)
    | some r =>
      rw [ech_take h]
      exact Nat.le_trans (echStep_len _ _) (Nat.succ_le_succ (ech_len rows i))
/-- all that the reading asks of the numbers' sizes, at each row -/
theorem ech_sizes {n b : Nat} {rows : List Vec} (hn : ∀ r ∈ rows, r.length = n) (hb : ∀ r ∈ rows, Bd b r) : ∀ i, ∀ q ∈ ech (rows.take i), Bd (LB b i) q.2
  | 0 => fun q hq => by
    rw [List.take_zero] at hq
    exact nomatch hq
  | i + 1 => by
    cases h : rows[i]? with
    | none =>
      have h1 : rows.length ≤ i := List.getElem?_eq_none_iff.mp h
      intro q hq
      rw [List.take_of_length_le (by omega), ← List.take_of_length_le h1] at hq
      exact (ech_sizes hn hb i q hq).mono (LB_mono b (by omega))
    | some r =>
      intro q hq
      have E := ech_ok (n := n) (rows := rows.take i) fun v hv => hn v (List.mem_of_mem_take hv)
      have mr : r ∈ rows := List.mem_of_getElem? h
      have ih := ech_sizes hn hb i
      have br : Bd (b + (ech (rows.take i)).length * (LB b i + 1)) (redu r (ech (rows.take i))) := Bd.redu E.toLeads (hn r mr) (hb r mr) ih
      have hlen := ech_len rows i
      have h1 : (ech (rows.take i)).length * (LB b i + 1) ≤ i * (LB b i + 1) := Nat.mul_le_mul_right _ hlen
      have hLB := LB_le b i
      have e1 : (i + 2) * (LB b i + 2) = i * (LB b i + 1) + i + 2 * (LB b i) + 4 := by grind
      rw [ech_take h] at hq
      unfold echStep at hq
      show Bd ((i + 2) * (LB b i + 2)) q.2
      rw [e1]
      split at hq
      · exact (ih q hq).mono (by omega)
      · have bl : ∀ p, Bd (b + (ech (rows.take i)).length * (LB b i + 1)) (posed (low (redu r (ech (rows.take i)))) p) := fun p => (br.low).posed
        rcases List.mem_append.mp hq with z | z
        · obtain ⟨s, hs, rfl⟩ := List.mem_map.mp z
          have ls : s.2.length = n := E.len s hs
          refine (Bd.clear (x := s.2) ?_ (ih s hs) (bl _)).mono (by omega)
          rw [posed_length, low_length, redu_length E.toLeads (hn r mr), ls]
        · rw [List.mem_singleton.mp z]
          exact (bl _).mono (by omega)
/-! ### how great the numbers are that a cone tells -/
def ConeFits (n c k : Nat) : Prop := 2 * cz c k + c + 4 ≤ 33554432 ∧ ∀ m, m ≤ n → LB (cz c (n - m)) m ≤ 33554432 ∧ cz c k + m * (LB (cz c (n - m)) m + 1) ≤ 33554432
theorem fits40 {n k : Nat} (hn : n ≤ 6) (hk : k ≤ 12) : ConeFits n 40 k := by
  have a := cz_mono 40 hk
  have e12 : cz 40 12 = 184276 := by decide
  have key : ∀ n' : Fin 7, ∀ m' : Fin 7, LB (cz 40 (n'.1 - m'.1)) m'.1 ≤ 36000 := by decide
  refine ⟨by omega, fun m hm => ?_⟩
  have k1 : LB (cz 40 (n - m)) m ≤ 36000 := key ⟨n, by omega⟩ ⟨m, by omega⟩
  have k2 : m * (LB (cz 40 (n - m)) m + 1) ≤ 6 * 36001 := Nat.mul_le_mul (by omega) (by omega)
  exact ⟨by omega, by omega⟩
theorem cone_sizes {n c : Nat} {rows : List Vec} (hn : n ≤ 8) (hr : ∀ r ∈ rows, r.length = n ∧ Bd c r) (F : ConeFits n c rows.length) : (∀ q ∈ coneL rows n, Bd 33554432 q.2) ∧ ∀ x ∈ coneR rows n, Bd 33554432 x := by
  have hh := run_hold n rows
  have hz := run_size (c := c) hn (rows := rows) fun x hx => (hr x hx).2
  obtain ⟨f1, f2⟩ := F.2 _ hz.cnt
  have E := ech_ok (n := n) (rows := (coneRun rows n).lines) fun l hl => (hh.ll l hl).1
  have kL : (coneL rows n).length ≤ (coneRun rows n).lines.length := by
    have := ech_len (coneRun rows n).lines (coneRun rows n).lines.length
    rw [List.take_length] at this
    exact this
  have szL : ∀ q ∈ coneL rows n, Bd (LB (cz c (n - (coneRun rows n).lines.length)) (coneRun rows n).lines.length) q.2 := fun q hq => by
    have := ech_sizes (n := n) (b := cz c (n - (coneRun rows n).lines.length)) (rows := (coneRun rows n).lines) (fun l hl => (hh.ll l hl).1) hz.lin (coneRun rows n).lines.length
    rw [List.take_length] at this
    exact this q hq
  refine ⟨fun q hq => (szL q hq).mono f1, fun x hx => ?_⟩
  obtain ⟨q, hq, rfl⟩ := List.mem_map.mp hx
  have b := Bd.redu (n := n) (L := coneL rows n) E.toLeads (hh.rl q hq).1 (hz.ray q hq) szL
  refine b.mono (Nat.le_trans ?_ f2)
  exact Nat.add_le_add_left (Nat.mul_le_mul_right _ kL) _
theorem lines40 {n : Nat} {rows : List Vec} (hn : n ≤ 6) (hr : ∀ r ∈ rows, r.length = n ∧ Bd 40 r) : ∀ q ∈ coneL rows n, Bd 36000 q.2 := fun q hq => by
  have key : ∀ n' : Fin 7, ∀ m' : Fin 7, LB (cz 40 (n'.1 - m'.1)) m'.1 ≤ 36000 := by decide
  have hh := run_hold n rows
  have hz := run_size (c := 40) (n := n) (by omega) (rows := rows) fun x hx => (hr x hx).2
  have k1 : LB (cz 40 (n - (coneRun rows n).lines.length)) (coneRun rows n).lines.length ≤ 36000 := key ⟨n, by omega⟩ ⟨(coneRun rows n).lines.length, by have := hz.cnt; omega⟩
  have := ech_sizes (n := n) (b := cz 40 (n - (coneRun rows n).lines.length)) (rows := (coneRun rows n).lines) (fun l hl => (hh.ll l hl).1) hz.lin (coneRun rows n).lines.length
  rw [List.take_length] at this
  exact (this q hq).mono k1
theorem cone_counts {n : Nat} {rows : List Vec} (hn : n ≤ 8) : (coneL rows n).length ≤ n ∧ (coneR rows n).length ≤ 2 ^ rows.length := by
  have hk := (run_masks (n := n) rows).1.length
  rw [List.length_map] at hk
  refine ⟨?_, by unfold coneR; rw [List.length_map]; exact hk⟩
  have := ech_len (coneRun rows n).lines (coneRun rows n).lines.length
  rw [List.take_length] at this
  refine Nat.le_trans this ?_
  have go : ∀ (rest done : List Vec), (coneRun done n).lines.length ≤ n → (coneRun (done ++ rest) n).lines.length ≤ n := by
    intro rest
    induction rest with
    | nil =>
      intro done h
      rw [List.append_nil]
      exact h
    | cons r rest ih =>
      intro done h
      have := ih (done ++ [r]) (by
        rw [run_snoc]
        unfold coneStep
        cases hc : crossP (coneRun done n).lines r with
        | none => exact h
        | some p =>
          obtain ⟨l, el, _, _, _⟩ := crossP_some hc
          have hp : p < (coneRun done n).lines.length := (List.getElem?_eq_some_iff.mp el).1
          have lw := without_length hp
          show (bentL (coneRun done n).lines p r).length ≤ n
          unfold bentL
          rw [List.length_map]
          omega)
      rw [List.append_assoc] at this
      exact this
  exact go rows [] (by show ((List.range n).map (unitv n)).length ≤ n; rw [List.length_map, List.length_range]; exact Nat.le_refl _)
end CH

set_option Elab.async false
set_option linter.all false
set_option maxRecDepth 100000
namespace CH
open PySem PySem.Spec PyProof.Rows L2
/-! ### what rays make: by their products with the rows alone -/
def Nn (A : List Vec) (x : Vec) : Prop := ∀ r ∈ A, 0 ≤ dot x r
def Nz (A : List Vec) (x : Vec) : Prop := ∃ r ∈ A, dot x r ≠ 0
/-- y lies at all bounds at which x lies -/
def Tgt (A : List Vec) (x y : Vec) : Prop := ∀ r ∈ A, dot x r = 0 → dot y r = 0
/-- whatever lies at all bounds at which x lies goes along x -/
def Ext (n : Nat) (A : List Vec) (x : Vec) : Prop := ∀ y : Vec, y.length = n → Tgt A x y → ∃ c d : Int, c ≠ 0 ∧ ∀ r ∈ A, c * dot y r = d * dot x r
/-- x and y go the same way -/
def Prp (A : List Vec) (x y : Vec) : Prop := ∃ c d : Int, 0 < c ∧ 0 < d ∧ ∀ r ∈ A, c * dot x r = d * dot y r
theorem Tgt.refl (A : List Vec) (x : Vec) : Tgt A x x := fun _ _ h => h
theorem Tgt.trans {A : List Vec} {x y z : Vec} (a : Tgt A x y) (b : Tgt A y z) : Tgt A x z := fun r hr h => b r hr (a r hr h)
theorem Prp.symm {A : List Vec} {x y : Vec} (h : Prp A x y) : Prp A y x := by
  obtain ⟨c, d, hc, hd, e⟩ := h
  exact ⟨d, c, hd, hc, fun r hr => (e r hr).symm⟩
theorem Prp.trans {A : List Vec} {x y z : Vec} (h : Prp A x y) (h' : Prp A y z) : Prp A x z := by
  obtain ⟨c, d, hc, hd, e⟩ := h
  obtain ⟨c', d', hc', hd', e'⟩ := h'
  refine ⟨c' * c, d * d', Int.mul_pos hc' hc, Int.mul_pos hd hd', fun r hr => ?_⟩
  have h1 := e r hr
  have h2 := e' r hr
  grind
theorem Prp.tgt {A : List Vec} {x y : Vec} (h : Prp A x y) : Tgt A x y := fun r hr z => by
  obtain ⟨c, d, hc, hd, e⟩ := h
  have := e r hr
  rw [z, Int.mul_zero] at this
  exact (Int.mul_eq_zero.mp this.symm).resolve_left (by omega)
theorem nn_pos {A : List Vec} {x : Vec} (h : Nn A x) (z : Nz A x) : ∃ r ∈ A, 0 < dot x r := by
  obtain ⟨r, hr, e⟩ := z
  have := h r hr
  exact ⟨r, hr, by omega⟩
/-- what goes along x and is nowhere below nought goes the same way -/
theorem prp_of {A : List Vec} {x y : Vec} {c d : Int} (hc : c ≠ 0) (e : ∀ r ∈ A, c * dot y r = d * dot x r) (nx : Nn A x) (ny : Nn A y) (zy : Nz A y) : Prp A y x := by
  obtain ⟨r, hr, hy⟩ := nn_pos ny zy
  have h1 := e r hr
  have h2 := nx r hr
  have d0 : d ≠ 0 := fun z => by
    rw [z, Int.zero_mul] at h1
    rcases Int.mul_eq_zero.mp h1 with q | q
    · exact hc q
    · omega
  have hx : 0 < dot x r := by
    rcases Int.lt_or_eq_of_le h2 with q | q
    · exact q
    · rw [← q, Int.mul_zero] at h1
      rcases Int.mul_eq_zero.mp h1 with q | q
      · exact absurd q hc
      · omega
  by_cases cp : 0 < c
  · refine ⟨c, d, cp, ?_, e⟩
    have : 0 < d * dot x r := by rw [← h1]; exact Int.mul_pos cp hy
    exact Int.pos_of_mul_pos_left this hx
  · refine ⟨-c, -d, by omega, ?_, fun r hr => by have := e r hr; grind⟩
    have h3 : 0 < (-c) * dot y r := Int.mul_pos (by omega) hy
    have h4 : 0 < (-d) * dot x r := by grind
    exact Int.pos_of_mul_pos_left h4 hx
theorem Ext.prp {n : Nat} {A : List Vec} {x y : Vec} (h : Ext n A x) (ly : y.length = n) (t : Tgt A x y) (nx : Nn A x) (ny : Nn A y) (zy : Nz A y) : Prp A y x := by
  obtain ⟨c, d, hc, e⟩ := h y ly t
  exact prp_of hc e nx ny zy
theorem Ext.of_prp {n : Nat} {A : List Vec} {x y : Vec} (h : Ext n A x) (p : Prp A y x) : Ext n A y := fun z lz t => by
  obtain ⟨c, d, hc, e⟩ := h z lz (p.symm.tgt.trans t)
  obtain ⟨c', d', hc', hd', e'⟩ := p
  refine ⟨c * d', d * c', Int.mul_ne_zero hc (by omega), fun r hr => ?_⟩
  have h1 := e r hr
  have h2 := e' r hr
  grind
theorem min_ratio {x y : Vec} : ∀ {A : List Vec}, (∃ r ∈ A, 0 < dot y r) → ∃ s ∈ A, 0 < dot y s ∧ ∀ r ∈ A, 0 < dot y r → dot x s * dot y r ≤ dot x r * dot y s
  | [], h => by obtain ⟨r, hr, _⟩ := h; exact nomatch hr
  | r0 :: A, h => by
    by_cases hA : ∃ r ∈ A, 0 < dot y r
    · obtain ⟨s, hs, ys, ms⟩ := min_ratio (x := x) hA
      by_cases y0 : 0 < dot y r0
      · by_cases hlt : dot x r0 * dot y s < dot x s * dot y r0
        · refine ⟨r0, List.mem_cons_self, y0, fun r hr yr => ?_⟩
          rcases List.mem_cons.mp hr with e | hr
          · rw [e]; exact Int.le_refl _
          · have h1 := ms r hr yr
            have h2 : dot x r0 * dot y s * dot y r ≤ dot x s * dot y r0 * dot y r := Int.mul_le_mul_of_nonneg_right (Int.le_of_lt hlt) (Int.le_of_lt yr)
            have h3 : dot x s * dot y r * dot y r0 ≤ dot x r * dot y s * dot y r0 := Int.mul_le_mul_of_nonneg_right h1 (Int.le_of_lt y0)
            have h4 : (dot x r0 * dot y r) * dot y s ≤ (dot x r * dot y r0) * dot y s := by grind
            exact Int.le_of_mul_le_mul_right h4 ys
        · refine ⟨s, List.mem_cons_of_mem _ hs, ys, fun r hr yr => ?_⟩
          rcases List.mem_cons.mp hr with e | hr
          · rw [e]; omega
          · exact ms r hr yr
      · refine ⟨s, List.mem_cons_of_mem _ hs, ys, fun r hr yr => ?_⟩
        rcases List.mem_cons.mp hr with e | hr
        · rw [e] at yr; exact absurd yr y0
        · exact ms r hr yr
    · obtain ⟨r, hr, yr⟩ := h
      have er : r = r0 := by
        rcases List.mem_cons.mp hr with e | hr
        · exact e
        · exact absurd ⟨r, hr, yr⟩ hA
      subst er
      refine ⟨r, List.mem_cons_self, yr, fun s hs ys => ?_⟩
      rcases List.mem_cons.mp hs with e | hs
      · rw [e]; exact Int.le_refl _
      · exact absurd ⟨s, hs, ys⟩ hA
/-- x less of y, until it reaches one bound more -/
theorem shrink {n : Nat} {A : List Vec} {x y : Vec} (lx : x.length = n) (ly : y.length = n) (nx : Nn A x) (t : Tgt A x y) (hp : ∃ r ∈ A, 0 < dot y r) :
    ∃ u s, u.length = n ∧ s ∈ A ∧ 0 < dot y s ∧ 0 < dot x s ∧ Nn A u ∧ (∀ r ∈ A, dot u r = dot y s * dot x r - dot x s * dot y r) ∧ Tgt A x u ∧ dot u s = 0 := by
  obtain ⟨s, hs, ys, ms⟩ := min_ratio (x := x) hp
  have xs : 0 < dot x s := by
    have h1 := nx s hs
    have h2 : dot x s ≠ 0 := fun z => by have := t s hs z; omega
    omega
  have e : ∀ r, dot (lin (dot y s) x (-(dot x s)) y) r = dot y s * dot x r - dot x s * dot y r := fun r => by
    rw [dot_lin r (lx.trans ly.symm)]
    grind
  refine ⟨lin (dot y s) x (-(dot x s)) y, s, by rw [lin_length (lx.trans ly.symm), lx], hs, ys, xs, fun r hr => ?_, fun r _ => e r, fun r hr z => ?_, ?_⟩
  · rw [e]
    by_cases yr : 0 < dot y r
    · have := ms r hr yr
      grind
    · have h1 := Int.mul_nonneg (Int.le_of_lt ys) (nx r hr)
      have h2 := Int.mul_nonneg (Int.le_of_lt xs) (show 0 ≤ -(dot y r) by omega)
      grind
  · rw [e, z, t r hr z]
    grind
  · rw [e]
    grind
theorem filter_lt {α : Type} {p q : α → Bool} : ∀ {l : List α}, (∀ x ∈ l, p x = true → q x = true) → (∃ x ∈ l, q x = true ∧ p x = false) → (l.filter p).length < (l.filter q).length
  | [], _, h => by obtain ⟨x, hx, _⟩ := h; exact nomatch hx
  | a :: l, h, hx => by
    have le : ∀ {l : List α}, (∀ x ∈ l, p x = true → q x = true) → (l.filter p).length ≤ (l.filter q).length := by
      intro l
      induction l with
      | nil => intro _; exact Nat.le_refl _
      | cons b l ih =>
        intro h
        have := ih fun x hx => h x (List.mem_cons_of_mem _ hx)
        have hb := h b List.mem_cons_self
        rw [List.filter_cons, List.filter_cons]
        split
        · rename_i pb
          rw [if_pos (hb pb), List.length_cons, List.length_cons]
          omega
        · split
          · rw [List.length_cons]; omega
          · exact this
    have ht : ∀ x ∈ l, p x = true → q x = true := fun x hx => h x (List.mem_cons_of_mem _ hx)
    obtain ⟨x, mx, qx, px⟩ := hx
    rcases List.mem_cons.mp mx with e | mx
    · subst e
      rw [List.filter_cons, List.filter_cons, px, qx]
      have := le ht
      simp only [if_true, List.length_cons]
      show (l.filter p).length < _
      omega
    · have ih := filter_lt ht ⟨x, mx, qx, px⟩
      have ha := h a List.mem_cons_self
      rw [List.filter_cons, List.filter_cons]
      split
      · rename_i pa
        rw [if_pos (ha pa), List.length_cons, List.length_cons]
        omega
      · split
        · rw [List.length_cons]; omega
        · exact ih
/-- what some make, by the products with the rows -/
inductive Hull (n : Nat) (A : List Vec) (S : Vec → Prop) : Vec → Prop
  | zero {x : Vec} : x.length = n → (∀ r ∈ A, dot x r = 0) → Hull n A S x
  | of {x : Vec} : S x → x.length = n → Hull n A S x
  | add {x y z : Vec} {a b c : Int} : 0 < a → 0 ≤ b → 0 ≤ c → z.length = n → (∀ r ∈ A, a * dot z r = b * dot x r + c * dot y r) → Hull n A S x → Hull n A S y → Hull n A S z
theorem Hull.length {n : Nat} {A : List Vec} {S : Vec → Prop} {x : Vec} (h : Hull n A S x) : x.length = n := by
  cases h with
  | zero l _ => exact l
  | of _ l => exact l
  | add _ _ _ l _ _ _ => exact l
theorem Hull.mono {n : Nat} {A : List Vec} {S S' : Vec → Prop} (f : ∀ x, S x → S' x) {x : Vec} (h : Hull n A S x) : Hull n A S' x := by
  induction h with
  | zero l z => exact .zero l z
  | of s l => exact .of (f _ s) l
  | add a b c l e _ _ h1 h2 => exact .add a b c l e h1 h2
def loose (A : List Vec) (x : Vec) : Nat := (A.filter fun r => dot x r != 0).length
theorem loose_lt {A : List Vec} {x u s : Vec} (t : Tgt A x u) (hs : s ∈ A) (xs : dot x s ≠ 0) (us : dot u s = 0) : loose A u < loose A x := by
  refine filter_lt (fun r hr h => ?_) ⟨s, hs, by simpa using xs, by simpa using us⟩
  have h' : dot u r ≠ 0 := by simpa using h
  have : dot x r ≠ 0 := fun z => h' (t r hr z)
  simpa using this
/-- all that hold the rows are made of those that go along the rays -/
theorem mink {n : Nat} {A : List Vec} {S : Vec → Prop} (hC : ∀ x : Vec, x.length = n → Nn A x → Nz A x → Ext n A x → ∃ e, S e ∧ e.length = n ∧ Prp A x e) :
    ∀ (k : Nat) (x : Vec), loose A x = k → x.length = n → Nn A x → Hull n A (fun e => S e ∧ Tgt A x e) x := by
  intro k
  induction k using Nat.strongRecOn with
  | ind k ih =>
    intro x hk lx nx
    by_cases zx : Nz A x
    · by_cases ex : Ext n A x
      · obtain ⟨e, he, le, p⟩ := hC x lx nx zx ex
        have ho : Hull n A (fun e => S e ∧ Tgt A x e) e := .of ⟨he, p.tgt⟩ le
        obtain ⟨c, d, hc, hd, q⟩ := p
        exact .add (a := c) (b := d) (c := 0) hc (by omega) (by omega) lx (fun r hr => by have := q r hr; grind) ho ho
      · -- something else at the same bounds
        have : ∃ y : Vec, y.length = n ∧ Tgt A x y ∧ ∀ c d : Int, c ≠ 0 → ¬ ∀ r ∈ A, c * dot y r = d * dot x r := by
          refine Classical.byContradiction fun h => ex fun y ly t => ?_
          refine Classical.byContradiction fun h2 => h ⟨y, ly, t, fun c d hc he => h2 ⟨c, d, hc, he⟩⟩
        obtain ⟨y0, ly0, t0, np0⟩ := this
        have : ∃ y : Vec, y.length = n ∧ Tgt A x y ∧ (∀ c d : Int, c ≠ 0 → ¬ ∀ r ∈ A, c * dot y r = d * dot x r) ∧ ∃ r ∈ A, 0 < dot y r := by
          by_cases hp : ∃ r ∈ A, 0 < dot y0 r
          · exact ⟨y0, ly0, t0, np0, hp⟩
          · refine ⟨neg y0, by rw [neg_length]; exact ly0, fun r hr z => by rw [dot_neg, t0 r hr z]; rfl, fun c d hc he => np0 c (-d) hc fun r hr => ?_, ?_⟩
            · have := he r hr
              rw [dot_neg] at this
              grind
            · refine Classical.byContradiction fun hq => np0 1 0 (by decide) fun r hr => ?_
              have h1 : ¬ 0 < dot y0 r := fun z => hp ⟨r, hr, z⟩
              have h2 : ¬ 0 < dot (neg y0) r := fun z => hq ⟨r, hr, z⟩
              rw [dot_neg] at h2
              have : dot y0 r = 0 := by omega
              rw [this]
              omega
        obtain ⟨y, ly, t, np, hp⟩ := this
        obtain ⟨u, s, lu, hs, ys, xs, nu, eu, tu, us⟩ := shrink lx ly nx t hp
        have zu : Nz A u := by
          refine Classical.byContradiction fun h => np (dot x s) (dot y s) (by omega) fun r hr => ?_
          have h0 : dot u r = 0 := Classical.byContradiction fun q => h ⟨r, hr, q⟩
          have := eu r hr
          rw [h0] at this
          omega
        obtain ⟨v, s2, lv, hs2, us2, xs2, nv, ev, tv, vs⟩ := shrink lx lu nx tu (nn_pos nu zu)
        have hu := ih (loose A u) (by rw [← hk]; exact loose_lt tu hs (by omega) us) u rfl lu nu
        have hv := ih (loose A v) (by rw [← hk]; exact loose_lt tv hs2 (by omega) vs) v rfl lv nv
        refine .add (a := dot u s2) (b := 1) (c := dot x s2) us2 (by omega) (by omega) lx (fun r hr => ?_) (hv.mono fun e he => ⟨he.1, tv.trans he.2⟩) (hu.mono fun e he => ⟨he.1, tu.trans he.2⟩)
        rw [ev r hr]
        grind
    · exact .zero lx fun r hr => Classical.byContradiction fun q => zx ⟨r, hr, q⟩
end CH

set_option Elab.async false
set_option linter.all false
set_option maxRecDepth 100000
namespace CH
open PySem PySem.Spec PyProof.Rows L2
/-! ### one row more that no line crosses -/
def Row0 (n : Nat) (A : List Vec) (row : Vec) : Prop := ∀ z : Vec, z.length = n → (∀ r ∈ A, dot z r = 0) → dot z row = 0
theorem Row0.lin3 {n : Nat} {A : List Vec} {row x y z : Vec} {a b c : Int} (h : Row0 n A row) (lx : x.length = n) (ly : y.length = n) (lz : z.length = n) (e : ∀ r ∈ A, a * dot z r = b * dot x r + c * dot y r) : a * dot z row = b * dot x row + c * dot y row := by
  have l1 : (lin b x c y).length = n := by rw [lin_length (lx.trans ly.symm), lx]
  have hd : ∀ r, dot (lin a z (-1) (lin b x c y)) r = a * dot z r - (b * dot x r + c * dot y r) := fun r => by
    rw [dot_lin r (lz.trans l1.symm), dot_lin r (lx.trans ly.symm)]
    grind
  have := h (lin a z (-1) (lin b x c y)) (by rw [lin_length (lz.trans l1.symm), lz]) fun r hr => by rw [hd, e r hr]; omega
  rw [hd] at this
  omega
theorem Row0.lin2 {n : Nat} {A : List Vec} {row x y : Vec} {a b : Int} (h : Row0 n A row) (lx : x.length = n) (ly : y.length = n) (e : ∀ r ∈ A, a * dot x r = b * dot y r) : a * dot x row = b * dot y row := by
  have := h.lin3 (a := a) (b := b) (c := 0) ly ly lx fun r hr => by rw [e r hr]; grind
  rw [this]
  grind
theorem Row0.neg {n : Nat} {A : List Vec} {row : Vec} (h : Row0 n A row) : Row0 n A (neg row) := fun z lz e => by
  rw [dot_comm, dot_neg, dot_comm, h z lz e]
  rfl
theorem Prp.up {n : Nat} {A : List Vec} {row x y : Vec} (h : Row0 n A row) (lx : x.length = n) (ly : y.length = n) (p : Prp A x y) : Prp (A ++ [row]) x y := by
  obtain ⟨c, d, hc, hd, e⟩ := p
  refine ⟨c, d, hc, hd, fun r hr => ?_⟩
  rcases List.mem_append.mp hr with q | q
  · exact e r q
  · rw [List.mem_singleton.mp q]
    exact h.lin2 lx ly e
theorem mem_l {A : List Vec} {row r : Vec} (h : r ∈ A) : r ∈ A ++ [row] := List.mem_append_left _ h
theorem mem_r {A : List Vec} {row : Vec} : row ∈ A ++ [row] := List.mem_append_right _ (List.mem_singleton.mpr rfl)
theorem Prp.down {A : List Vec} {row x y : Vec} (p : Prp (A ++ [row]) x y) : Prp A x y := by
  obtain ⟨c, d, hc, hd, e⟩ := p
  exact ⟨c, d, hc, hd, fun r hr => e r (mem_l hr)⟩
theorem prp_sign {n : Nat} {A : List Vec} {row x y : Vec} (h : Row0 n A row) (lx : x.length = n) (ly : y.length = n) (p : Prp A x y) (hx : 0 < dot x row) : 0 < dot y row := by
  obtain ⟨c, d, hc, hd, e⟩ := p
  have := h.lin2 lx ly e
  have h1 := Int.mul_pos hc hx
  rw [this] at h1
  exact Int.pos_of_mul_pos_right h1 (by omega)
theorem sum0 {a b u v : Int} (ha : 0 < a) (hb : 0 < b) (hu : 0 ≤ u) (hv : 0 ≤ v) (e : a * u + b * v = 0) : u = 0 ∧ v = 0 := by
  have h1 := Int.mul_nonneg (Int.le_of_lt ha) hu
  have h2 := Int.mul_nonneg (Int.le_of_lt hb) hv
  have e1 : a * u = 0 := by omega
  have e2 : b * v = 0 := by omega
  exact ⟨(Int.mul_eq_zero.mp e1).resolve_left (by omega), (Int.mul_eq_zero.mp e2).resolve_left (by omega)⟩
theorem bound_all (y : Vec) : ∀ A : List Vec, ∃ M : Int, 0 ≤ M ∧ ∀ r ∈ A, -M ≤ dot y r
  | [] => ⟨0, by decide, fun _ h => nomatch h⟩
  | r :: A => by
    obtain ⟨M, h0, h⟩ := bound_all y A
    refine ⟨M + (dot y r).natAbs, by omega, fun s hs => ?_⟩
    rcases List.mem_cons.mp hs with e | hs
    · rw [e]; omega
    · have := h s hs; omega
theorem hull_two {n : Nat} {A : List Vec} {hi lo x : Vec} (h : Hull n A (fun e => Prp A e hi ∨ Prp A e lo) x) : ∃ c α β : Int, 0 < c ∧ ∀ r ∈ A, c * dot x r = α * dot hi r + β * dot lo r := by
  induction h with
  | zero l z => exact ⟨1, 0, 0, by decide, fun r hr => by rw [z r hr]; grind⟩
  | of s l =>
    rcases s with ⟨c, d, hc, hd, e⟩ | ⟨c, d, hc, hd, e⟩
    · exact ⟨c, d, 0, hc, fun r hr => by rw [e r hr]; grind⟩
    · exact ⟨c, 0, d, hc, fun r hr => by rw [e r hr]; grind⟩
  | add ha hb hc l e g1 g2 h1 h2 =>
    rename_i x y z a b c
    obtain ⟨c1, α1, β1, p1, e1⟩ := h1
    obtain ⟨c2, α2, β2, p2, e2⟩ := h2
    refine ⟨a * c1 * c2, b * c2 * α1 + c * c1 * α2, b * c2 * β1 + c * c1 * β2, Int.mul_pos (Int.mul_pos ha p1) p2, fun r hr => ?_⟩
    have q := e r hr
    have q1 := e1 r hr
    have q2 := e2 r hr
    have : a * c1 * c2 * dot z r = c1 * c2 * (a * dot z r) := by grind
    rw [this, q]
    have : c1 * c2 * (b * dot x r + c * dot y r) = b * c2 * (c1 * dot x r) + c * c1 * (c2 * dot y r) := by grind
    rw [this, q1, q2]
    grind
theorem hull_sign {n : Nat} {A : List Vec} {S : Vec → Prop} {row x : Vec} (h0 : Row0 n A row) (hS : ∀ e, S e → 0 < dot e row) (h : Hull n A S x) : 0 ≤ dot x row ∧ (dot x row = 0 → ∀ r ∈ A, dot x r = 0) := by
  induction h with
  | zero l z => exact ⟨by rw [h0 _ l z]; exact Int.le_refl _, fun _ => z⟩
  | of s l =>
    have := hS _ s
    exact ⟨by omega, fun z => by omega⟩
  | add ha hb hc l e g1 g2 h1 h2 =>
    rename_i x y z a b c
    have q := h0.lin3 g1.length g2.length l e
    have n1 := Int.mul_nonneg hb h1.1
    have n2 := Int.mul_nonneg hc h2.1
    refine ⟨?_, fun z0 r hr => ?_⟩
    · refine nn_of_mul ha ?_
      omega
    · rw [z0, Int.mul_zero] at q
      have e1 : b * dot x row = 0 := by omega
      have e2 : c * dot y row = 0 := by omega
      have k1 : b * dot x r = 0 := by
        rcases Int.mul_eq_zero.mp e1 with w | w
        · rw [w, Int.zero_mul]
        · rw [h1.2 w r hr, Int.mul_zero]
      have k2 : c * dot y r = 0 := by
        rcases Int.mul_eq_zero.mp e2 with w | w
        · rw [w, Int.zero_mul]
        · rw [h2.2 w r hr, Int.mul_zero]
      have := e r hr
      rw [k1, k2] at this
      exact (Int.mul_eq_zero.mp this).resolve_left (by omega)
/-- what lies between two rays, at the row's bound -/
def Btw (n : Nat) (row hi lo w : Vec) : Prop := w.length = n ∧ ∃ g : Int, 0 < g ∧ ∀ r, g * dot w r = dot hi row * dot lo r + (-(dot lo row)) * dot hi r
structure RayOk (n : Nat) (A : List Vec) (e : Vec) : Prop where
  len : e.length = n
  nn : Nn A e
  nz : Nz A e
  ext : Ext n A e
/-- no third ray between the two -/
def Adj (A R : List Vec) (hi lo : Vec) : Prop := ∀ e ∈ R, (∀ r ∈ A, dot hi r = 0 → dot lo r = 0 → dot e r = 0) → Prp A e hi ∨ Prp A e lo
def Cmp (n : Nat) (A R : List Vec) : Prop := ∀ x : Vec, x.length = n → Nn A x → Nz A x → Ext n A x → ∃ e ∈ R, Prp A x e
theorem btw_self {n : Nat} {row hi lo : Vec} (lh : hi.length = n) (ll : lo.length = n) : Btw n row hi lo (lin (dot hi row) lo (-(dot lo row)) hi) :=
  ⟨by rw [lin_length (ll.trans lh.symm), ll], 1, by decide, fun r => by rw [dot_lin r (ll.trans lh.symm)]; omega⟩
theorem btw_facts {n : Nat} {A : List Vec} {row hi lo w : Vec} (hh : RayOk n A hi) (hl : RayOk n A lo) (ph : 0 < dot hi row) (pl : dot lo row < 0) (b : Btw n row hi lo w) :
    dot w row = 0 ∧ (∀ r ∈ A, dot w r = 0 → dot hi r = 0 ∧ dot lo r = 0) ∧ (∀ r ∈ A, dot hi r = 0 → dot lo r = 0 → dot w r = 0) ∧ Nn (A ++ [row]) w ∧ Nz (A ++ [row]) w := by
  obtain ⟨lw, g, hg, e⟩ := b
  have z0 : dot w row = 0 := by
    have := e row
    have h2 : g * dot w row = 0 := by rw [this]; grind
    exact (Int.mul_eq_zero.mp h2).resolve_left (by omega)
  have fwd : ∀ r ∈ A, dot w r = 0 → dot hi r = 0 ∧ dot lo r = 0 := fun r hr z => by
    have := e r
    rw [z, Int.mul_zero] at this
    have q := sum0 ph (show 0 < -(dot lo row) by omega) (hl.nn r hr) (hh.nn r hr) this.symm
    exact ⟨q.2, q.1⟩
  refine ⟨z0, fwd, fun r hr a b => ?_, fun r hr => ?_, ?_⟩
  · have := e r
    rw [a, b] at this
    have h2 : g * dot w r = 0 := by rw [this]; grind
    exact (Int.mul_eq_zero.mp h2).resolve_left (by omega)
  · rcases List.mem_append.mp hr with q | q
    · refine nn_of_mul hg ?_
      rw [e r]
      have h1 := Int.mul_nonneg (Int.le_of_lt ph) (hl.nn r q)
      have h2 := Int.mul_nonneg (show 0 ≤ -(dot lo row) by omega) (hh.nn r q)
      omega
    · rw [List.mem_singleton.mp q, z0]; exact Int.le_refl _
  · obtain ⟨r, hr, hz⟩ := hh.nz
    exact ⟨r, mem_l hr, fun z => hz (fwd r hr z).1⟩
theorem cross_ext {n : Nat} {A R : List Vec} {row hi lo w : Vec} (h0 : Row0 n A row) (hR : ∀ e ∈ R, RayOk n A e) (hC : Cmp n A R) (mh : hi ∈ R) (ml : lo ∈ R) (ph : 0 < dot hi row) (pl : dot lo row < 0) (b : Btw n row hi lo w) (adj : Adj A R hi lo) : Ext n (A ++ [row]) w := fun y ly t => by
  have hh := hR hi mh
  have hl := hR lo ml
  obtain ⟨wz, wf, wb, _, _⟩ := btw_facts hh hl ph pl b
  obtain ⟨lw, g, hg, e⟩ := b
  obtain ⟨M, M0, hM⟩ := bound_all y A
  have lz : (lin 1 hi 1 lo).length = n := by rw [lin_length (hh.len.trans hl.len.symm), hh.len]
  have ez : ∀ r, dot (lin 1 hi 1 lo) r = dot hi r + dot lo r := fun r => by rw [dot_lin r (hh.len.trans hl.len.symm)]; omega
  have lx : (lin M (lin 1 hi 1 lo) 1 y).length = n := by rw [lin_length (lz.trans ly.symm), lz]
  have ex : ∀ r, dot (lin M (lin 1 hi 1 lo) 1 y) r = M * (dot hi r + dot lo r) + dot y r := fun r => by
    rw [dot_lin r (lz.trans ly.symm), ez]
    omega
  generalize lin M (lin 1 hi 1 lo) 1 y = x at lx ex
  have zero : ∀ r ∈ A, dot hi r = 0 → dot lo r = 0 → dot x r = 0 := fun r hr a b => by
    rw [ex, a, b, t r (mem_l hr) (wb r hr a b)]
    omega
  have nx : Nn A x := fun r hr => by
    have a := hh.nn r hr
    have b := hl.nn r hr
    by_cases z : dot hi r = 0 ∧ dot lo r = 0
    · rw [zero r hr z.1 z.2]; exact Int.le_refl _
    · have h1 : 1 ≤ dot hi r + dot lo r := by omega
      have h2 := Int.mul_le_mul_of_nonneg_left h1 M0
      have h3 := hM r hr
      rw [ex]
      omega
  have H := mink (S := (· ∈ R)) (fun x lx nx zx ex => by
    obtain ⟨e, he, p⟩ := hC x lx nx zx ex
    exact ⟨e, he, (hR e he).len, p⟩) (loose A x) x rfl lx nx
  obtain ⟨c, α, β, hc, q⟩ := hull_two (hi := hi) (lo := lo) (H.mono fun e he => adj e he.1 fun r hr a b => he.2 r hr (zero r hr a b))
  have ey : ∀ r ∈ A, c * dot y r = (α - c * M) * dot hi r + (β - c * M) * dot lo r := fun r hr => by
    have := q r hr
    rw [ex] at this
    grind
  have er := h0.lin3 hh.len hl.len ly ey
  have yr : dot y row = 0 := t row mem_r wz
  rw [yr, Int.mul_zero] at er
  refine ⟨c * dot hi row, (β - c * M) * g, Int.mul_ne_zero (by omega) (by omega), fun r hr => ?_⟩
  rcases List.mem_append.mp hr with k | k
  · have h1 := ey r k
    have h2 := e r
    have h3 : (β - c * M) * g * dot w r = (β - c * M) * (g * dot w r) := by grind
    have h4 : c * dot hi row * dot y r = dot hi row * (c * dot y r) := by grind
    rw [h3, h4, h2, h1]
    grind
  · rw [List.mem_singleton.mp k, wz, yr]
    omega
theorem cross_cmp {n : Nat} {A R : List Vec} {row x : Vec} (h0 : Row0 n A row) (hR : ∀ e ∈ R, RayOk n A e) (hC : Cmp n A R) (lx : x.length = n) (nx : Nn (A ++ [row]) x) (zx : Nz (A ++ [row]) x) (ex : Ext n (A ++ [row]) x) (xr : dot x row = 0) :
    (∃ e ∈ R, dot e row = 0 ∧ Prp (A ++ [row]) x e) ∨ ∃ hi ∈ R, ∃ lo ∈ R, 0 < dot hi row ∧ dot lo row < 0 ∧ (∀ w, Btw n row hi lo w → Prp (A ++ [row]) x w) ∧ Adj A R hi lo := by
  have nxA : Nn A x := fun r hr => nx r (mem_l hr)
  have zxA : Nz A x := by
    obtain ⟨r, hr, h⟩ := zx
    rcases List.mem_append.mp hr with q | q
    · exact ⟨r, q, h⟩
    · rw [List.mem_singleton.mp q] at h; exact absurd xr h
  have H := mink (S := (· ∈ R)) (fun x lx nx zx ex => by
    obtain ⟨e, he, p⟩ := hC x lx nx zx ex
    exact ⟨e, he, (hR e he).len, p⟩) (loose A x) x rfl lx nxA
  by_cases h1 : ∃ e ∈ R, Tgt A x e ∧ dot e row = 0
  · obtain ⟨e, he, t, er⟩ := h1
    have hr := hR e he
    refine .inl ⟨e, he, er, (ex.prp hr.len (fun r m z => ?_) nx (fun r m => ?_) ?_).symm⟩
    · rcases List.mem_append.mp m with q | q
      · exact t r q z
      · rw [List.mem_singleton.mp q]; exact er
    · rcases List.mem_append.mp m with q | q
      · exact hr.nn r q
      · rw [List.mem_singleton.mp q, er]; exact Int.le_refl _
    · obtain ⟨r, hr, h⟩ := hr.nz
      exact ⟨r, mem_l hr, h⟩
  · have hpos : ∃ hi ∈ R, Tgt A x hi ∧ 0 < dot hi row := by
      refine Classical.byContradiction fun h => ?_
      obtain ⟨r, hr, hz⟩ := zxA
      refine hz ((hull_sign h0.neg (fun e he => ?_) H).2 ?_ r hr)
      · rw [dot_comm, dot_neg, dot_comm]
        have a : ¬ dot e row = 0 := fun z => h1 ⟨e, he.1, he.2, z⟩
        have b : ¬ 0 < dot e row := fun z => h ⟨e, he.1, he.2, z⟩
        omega
      · rw [dot_comm, dot_neg, dot_comm, xr]
        rfl
    have hneg : ∃ lo ∈ R, Tgt A x lo ∧ dot lo row < 0 := by
      refine Classical.byContradiction fun h => ?_
      obtain ⟨r, hr, hz⟩ := zxA
      refine hz ((hull_sign h0 (fun e he => ?_) H).2 xr r hr)
      have a : ¬ dot e row = 0 := fun z => h1 ⟨e, he.1, he.2, z⟩
      have b : ¬ dot e row < 0 := fun z => h ⟨e, he.1, he.2, z⟩
      omega
    obtain ⟨hi, mh, th, ph⟩ := hpos
    obtain ⟨lo, ml, tl, pl⟩ := hneg
    have hh := hR hi mh
    have hl := hR lo ml
    have along : ∀ w, Btw n row hi lo w → Prp (A ++ [row]) x w := fun w b => by
      obtain ⟨wz, wf, wb, nw, zw⟩ := btw_facts hh hl ph pl b
      refine (ex.prp b.1 (fun r m z => ?_) nx nw zw).symm
      rcases List.mem_append.mp m with q | q
      · exact wb r q (th r q z) (tl r q z)
      · rw [List.mem_singleton.mp q]; exact wz
    refine .inr ⟨hi, mh, lo, ml, ph, pl, along, fun e he te => ?_⟩
    have b0 := btw_self (row := row) hh.len hl.len
    have p0 := along _ b0
    obtain ⟨wz, wf, wb, nw, zw⟩ := btw_facts hh hl ph pl b0
    have e0 : ∀ r, dot (lin (dot hi row) lo (-(dot lo row)) hi) r = dot hi row * dot lo r + (-(dot lo row)) * dot hi r := fun r => dot_lin r (hl.len.trans hh.len.symm)
    generalize lin (dot hi row) lo (-(dot lo row)) hi = w0 at *
    have ew := ex.of_prp p0.symm
    have re := hR e he
    rcases Int.lt_trichotomy (dot e row) 0 with er | er | er
    · -- below: it is lo
      obtain ⟨vz, vf, vb, nv, zv⟩ := btw_facts hh re ph er (btw_self hh.len re.len)
      have e3 : ∀ r, dot (lin (dot hi row) e (-(dot e row)) hi) r = dot hi row * dot e r + (-(dot e row)) * dot hi r := fun r => dot_lin r (re.len.trans hh.len.symm)
      have l3 := (btw_self (row := row) hh.len re.len).1
      generalize lin (dot hi row) e (-(dot e row)) hi = w3 at *
      have p3 := ew.prp l3 (fun r m z => by
        rcases List.mem_append.mp m with q | q
        · obtain ⟨a, b⟩ := wf r q z
          exact vb r q a (te r q a b)
        · rw [List.mem_singleton.mp q]; exact vz) nw nv zv
      obtain ⟨c, d, hc, hd, q⟩ := p3
      have key : ∀ r ∈ A, c * dot hi row * dot e r = d * dot hi row * dot lo r + (d * -(dot lo row) - c * -(dot e row)) * dot hi r := fun r hr => by
        have := q r (mem_l hr)
        rw [e3, e0] at this
        grind
      have pc := Int.mul_pos hc ph
      have pd := Int.mul_pos hd ph
      rcases Int.lt_trichotomy (d * -(dot lo row) - c * -(dot e row)) 0 with k | k | k
      · exfalso
        have t : Tgt A lo hi := fun r hr z => by
          have := key r hr
          rw [z] at this
          have h5 : c * dot hi row * dot e r + (-(d * -(dot lo row) - c * -(dot e row))) * dot hi r = 0 := by grind
          exact (sum0 pc (by omega) (re.nn r hr) (hh.nn r hr) h5).2
        have := prp_sign h0 hh.len hl.len (hl.ext.prp hh.len t hl.nn hh.nn hh.nz) ph
        omega
      · right
        refine ⟨c * dot hi row, d * dot hi row, pc, pd, fun r hr => ?_⟩
        rw [key r hr, k]
        omega
      · exfalso
        have t : Tgt A e hi := fun r hr z => by
          have := key r hr
          rw [z, Int.mul_zero] at this
          exact (sum0 pd k (hl.nn r hr) (hh.nn r hr) this.symm).2
        have := prp_sign h0 hh.len re.len (re.ext.prp hh.len t re.nn hh.nn hh.nz) ph
        omega
    · -- at the bound: none is there
      exfalso
      have p := ew.prp re.len (fun r m z => by
        rcases List.mem_append.mp m with q | q
        · obtain ⟨a, b⟩ := wf r q z
          exact te r q a b
        · rw [List.mem_singleton.mp q]; exact er) nw (fun r m => by
        rcases List.mem_append.mp m with q | q
        · exact re.nn r q
        · rw [List.mem_singleton.mp q, er]; exact Int.le_refl _) (by
        obtain ⟨r, hr, h⟩ := re.nz
        exact ⟨r, mem_l hr, h⟩)
      have t := p.down.tgt
      have p1 := re.ext.prp hh.len (fun r hr z => (wf r hr (t r hr z)).1) re.nn hh.nn hh.nz
      have := prp_sign h0 hh.len re.len p1 ph
      omega
    · -- above: it is hi
      obtain ⟨vz, vf, vb, nv, zv⟩ := btw_facts re hl er pl (btw_self re.len hl.len)
      have e3 : ∀ r, dot (lin (dot e row) lo (-(dot lo row)) e) r = dot e row * dot lo r + (-(dot lo row)) * dot e r := fun r => dot_lin r (hl.len.trans re.len.symm)
      have l3 := (btw_self (row := row) re.len hl.len).1
      generalize lin (dot e row) lo (-(dot lo row)) e = w3 at *
      have p3 := ew.prp l3 (fun r m z => by
        rcases List.mem_append.mp m with q | q
        · obtain ⟨a, b⟩ := wf r q z
          exact vb r q (te r q a b) b
        · rw [List.mem_singleton.mp q]; exact vz) nw nv zv
      obtain ⟨c, d, hc, hd, q⟩ := p3
      have key : ∀ r ∈ A, c * -(dot lo row) * dot e r = d * -(dot lo row) * dot hi r + (d * dot hi row - c * dot e row) * dot lo r := fun r hr => by
        have := q r (mem_l hr)
        rw [e3, e0] at this
        grind
      have pn : 0 < -(dot lo row) := by omega
      have pc := Int.mul_pos hc pn
      have pd := Int.mul_pos hd pn
      rcases Int.lt_trichotomy (d * dot hi row - c * dot e row) 0 with k | k | k
      · exfalso
        have t : Tgt A hi lo := fun r hr z => by
          have := key r hr
          rw [z] at this
          have h5 : c * -(dot lo row) * dot e r + (-(d * dot hi row - c * dot e row)) * dot lo r = 0 := by grind
          exact (sum0 pc (by omega) (re.nn r hr) (hl.nn r hr) h5).2
        have := prp_sign h0 hh.len hl.len (hh.ext.prp hl.len t hh.nn hl.nn hl.nz).symm ph
        omega
      · left
        refine ⟨c * -(dot lo row), d * -(dot lo row), pc, pd, fun r hr => ?_⟩
        rw [key r hr, k]
        omega
      · exfalso
        have t : Tgt A e lo := fun r hr z => by
          have := key r hr
          rw [z, Int.mul_zero] at this
          exact (sum0 pd k (hh.nn r hr) (hl.nn r hr) this.symm).2
        have := prp_sign h0 re.len hl.len (re.ext.prp hl.len t re.nn hl.nn hl.nz).symm er
        omega
end CH

set_option Elab.async false
set_option linter.all false
set_option maxRecDepth 100000
namespace CH
open PySem PySem.Spec PyProof.Rows L2
/-! ### the rays are all, and each goes along an edge -/
theorem span_dot0 {n : Nat} {S : Vec → Prop} {row : Vec} (hS : ∀ v, S v → v.length = n ∧ dot v row = 0) {x : Vec} (h : Span n S x) : dot x row = 0 := by
  have hl : ∀ v, S v → v.length = n := fun v hv => (hS v hv).1
  induction h with
  | zero => exact dot_zeros n row
  | of hv => exact (hS _ hv).2
  | lin a b h1 h2 e1 e2 =>
    rw [dot_lin row ((h1.length hl).trans (h2.length hl).symm), e1, e2]
    grind
  | div hc _ _ e =>
    rw [dot_sml] at e
    exact (Int.mul_eq_zero.mp e).resolve_left hc
theorem lev_btw {n : Nat} {hi lo row : Vec} (lh : hi.length = n) (ll : lo.length = n) : Btw n row hi lo (lev lo hi row) := by
  obtain ⟨g, hg, e⟩ := blend_spec (x := lo) (y := hi) (a := dot hi row) (b := -(dot lo row))
  refine ⟨by rw [lev_length (ll.trans lh.symm), ll], g, hg, fun r => ?_⟩
  rw [← dot_sml]
  show dot (sml g (blend lo (dot hi row) hi (-(dot lo row)))) r = _
  rw [e, dot_lin r (ll.trans lh.symm)]
/-- the mask tells just the rows at whose bounds the ray lies -/
def MEx (A : List Vec) (q : Ray) : Prop := ∃ a : Nat, q.2 = a ∧ a < 2 ^ A.length ∧ ∀ i r, A[i]? = some r → (a.testBit i = true ↔ dot q.1 r = 0)
theorem app_get {A : List Vec} {row r : Vec} {i : Nat} (h : (A ++ [row])[i]? = some r) : (i < A.length ∧ A[i]? = some r) ∨ (i = A.length ∧ r = row) := by
  rw [List.getElem?_append] at h
  split at h
  · exact .inl ⟨by assumption, h⟩
  · rename_i hn
    have : i - A.length < 1 := (List.getElem?_eq_some_iff.mp h).1
    have e : i = A.length := by omega
    subst e
    rw [Nat.sub_self] at h
    exact .inr ⟨rfl, by simpa using h.symm⟩
theorem mask_sub {A : List Vec} {q h o : Ray} (mq : MEx A q) (mh : MEx A h) (mo : MEx A o) : band q.2 (band h.2 o.2) = band h.2 o.2 ↔ ∀ r ∈ A, dot h.1 r = 0 → dot o.1 r = 0 → dot q.1 r = 0 := by
  obtain ⟨c, ec, lc, bc⟩ := mq
  obtain ⟨a, ea, la, ba⟩ := mh
  obtain ⟨b, eb, lb, bb⟩ := mo
  rw [ec, ea, eb, band_nat, band_nat]
  constructor
  · intro e r hr z1 z2
    have e' : c &&& (a &&& b) = a &&& b := by omega
    obtain ⟨i, hi⟩ := List.getElem?_of_mem hr
    have h1 := (ba i r hi).mpr z1
    have h2 := (bb i r hi).mpr z2
    refine (bc i r hi).mp ?_
    have : (c &&& (a &&& b)).testBit i = true := by rw [e', Nat.testBit_and, h1, h2]; rfl
    rw [Nat.testBit_and] at this
    exact (Bool.and_eq_true_iff.mp this).1
  · intro f
    have : c &&& (a &&& b) = a &&& b := by
      refine Nat.eq_of_testBit_eq fun i => ?_
      rw [Nat.testBit_and]
      by_cases hi : i < A.length
      · have e : A[i]? = some A[i] := List.getElem?_eq_getElem hi
        cases hab : (a &&& b).testBit i with
        | false => rw [Bool.and_false]
        | true =>
          rw [Nat.testBit_and] at hab
          obtain ⟨h1, h2⟩ := Bool.and_eq_true_iff.mp hab
          have := (bc i _ e).mpr (f _ (List.getElem_mem hi) ((ba i _ e).mp h1) ((bb i _ e).mp h2))
          rw [this, Bool.and_true]
      · have : (a &&& b).testBit i = false := Nat.testBit_lt_two_pow (Nat.lt_of_lt_of_le (and_lt la) (Nat.pow_le_pow_right (by decide) (by omega)))
        rw [this, Bool.and_false]
    rw [this]
theorem mask_eq {A : List Vec} {q h : Ray} (mq : MEx A q) (mh : MEx A h) (t1 : Tgt A q.1 h.1) (t2 : Tgt A h.1 q.1) : q.2 = h.2 := by
  obtain ⟨c, ec, lc, bc⟩ := mq
  obtain ⟨a, ea, la, ba⟩ := mh
  rw [ec, ea]
  have : c = a := by
    refine Nat.eq_of_testBit_eq fun i => ?_
    by_cases hi : i < A.length
    · have e : A[i]? = some A[i] := List.getElem?_eq_getElem hi
      have m := List.getElem_mem hi
      rw [Bool.eq_iff_iff, bc i _ e, ba i _ e]
      exact ⟨t1 _ m, t2 _ m⟩
    · rw [Nat.testBit_lt_two_pow (Nat.lt_of_lt_of_le lc (Nat.pow_le_pow_right (by decide) (by omega))), Nat.testBit_lt_two_pow (Nat.lt_of_lt_of_le la (Nat.pow_le_pow_right (by decide) (by omega)))]
  rw [this]
theorem masks_inj {ms : List Ray} (nd : (ms.map (·.2)).Nodup) : ∀ q ∈ ms, ∀ w ∈ ms, q.2 = w.2 → q = w := fun q hq w hw e => by
  have nd := List.pairwise_map.mp nd
  refine Classical.byContradiction fun ne => ?_
  rcases pair_sub hq hw ne with z | z
  · exact List.pairwise_iff_forall_sublist.mp nd z e
  · exact List.pairwise_iff_forall_sublist.mp nd z e.symm
theorem nodup_two {l : List Int} {a b : Int} (nd : l.Nodup) (h : ∀ x ∈ l, x = a ∨ x = b) : l.length ≤ 2 := by
  match l, nd, h with
  | [], _, _ => exact Nat.zero_le _
  | [_], _, _ => show 1 ≤ 2; omega
  | [_, _], _, _ => exact Nat.le_refl _
  | x :: y :: z :: l, nd, h =>
    exfalso
    have n1 := List.nodup_cons.mp nd
    have n2 := List.nodup_cons.mp n1.2
    have xy : x ≠ y := fun e => n1.1 (by rw [e]; exact List.mem_cons_self)
    have xz : x ≠ z := fun e => n1.1 (by rw [e]; exact List.mem_cons_of_mem _ List.mem_cons_self)
    have yz : y ≠ z := fun e => n2.1 (by rw [e]; exact List.mem_cons_self)
    have hx := h x List.mem_cons_self
    have hy := h y (List.mem_cons_of_mem _ List.mem_cons_self)
    have hz := h z (List.mem_cons_of_mem _ (List.mem_cons_of_mem _ List.mem_cons_self))
    omega
theorem Prp.refl (A : List Vec) (x : Vec) : Prp A x x := ⟨1, 1, by decide, by decide, fun _ _ => rfl⟩
theorem adj_of_nbs {A : List Vec} {ms : List Ray} {hi lo : Ray} (mex : ∀ q ∈ ms, MEx A q) (nd : (ms.map (·.2)).Nodup) (mh : hi ∈ ms) (ml : lo ∈ ms) (ne : hi ≠ lo) (nb : nbs hi.2 lo.2 (ms.map (·.2)) = true) : Adj A (ms.map (·.1)) hi.1 lo.1 := fun e he t => by
  obtain ⟨q, hq, rfl⟩ := List.mem_map.mp he
  have inj := masks_inj nd
  have mem : ∀ q ∈ ms, q.2 ∈ ms.map (·.2) := fun q hq => List.mem_map.mpr ⟨q, hq, rfl⟩
  by_cases e1 : q.2 = hi.2
  · rw [inj q hq hi mh e1]; exact .inl (Prp.refl _ _)
  · by_cases e2 : q.2 = lo.2
    · rw [inj q hq lo ml e2]; exact .inr (Prp.refl _ _)
    · have : nbs hi.2 lo.2 (ms.map (·.2)) = false := by
        refine nbs_three nd (mem hi mh) (mem lo ml) (mem q hq) (fun z => ne (inj hi mh lo ml z)) (fun z => e1 z.symm) (fun z => e2 z.symm) ?_ ?_ ?_
        · exact (mask_sub (mex hi mh) (mex hi mh) (mex lo ml)).mpr fun _ _ z _ => z
        · exact (mask_sub (mex lo ml) (mex hi mh) (mex lo ml)).mpr fun _ _ _ z => z
        · exact (mask_sub (mex q hq) (mex hi mh) (mex lo ml)).mpr t
      rw [this] at nb
      cases nb
theorem nbs_of_adj {A : List Vec} {ms : List Ray} {hi lo : Ray} (mex : ∀ q ∈ ms, MEx A q) (nd : (ms.map (·.2)).Nodup) (mh : hi ∈ ms) (ml : lo ∈ ms) (adj : Adj A (ms.map (·.1)) hi.1 lo.1) : nbs hi.2 lo.2 (ms.map (·.2)) = true := by
  unfold nbs
  refine decide_eq_true (nodup_two (a := hi.2) (b := lo.2) (nd.filter _) fun x hx => ?_)
  obtain ⟨m, d⟩ := List.mem_filter.mp hx
  obtain ⟨q, hq, rfl⟩ := List.mem_map.mp m
  have t := (mask_sub (mex q hq) (mex hi mh) (mex lo ml)).mp (of_decide_eq_true d)
  rcases adj q.1 (List.mem_map.mpr ⟨q, hq, rfl⟩) t with p | p
  · exact .inl (mask_eq (mex q hq) (mex hi mh) p.tgt p.symm.tgt)
  · exact .inr (mask_eq (mex q hq) (mex lo ml) p.tgt p.symm.tgt)
/-- all that is known of lines and rays behind some rows -/
structure DDM (n : Nat) (A : List Vec) (s : CState) : Prop where
  ll : ∀ l ∈ s.lines, l.length = n ∧ ∀ r ∈ A, dot l r = 0
  lsp : ∀ z : Vec, z.length = n → (∀ r ∈ A, dot z r = 0) → Span n (· ∈ s.lines) z
  rays : ∀ q ∈ s.masked, RayOk n A q.1
  cmp : Cmp n A (s.masked.map (·.1))
  mex : ∀ q ∈ s.masked, MEx A q
  ms : Masks A.length (s.masked.map (·.2))
  bit : s.bit = ((2 ^ A.length : Nat) : Int)
theorem rayOk_up {n : Nat} {A : List Vec} {row e : Vec} (h0 : Row0 n A row) (h : RayOk n A e) (hp : 0 ≤ dot e row) : RayOk n (A ++ [row]) e := by
  refine ⟨h.len, fun r hr => ?_, ?_, fun y ly t => ?_⟩
  · rcases List.mem_append.mp hr with q | q
    · exact h.nn r q
    · rw [List.mem_singleton.mp q]; exact hp
  · obtain ⟨r, hr, z⟩ := h.nz
    exact ⟨r, mem_l hr, z⟩
  · obtain ⟨c, d, hc, e⟩ := h.ext y ly fun r hr z => t r (mem_l hr) z
    refine ⟨c, d, hc, fun r hr => ?_⟩
    rcases List.mem_append.mp hr with q | q
    · exact e r q
    · rw [List.mem_singleton.mp q]; exact h0.lin2 ly h.len e
theorem mex_off {A : List Vec} {row : Vec} {q : Ray} (h : MEx A q) (hp : dot q.1 row ≠ 0) : MEx (A ++ [row]) q := by
  obtain ⟨a, ea, la, b⟩ := h
  refine ⟨a, ea, ?_, fun i r hi => ?_⟩
  · rw [List.length_append]
    exact Nat.lt_of_lt_of_le la (Nat.pow_le_pow_right (by decide) (Nat.le_add_right _ _))
  · rcases app_get hi with ⟨_, e⟩ | ⟨e, er⟩
    · exact b i r e
    · rw [e, er, Nat.testBit_lt_two_pow la]
      exact ⟨(fun z => nomatch z), fun z => absurd z hp⟩
theorem mex_on {A : List Vec} {row w : Vec} {m bit : Int} {a : Nat} (em : m = a) (eb : bit = ((2 ^ A.length : Nat) : Int)) (la : a < 2 ^ A.length) (b : ∀ i r, A[i]? = some r → (a.testBit i = true ↔ dot w r = 0)) (hz : dot w row = 0) : MEx (A ++ [row]) (w, bor m bit) := by
  refine ⟨a ||| 2 ^ A.length, by show bor m bit = _; rw [em, eb, bor_nat], ?_, fun i r hi => ?_⟩
  · rw [or_bit la, List.length_append, List.length_singleton, Nat.pow_succ]
    omega
  · show (a ||| 2 ^ A.length).testBit i = true ↔ dot w r = 0
    rw [Nat.testBit_or, Nat.testBit_two_pow]
    rcases app_get hi with ⟨lt, e⟩ | ⟨e, er⟩
    · have : decide (A.length = i) = false := decide_eq_false (by omega)
      rw [this, Bool.or_false]
      exact b i r e
    · rw [e, er, hz]
      simp
theorem DDM.none {n : Nat} {A : List Vec} {s : CState} {row : Vec} (h : DDM n A s) (hc : crossP s.lines row = none) : DDM n (A ++ [row]) (coneStep s row) := by
  have hz := crossP_none hc
  have h0 : Row0 n A row := fun z lz e => span_dot0 (S := (· ∈ s.lines)) (fun v hv => ⟨(h.ll v hv).1, hz v hv⟩) (h.lsp z lz e)
  have st := masks_step (row := row) h.bit h.ms
  have es : coneStep s row = ⟨s.lines, halvedR s.masked row s.bit, s.bit * 2⟩ := by
    unfold coneStep
    rw [hc]
  rw [es] at st ⊢
  have hR : ∀ e ∈ s.masked.map (·.1), RayOk n A e := fun e he => by
    obtain ⟨q, hq, rfl⟩ := List.mem_map.mp he
    exact h.rays q hq
  have mem1 : ∀ q ∈ s.masked, q.1 ∈ s.masked.map (·.1) := fun q hq => List.mem_map.mpr ⟨q, hq, rfl⟩
  -- the new ones
  have part : ∀ q ∈ halvedR s.masked row s.bit, RayOk n (A ++ [row]) q.1 ∧ MEx (A ++ [row]) q := fun q hq => by
    rcases List.mem_append.mp hq with hq | hq
    · rcases List.mem_append.mp hq with hq | hq
      · obtain ⟨m, d⟩ := List.mem_filter.mp hq
        have d' := of_decide_eq_true d
        exact ⟨rayOk_up h0 (h.rays q m) (by omega), mex_off (h.mex q m) (by omega)⟩
      · obtain ⟨w, hw, rfl⟩ := List.mem_map.mp hq
        obtain ⟨m, d⟩ := List.mem_filter.mp hw
        have d' := of_decide_eq_true d
        obtain ⟨a, ea, la, b⟩ := h.mex w m
        exact ⟨rayOk_up h0 (h.rays w m) (by show 0 ≤ dot w.1 row; omega), mex_on ea h.bit la b d'⟩
    · obtain ⟨hi, hhi, hin⟩ := List.mem_flatMap.mp hq
      obtain ⟨lo, hlo, e⟩ := List.mem_filterMap.mp hin
      split at e
      · rename_i nb
        cases e
        obtain ⟨m1, d1⟩ := List.mem_filter.mp hhi
        obtain ⟨m2, d2⟩ := List.mem_filter.mp hlo
        have d1' := of_decide_eq_true d1
        have d2' := of_decide_eq_true d2
        have r1 := h.rays hi m1
        have r2 := h.rays lo m2
        have bt : Btw n row hi.1 lo.1 (lev lo.1 hi.1 row) := lev_btw r1.len r2.len
        obtain ⟨wz, wf, wb, nw, zw⟩ := btw_facts r1 r2 d1' d2' bt
        have ne : hi ≠ lo := fun z => by rw [z] at d1'; omega
        refine ⟨⟨bt.1, nw, zw, cross_ext h0 hR h.cmp (mem1 hi m1) (mem1 lo m2) d1' d2' bt (adj_of_nbs h.mex h.ms.nd m1 m2 ne nb)⟩, ?_⟩
        obtain ⟨a, ea, la, ba⟩ := h.mex hi m1
        obtain ⟨c, ec, lc, bc⟩ := h.mex lo m2
        refine mex_on (a := a &&& c) (by rw [ea, ec, band_nat]) h.bit (and_lt la) (fun i r hi' => ?_) wz
        have hr := List.mem_of_getElem? hi'
        rw [Nat.testBit_and, Bool.and_eq_true_iff, ba i r hi', bc i r hi']
        exact ⟨fun z => wb r hr z.1 z.2, fun z => wf r hr z⟩
      · cases e
  refine ⟨fun l hl => ⟨(h.ll l hl).1, fun r hr => ?_⟩, fun z lz e => h.lsp z lz fun r hr => e r (mem_l hr), fun q hq => (part q hq).1, fun x lx nx zx ex => ?_, fun q hq => (part q hq).2, ?_, ?_⟩
  · rcases List.mem_append.mp hr with q | q
    · exact (h.ll l hl).2 r q
    · rw [List.mem_singleton.mp q]; exact hz l hl
  · have nxA : Nn A x := fun r hr => nx r (mem_l hr)
    have zxA : Nz A x := by
      refine Classical.byContradiction fun hno => ?_
      have all0 : ∀ r ∈ A, dot x r = 0 := fun r hr => Classical.byContradiction fun z => hno ⟨r, hr, z⟩
      obtain ⟨r, hr, hne⟩ := zx
      rcases List.mem_append.mp hr with q | q
      · exact hne (all0 r q)
      · rw [List.mem_singleton.mp q] at hne; exact hne (h0 x lx all0)
    have xr := nx row mem_r
    by_cases xz : dot x row = 0
    · rcases cross_cmp h0 hR h.cmp lx nx zx ex xz with ⟨e, he, er, p⟩ | ⟨hi, mh, lo, ml, ph, pl, along, adj⟩
      · obtain ⟨q, hq, rfl⟩ := List.mem_map.mp he
        refine ⟨q.1, List.mem_map.mpr ⟨(q.1, bor q.2 s.bit), ?_, rfl⟩, p⟩
        exact List.mem_append_left _ (List.mem_append_right _ (List.mem_map.mpr ⟨q, List.mem_filter.mpr ⟨hq, decide_eq_true er⟩, rfl⟩))
      · obtain ⟨qh, hqh, rfl⟩ := List.mem_map.mp mh
        obtain ⟨ql, hql, rfl⟩ := List.mem_map.mp ml
        have nb := nbs_of_adj h.mex h.ms.nd hqh hql adj
        refine ⟨lev ql.1 qh.1 row, List.mem_map.mpr ⟨(lev ql.1 qh.1 row, bor (band qh.2 ql.2) s.bit), ?_, rfl⟩, along _ (lev_btw (h.rays qh hqh).len (h.rays ql hql).len)⟩
        refine List.mem_append_right _ (List.mem_flatMap.mpr ⟨qh, List.mem_filter.mpr ⟨hqh, decide_eq_true ph⟩, List.mem_filterMap.mpr ⟨ql, List.mem_filter.mpr ⟨hql, decide_eq_true pl⟩, ?_⟩⟩)
        rw [if_pos nb]
    · have exA : Ext n A x := fun y ly t => by
        obtain ⟨c, d, hc, e⟩ := ex y ly fun r hr z => by
          rcases List.mem_append.mp hr with q | q
          · exact t r q z
          · rw [List.mem_singleton.mp q] at z; exact absurd z xz
        exact ⟨c, d, hc, fun r hr => e r (mem_l hr)⟩
      obtain ⟨e, he, p⟩ := h.cmp x lx nxA zxA exA
      obtain ⟨q, hq, rfl⟩ := List.mem_map.mp he
      have pr := prp_sign h0 lx (h.rays q hq).len p (by omega)
      refine ⟨q.1, List.mem_map.mpr ⟨q, ?_, rfl⟩, p.up h0 lx (h.rays q hq).len⟩
      exact List.mem_append_left _ (List.mem_append_left _ (List.mem_filter.mpr ⟨hq, decide_eq_true pr⟩))
  · rw [List.length_append]; exact st.1
  · rw [List.length_append]; exact st.2
end CH

set_option Elab.async false
set_option linter.all false
set_option maxRecDepth 100000
namespace CH
open PySem PySem.Spec PyProof.Rows L2
/-! ### one row more that a line crosses -/
theorem without_or {lines : List Vec} {p : Nat} {l v : Vec} (hp : lines[p]? = some l) (hv : v ∈ lines) : v = l ∨ v ∈ without lines p := by
  obtain ⟨i, hi⟩ := List.getElem?_of_mem hv
  have hlt := (List.getElem?_eq_some_iff.mp hi).1
  by_cases e : i = p
  · subst e
    rw [hi] at hp
    cases hp
    exact .inl rfl
  · right
    unfold without
    by_cases lt : i < p
    · refine List.mem_append_left _ (List.mem_of_getElem? (i := i) ?_)
      rw [List.getElem?_take, if_pos lt, hi]
    · refine List.mem_append_right _ (List.mem_of_getElem? (i := i - (p + 1)) ?_)
      rw [List.getElem?_drop]
      rw [show p + 1 + (i - (p + 1)) = i by omega, hi]
theorem upw_cases (l row : Vec) : (upw l row = l) ∨ upw l row = neg l := by
  unfold upw
  split
  · exact .inl rfl
  · exact .inr rfl
/-- all that is moved along the ray to the bound is made of what is moved there of the lines -/
theorem span_lev {n : Nat} {lines : List Vec} {p : Nat} {l row : Vec} (hl : ∀ v ∈ lines, v.length = n) (hp : lines[p]? = some l) (nz : dot l row ≠ 0) {z : Vec} (h : Span n (· ∈ lines) z) :
    Span n (· ∈ (without lines p).map fun o => lev o (upw l row) row) (lin (dot (upw l row) row) z (-(dot z row)) (upw l row)) := by
  have ml : l ∈ lines := List.mem_of_getElem? hp
  have lu : (upw l row).length = n := by rw [upw_length, hl l ml]
  have hS : ∀ v, v ∈ (without lines p).map (fun o => lev o (upw l row) row) → v.length = n := fun v hv => by
    obtain ⟨o, ho, rfl⟩ := List.mem_map.mp hv
    have := hl o (mem_without ho)
    rw [lev_length (this.trans lu.symm), this]
  induction h with
  | zero =>
    have e : lin (dot (upw l row) row) (zeros n) (-(dot (zeros n) row)) (upw l row) = zeros n := by
      refine vec_ext (by rw [lin_length (by rw [zeros_length, lu])]) fun q => ?_
      rw [at0_lin q (by rw [zeros_length, lu]), at0_zeros, dot_zeros]
      grind
    rw [e]
    exact .zero
  | of hv =>
    rename_i v
    have lv := hl v hv
    rcases without_or hp hv with e | hw
    · have e0 : lin (dot (upw l row) row) v (-(dot v row)) (upw l row) = zeros n := by
        refine vec_ext (by rw [lin_length (by rw [lv, lu]), lv, zeros_length]) fun q => ?_
        rw [at0_lin q (by rw [lv, lu]), at0_zeros, e]
        rcases upw_cases l row with u | u
        · rw [u]; grind
        · rw [u, dot_neg, at0_neg]; grind
      rw [e0]
      exact .zero
    · obtain ⟨g, hg, eg⟩ := blend_spec (x := v) (y := upw l row) (a := dot (upw l row) row) (b := -(dot v row))
      rw [← eg]
      exact Span.sml hS g (.of (List.mem_map.mpr ⟨v, hw, rfl⟩))
  | lin a b h1 h2 e1 e2 =>
    rename_i x y
    have lx := h1.length (S := (· ∈ lines)) hl
    have ly := h2.length (S := (· ∈ lines)) hl
    have lxy : (lin a x b y).length = n := by rw [lin_length (lx.trans ly.symm), lx]
    have l1 : (lin (dot (upw l row) row) x (-(dot x row)) (upw l row)).length = n := by rw [lin_length (lx.trans lu.symm), lx]
    have l2 : (lin (dot (upw l row) row) y (-(dot y row)) (upw l row)).length = n := by rw [lin_length (ly.trans lu.symm), ly]
    have e : lin (dot (upw l row) row) (lin a x b y) (-(dot (lin a x b y) row)) (upw l row) = lin a (lin (dot (upw l row) row) x (-(dot x row)) (upw l row)) b (lin (dot (upw l row) row) y (-(dot y row)) (upw l row)) := by
      refine vec_ext (by rw [lin_length (lxy.trans lu.symm), lxy, lin_length (l1.trans l2.symm), l1]) fun q => ?_
      rw [at0_lin q (lxy.trans lu.symm), at0_lin q (l1.trans l2.symm), at0_lin q (lx.trans lu.symm), at0_lin q (ly.trans lu.symm), at0_lin q (lx.trans ly.symm), dot_lin row (lx.trans ly.symm)]
      grind
    rw [e]
    exact .lin a b e1 e2
  | div hc e h ih =>
    rename_i x c
    have ls : (sml c x).length = n := by rw [sml_length, e]
    have l1 : (lin (dot (upw l row) row) x (-(dot x row)) (upw l row)).length = n := by rw [lin_length (e.trans lu.symm), e]
    refine .div (c := c) hc l1 ?_
    have e2 : sml c (lin (dot (upw l row) row) x (-(dot x row)) (upw l row)) = lin (dot (upw l row) row) (sml c x) (-(dot (sml c x) row)) (upw l row) := by
      refine vec_ext (by rw [sml_length, l1, lin_length (ls.trans lu.symm), ls]) fun q => ?_
      rw [at0_sml, at0_lin q (e.trans lu.symm), at0_lin q (ls.trans lu.symm), at0_sml, dot_sml]
      grind
    rw [e2]
    exact ih
theorem DDM.some {n : Nat} {A : List Vec} {s : CState} {row : Vec} {p : Nat} (h : DDM n A s) (hc : crossP s.lines row = some p) : DDM n (A ++ [row]) (coneStep s row) := by
  obtain ⟨l, el, ed, ml, nz⟩ := crossP_some hc
  have st := masks_step (row := row) h.bit h.ms
  have es : coneStep s row = ⟨bentL s.lines p row, bentR s.lines p s.masked row s.bit, s.bit * 2⟩ := by
    unfold coneStep
    rw [hc]
  rw [es] at st ⊢
  have lu : (upw l row).length = n := by rw [upw_length, (h.ll l ml).1]
  have up := upw_dot nz
  have u0 : ∀ r ∈ A, dot (upw l row) r = 0 := fun r hr => upw_zero ((h.ll l ml).2 r hr)
  have sl := fun z hz => span_lev (n := n) (lines := s.lines) (z := z) (fun v hv => (h.ll v hv).1) el nz hz
  have eL : bentL s.lines p row = (without s.lines p).map fun o => lev o (upw l row) row := by
    unfold bentL
    rw [ed]
  have eR : bentR s.lines p s.masked row s.bit = (s.masked.map fun q => (lev q.1 (upw l row) row, bor q.2 s.bit)) ++ [(upw l row, s.bit - 1)] := by
    unfold bentR
    rw [ed]
  rw [eL, eR] at st ⊢
  generalize upw l row = u at *
  have lv : ∀ x : Vec, x.length = n → (lev x u row).length = n ∧ dot (lev x u row) row = 0 ∧ ∃ g : Int, 0 < g ∧ ∀ r ∈ A, g * dot (lev x u row) r = dot u row * dot x r := fun x lx => by
    obtain ⟨lw, g, hg, e⟩ := lev_btw (row := row) lu lx
    refine ⟨lw, ?_, g, hg, fun r hr => by rw [e, u0 r hr]; grind⟩
    have := e row
    have h2 : g * dot (lev x u row) row = 0 := by rw [this]; grind
    exact (Int.mul_eq_zero.mp h2).resolve_left (by omega)
  have split : ∀ {P : Vec → Prop}, (∀ r ∈ A, P r) → P row → ∀ r ∈ A ++ [row], P r := fun h1 h2 r hr => by
    rcases List.mem_append.mp hr with z | z
    · exact h1 r z
    · rw [List.mem_singleton.mp z]; exact h2
  have sv : ∀ q ∈ s.masked, ∀ r ∈ A, (dot (lev q.1 u row) r = 0 ↔ dot q.1 r = 0) := fun q hq r hr => by
    obtain ⟨_, _, g, hg, e⟩ := lv q.1 (h.rays q hq).len
    have := e r hr
    constructor
    · intro z
      rw [z, Int.mul_zero] at this
      exact (Int.mul_eq_zero.mp this.symm).resolve_left (by omega)
    · intro z
      rw [z, Int.mul_zero] at this
      exact (Int.mul_eq_zero.mp this).resolve_left (by omega)
  have moved : ∀ q ∈ s.masked, RayOk n (A ++ [row]) (lev q.1 u row) := fun q hq => by
    have R := h.rays q hq
    obtain ⟨lw, wz, g, hg, e⟩ := lv q.1 R.len
    refine ⟨lw, split (fun r hr => ?_) (by rw [wz]; exact Int.le_refl _), ?_, fun y ly t => ?_⟩
    · refine nn_of_mul hg ?_
      rw [e r hr]
      exact Int.mul_nonneg (Int.le_of_lt up) (R.nn r hr)
    · obtain ⟨r, hr, hne⟩ := R.nz
      exact ⟨r, mem_l hr, fun z => hne ((sv q hq r hr).mp z)⟩
    · obtain ⟨c, d, hc, ey⟩ := R.ext y ly fun r hr z => t r (mem_l hr) ((sv q hq r hr).mpr z)
      refine ⟨c * dot u row, d * g, Int.mul_ne_zero hc (by omega), split (fun r hr => ?_) ?_⟩
      · have h1 := ey r hr
        have h2 := e r hr
        have h3 : d * g * dot (lev q.1 u row) r = d * (g * dot (lev q.1 u row) r) := by grind
        rw [h3, h2]
        grind
      · rw [t row mem_r wz, wz]
        omega
  refine ⟨fun x hx => ?_, fun z lz e => ?_, fun q hq => ?_, fun x lx nx zx ex => ?_, fun q hq => ?_, ?_, ?_⟩
  · obtain ⟨o, ho, rfl⟩ := List.mem_map.mp hx
    have mo := mem_without ho
    obtain ⟨lw, wz, g, hg, e⟩ := lv o (h.ll o mo).1
    refine ⟨lw, split (fun r hr => ?_) wz⟩
    have := e r hr
    rw [(h.ll o mo).2 r hr, Int.mul_zero] at this
    exact (Int.mul_eq_zero.mp this).resolve_left (by omega)
  · have := sl z (h.lsp z lz fun r hr => e r (mem_l hr))
    refine .div (c := dot u row) (by omega) lz ?_
    have e2 : lin (dot u row) z (-(dot z row)) u = sml (dot u row) z := by
      refine vec_ext (by rw [lin_length (lz.trans lu.symm), sml_length]) fun q => ?_
      rw [at0_lin q (lz.trans lu.symm), at0_sml, e row mem_r]
      grind
    rw [← e2]
    exact this
  · rcases List.mem_append.mp hq with hq | hq
    · obtain ⟨w, hw, rfl⟩ := List.mem_map.mp hq
      exact moved w hw
    · rw [List.mem_singleton.mp hq]
      refine ⟨lu, split (fun r hr => by show 0 ≤ dot u r; rw [u0 r hr]; exact Int.le_refl _) (Int.le_of_lt up), ⟨row, mem_r, by show dot u row ≠ 0; omega⟩, fun y ly t => ⟨dot u row, dot y row, by omega, split (fun r hr => ?_) ?_⟩⟩
      · have h1 : dot y r = 0 := t r (mem_l hr) (u0 r hr)
        have h2 : dot (u, s.bit - 1).1 r = 0 := u0 r hr
        rw [h1, h2]
        omega
      · show dot u row * dot y row = dot y row * dot u row
        exact Int.mul_comm _ _
  · have lu' : u ∈ ((s.masked.map fun q => (lev q.1 u row, bor q.2 s.bit)) ++ [(u, s.bit - 1)]).map (·.1) := List.mem_map.mpr ⟨(u, s.bit - 1), List.mem_append_right _ (List.mem_singleton.mpr rfl), rfl⟩
    by_cases zA : Nz A x
    · have nxA : Nn A x := fun r hr => nx r (mem_l hr)
      have lx' : ∀ y : Vec, y.length = n → (lin (dot u row) y (-(dot y row)) u).length = n ∧ dot (lin (dot u row) y (-(dot y row)) u) row = 0 ∧ ∀ r ∈ A, dot (lin (dot u row) y (-(dot y row)) u) r = dot u row * dot y r := fun y ly => by
        refine ⟨by rw [lin_length (ly.trans lu.symm), ly], ?_, fun r hr => ?_⟩
        · rw [dot_lin row (ly.trans lu.symm)]; grind
        · rw [dot_lin r (ly.trans lu.symm), u0 r hr]; grind
      have xr : dot x row = 0 := by
        obtain ⟨l1, z1, e1⟩ := lx' x lx
        obtain ⟨c, d, hc, e⟩ := ex _ l1 (split (fun r hr z => by rw [e1 r hr, z, Int.mul_zero]) fun _ => z1)
        obtain ⟨r, hr, hne⟩ := zA
        have h1 := e r (mem_l hr)
        rw [e1 r hr] at h1
        have h2 := e row mem_r
        rw [z1, Int.mul_zero] at h2
        rcases Int.mul_eq_zero.mp h2.symm with k | k
        · rw [k, Int.zero_mul] at h1
          rcases Int.mul_eq_zero.mp h1 with k1 | k1
          · exact absurd k1 hc
          · rcases Int.mul_eq_zero.mp k1 with k2 | k2
            · omega
            · exact absurd k2 hne
        · exact k
      have exA : Ext n A x := fun y ly t => by
        obtain ⟨l1, z1, e1⟩ := lx' y ly
        obtain ⟨c, d, hc, e⟩ := ex _ l1 (split (fun r hr z => by rw [e1 r hr, t r hr z, Int.mul_zero]) fun _ => z1)
        refine ⟨c * dot u row, d, Int.mul_ne_zero hc (by omega), fun r hr => ?_⟩
        have := e r (mem_l hr)
        rw [e1 r hr] at this
        rw [← this]
        grind
      obtain ⟨e, he, c, d, hc, hd, pe⟩ := h.cmp x lx nxA zA exA
      obtain ⟨q, hq, rfl⟩ := List.mem_map.mp he
      refine ⟨lev q.1 u row, List.mem_map.mpr ⟨(lev q.1 u row, bor q.2 s.bit), List.mem_append_left _ (List.mem_map.mpr ⟨q, hq, rfl⟩), rfl⟩, ?_⟩
      obtain ⟨lw, wz, g, hg, e⟩ := lv q.1 (h.rays q hq).len
      refine ⟨c * dot u row, d * g, Int.mul_pos hc up, Int.mul_pos hd hg, split (fun r hr => ?_) ?_⟩
      · have h1 := pe r hr
        have h2 := e r hr
        have h3 : d * g * dot (lev q.1 u row) r = d * (g * dot (lev q.1 u row) r) := by grind
        rw [h3, h2]
        grind
      · rw [xr, wz]
        omega
    · have all0 : ∀ r ∈ A, dot x r = 0 := fun r hr => Classical.byContradiction fun z => zA ⟨r, hr, z⟩
      have xr : 0 < dot x row := by
        have h1 := nx row mem_r
        obtain ⟨r, hr, hne⟩ := zx
        rcases List.mem_append.mp hr with q | q
        · exact absurd (all0 r q) hne
        · rw [List.mem_singleton.mp q] at hne; omega
      refine ⟨u, lu', dot u row, dot x row, up, xr, split (fun r hr => ?_) (Int.mul_comm _ _)⟩
      rw [all0 r hr, u0 r hr]
      omega
  · rcases List.mem_append.mp hq with hq | hq
    · obtain ⟨w, hw, rfl⟩ := List.mem_map.mp hq
      obtain ⟨a, ea, la, b⟩ := h.mex w hw
      exact mex_on ea h.bit la (fun i r hi => (b i r hi).trans (sv w hw r (List.mem_of_getElem? hi)).symm) (lv w.1 (h.rays w hw).len).2.1
    · rw [List.mem_singleton.mp hq]
      refine ⟨2 ^ A.length - 1, ?_, ?_, fun i r hi => ?_⟩
      · show s.bit - 1 = _
        have := Nat.two_pow_pos A.length
        rw [h.bit]
        omega
      · rw [List.length_append, List.length_singleton, Nat.pow_succ]
        have := Nat.two_pow_pos A.length
        omega
      · show (2 ^ A.length - 1).testBit i = true ↔ dot u r = 0
        rw [Nat.testBit_two_pow_sub_one]
        rcases app_get hi with ⟨lt, e⟩ | ⟨e, er⟩
        · rw [u0 r (List.mem_of_getElem? e)]
          simpa using lt
        · rw [e, er]
          have : dot u row ≠ 0 := by omega
          simpa using this
  · rw [List.length_append]; exact st.1
  · rw [List.length_append]; exact st.2
/-! ### the start -/
theorem dot_unitv (z : Vec) (p : Nat) : dot (unitv z.length p) z = at0 z p := by
  unfold unitv
  induction z generalizing p with
  | nil => simp [dot, at0_nil]
  | cons y ys ih =>
    rw [List.length_cons, List.range_succ_eq_map, List.map_cons, List.map_map]
    cases p with
    | zero =>
      have e : List.map ((fun j => if j = 0 then (1 : Int) else 0) ∘ Nat.succ) (List.range ys.length) = zeros ys.length := by
        have : ((fun j => if j = 0 then (1 : Int) else 0) ∘ Nat.succ) = fun _ => 0 := by
          funext j
          simp
        rw [this]
        unfold zeros
        rw [List.map_const', List.length_range]
      show (if (0 : Nat) = 0 then (1 : Int) else 0) * y + dot _ ys = y
      rw [e, dot_zeros]
      simp
    | succ i =>
      have e : ((fun j => if j = i + 1 then (1 : Int) else 0) ∘ Nat.succ) = fun j => if j = i then (1 : Int) else 0 := by
        funext j
        simp
      show (if (0 : Nat) = i + 1 then (1 : Int) else 0) * y + dot _ ys = at0 ys i
      rw [e, ih i]
      simp
theorem comb_span {n : Nat} {S : Vec → Prop} : ∀ (cs : Vec) (vs : List Vec), (∀ v ∈ vs, S v) → Span n S (comb n cs vs)
  | [], _, _ => .zero
  | _ :: _, [], _ => .zero
  | c :: cs, v :: vs, h => .lin c 1 (.of (h v List.mem_cons_self)) (comb_span cs vs fun w hw => h w (List.mem_cons_of_mem _ hw))
theorem unit_span {n : Nat} {z : Vec} (lz : z.length = n) : Span n (· ∈ (List.range n).map (unitv n)) z := by
  have hl : ∀ v ∈ (List.range n).map (unitv n), v.length = n := fun v hv => by
    obtain ⟨p, _, rfl⟩ := List.mem_map.mp hv
    exact unitv_length n p
  have e : comb n z ((List.range n).map (unitv n)) = z := by
    refine vec_ext (by rw [comb_length _ hl, lz]) fun p => ?_
    rw [at0_comb p _ hl, List.map_map]
    by_cases hp : p < n
    · have : List.map ((fun v => at0 v p) ∘ unitv n) (List.range n) = unitv z.length p := by
        rw [lz]
        refine List.map_congr_left fun s hs => ?_
        show at0 (unitv n s) p = if s = p then 1 else 0
        refine at0_get ?_
        unfold unitv
        rw [List.getElem?_map, List.getElem?_range hp]
        show some (if p = s then (1 : Int) else 0) = _
        by_cases e : p = s
        · rw [if_pos e, if_pos e.symm]
        · rw [if_neg e, if_neg (fun z => e z.symm)]
      rw [this, dot_comm, dot_unitv]
    · rw [at0_out (x := z) (by omega)]
      have : List.map ((fun v => at0 v p) ∘ unitv n) (List.range n) = zeros n := by
        have e2 : List.map ((fun v => at0 v p) ∘ unitv n) (List.range n) = (List.range n).map fun _ => 0 := List.map_congr_left fun s hs => at0_out (by rw [unitv_length]; omega)
        rw [e2, List.map_const', List.length_range]
        rfl
      rw [this, dot_comm, dot_zeros]
  rw [← e]
  exact comb_span _ _ fun v hv => hv
theorem ddm0 (n : Nat) : DDM n [] (cone0 n) := by
  refine ⟨fun l hl => ?_, fun z lz _ => unit_span lz, (fun q hq => nomatch hq), fun x _ _ zx _ => ?_, (fun q hq => nomatch hq), ⟨(fun _ h => nomatch h), .nil⟩, rfl⟩
  · obtain ⟨p, _, rfl⟩ := List.mem_map.mp hl
    exact ⟨unitv_length n p, fun r hr => nomatch hr⟩
  · obtain ⟨r, hr, _⟩ := zx
    exact nomatch hr
theorem run_ddm (n : Nat) (rows : List Vec) : DDM n rows (coneRun rows n) := by
  have go : ∀ (rest done : List Vec), DDM n done (coneRun done n) → DDM n (done ++ rest) (coneRun (done ++ rest) n) := by
    intro rest
    induction rest with
    | nil =>
      intro done h
      rw [List.append_nil]
      exact h
    | cons r rest ih =>
      intro done h
      have := ih (done ++ [r]) (by
        rw [run_snoc]
        cases hc : crossP (coneRun done n).lines r with
        | none => exact h.none hc
        | some p => exact h.some hc)
      rw [List.append_assoc] at this
      exact this
  exact go rows [] (ddm0 n)
end CH

set_option Elab.async false
set_option linter.all false
set_option maxRecDepth 100000
namespace CH
open PySem PySem.Spec PyProof.Rows L2
/-! ### data in a list of data -/
theorem room65 {k : Nat} {A : Around} (r : Room k A) : A.units + 65 < cLine := by have := r.un; omega
theorem op_inDK {X : Cx} {K : PySem.W.Frag} (hK : X.K = K) (hu : X.A.units + 65 < cLine) : OpR X (compareOp .In) (rInD K) := hK ▸ op_inD hu
theorem op_notInDK {X : Cx} {K : PySem.W.Frag} (hK : X.K = K) (hu : X.A.units + 65 < cLine) : OpR X (compareOp .NotIn) (rNotInD K) := hK ▸ op_notInD hu
/-! ### ranks of what is at the bounds -/
theorem redu_prp {n : Nat} {A : List Vec} : ∀ {L : List Lead} {x : Vec}, Leads n L → x.length = n → (∀ q ∈ L, ∀ r ∈ A, dot q.2 r = 0) → Prp A (redu x L) x
  | [], x, _, _, _ => Prp.refl _ _
  | q :: L, x, h, hx, hz => by
    have hq : x.length = q.2.length := by rw [hx, h.len q List.mem_cons_self]
    obtain ⟨g, a, b, hg, ha, e, len, _⟩ := clear_spec (x := x) (l := q.2) (p := q.1) hq (h.pos q List.mem_cons_self)
    have p1 := redu_prp (A := A) (L := L) (x := clear x q.1 q.2) h.tail (len.trans hx) fun s hs => hz s (List.mem_cons_of_mem _ hs)
    refine Prp.trans (y := clear x q.1 q.2) p1 ⟨g, a, hg, ha, fun r hr => ?_⟩
    rw [← dot_sml, e, dot_lin r hq, hz q List.mem_cons_self r hr]
    grind
theorem dot_self : ∀ {x : Vec}, 0 ≤ dot x x ∧ (dot x x = 0 → ∀ u ∈ x, u = 0)
  | [] => ⟨Int.le_refl _, fun _ u h => nomatch h⟩
  | x :: xs => by
    obtain ⟨h1, h2⟩ := dot_self (x := xs)
    have sq : 0 ≤ x * x := by
      rcases Int.le_total 0 x with q | q
      · exact Int.mul_nonneg q q
      · have := Int.mul_nonneg (show 0 ≤ -x by omega) (show 0 ≤ -x by omega)
        grind
    refine ⟨by show 0 ≤ x * x + dot xs xs; omega, fun e u hu => ?_⟩
    have e' : x * x + dot xs xs = 0 := e
    have x0 : x * x = 0 := by omega
    have x1 : x = 0 := by rcases Int.mul_eq_zero.mp x0 with q | q <;> exact q
    rcases List.mem_cons.mp hu with k | k
    · rw [k]; exact x1
    · exact h2 (by omega) u k
theorem comb_app {n : Nat} : ∀ {cs1 : Vec} {vs1 : List Vec} (cs2 : Vec) (vs2 : List Vec), cs1.length = vs1.length → (∀ v ∈ vs1, v.length = n) → (∀ v ∈ vs2, v.length = n) → comb n (cs1 ++ cs2) (vs1 ++ vs2) = lin 1 (comb n cs1 vs1) 1 (comb n cs2 vs2)
  | [], [], cs2, vs2, _, _, h2 => by
    show comb n cs2 vs2 = lin 1 (zeros n) 1 (comb n cs2 vs2)
    have l2 := comb_length cs2 h2
    refine vec_ext (by rw [lin_length (by rw [zeros_length, l2]), zeros_length, l2]) fun p => ?_
    rw [at0_lin p (by rw [zeros_length, l2]), at0_zeros]
    omega
  | [], _ :: _, _, _, h, _, _ => nomatch h
  | _ :: _, [], _, _, h, _, _ => nomatch h
  | c :: cs1, v :: vs1, cs2, vs2, h, h1, h2 => by
    have h1' : ∀ w ∈ vs1, w.length = n := fun w hw => h1 w (List.mem_cons_of_mem _ hw)
    have ih := comb_app (n := n) (cs1 := cs1) (vs1 := vs1) cs2 vs2 (Nat.succ.inj h) h1' h2
    have l1 := comb_length (n := n) cs1 h1'
    have l2 := comb_length (n := n) cs2 h2
    have lv := h1 v List.mem_cons_self
    show lin c v 1 (comb n (cs1 ++ cs2) (vs1 ++ vs2)) = lin 1 (lin c v 1 (comb n cs1 vs1)) 1 (comb n cs2 vs2)
    rw [ih]
    have l3 : (lin 1 (comb n cs1 vs1) 1 (comb n cs2 vs2)).length = n := by rw [lin_length (l1.trans l2.symm), l1]
    have l4 : (lin c v 1 (comb n cs1 vs1)).length = n := by rw [lin_length (lv.trans l1.symm), lv]
    refine vec_ext (by rw [lin_length (lv.trans l3.symm), lv, lin_length (l4.trans l2.symm), l4]) fun p => ?_
    rw [at0_lin p (lv.trans l3.symm), at0_lin p (l1.trans l2.symm), at0_lin p (l4.trans l2.symm), at0_lin p (lv.trans l1.symm)]
    omega
/-- rows and all that has a product of nought with each of them make up everything -/
theorem rank_null {n : Nat} {A N : List Vec} (hA : ∀ r ∈ A, r.length = n) (hN : ∀ v ∈ N, v.length = n ∧ ∀ r ∈ A, dot v r = 0) (ind : Indep n N) (sp : ∀ z : Vec, z.length = n → (∀ r ∈ A, dot z r = 0) → Span n (· ∈ N) z) : (ech A).length + N.length = n := by
  have E := ech_ok hA
  have hl : ∀ v ∈ N, v.length = n := fun v hv => (hN v hv).1
  have hB := E.lens
  have lB : ((ech A).map (·.2)).length = (ech A).length := List.length_map _
  have spA : ∀ v, Span n (· ∈ (ech A).map (·.2)) v → ∀ w : Vec, w.length = n → (∀ r ∈ A, dot w r = 0) → dot v w = 0 := fun v hv w lw hw => by
    have h1 : Span n (· ∈ A) v := hv.trans fun b hb => by
      obtain ⟨q, hq, rfl⟩ := List.mem_map.mp hb
      exact E.out q hq
    exact span_dot0 (fun r hr => ⟨hA r hr, by rw [dot_comm]; exact hw r hr⟩) h1
  refine Nat.le_antisymm ?_ ?_
  · have ind2 : Indep n ((ech A).map (·.2) ++ N) := fun cs hcs e c hc => by
      rw [List.length_append] at hcs
      have e1 : cs = cs.take ((ech A).map (·.2)).length ++ cs.drop ((ech A).map (·.2)).length := (List.take_append_drop _ cs).symm
      have l1 : (cs.take ((ech A).map (·.2)).length).length = ((ech A).map (·.2)).length := by rw [List.length_take]; omega
      have l2 : (cs.drop ((ech A).map (·.2)).length).length = N.length := by rw [List.length_drop]; omega
      generalize cs.take ((ech A).map (·.2)).length = c1 at *
      generalize cs.drop ((ech A).map (·.2)).length = c2 at *
      rw [e1, comb_app c2 N l1 hB hl] at e
      have lb := comb_length (n := n) c1 hB
      have ln := comb_length (n := n) c2 hl
      have sb := comb_span (n := n) (S := (· ∈ (ech A).map (·.2))) c1 _ fun v hv => hv
      have nz : ∀ r ∈ A, dot (comb n c2 N) r = 0 := fun r hr => span_dot0 (fun v hv => ⟨hl v hv, (hN v hv).2 r hr⟩) (comb_span (n := n) (S := (· ∈ N)) c2 _ fun v hv => hv)
      have cross := spA _ sb _ ln nz
      have self : dot (comb n c1 ((ech A).map (·.2))) (comb n c1 ((ech A).map (·.2))) = 0 := by
        have : dot (lin 1 (comb n c1 ((ech A).map (·.2))) 1 (comb n c2 N)) (comb n c1 ((ech A).map (·.2))) = 0 := by rw [e, dot_zeros]
        rw [dot_lin _ (lb.trans ln.symm), dot_comm (comb n c2 N), cross] at this
        omega
      have b0 : comb n c1 ((ech A).map (·.2)) = zeros n := by
        have := zeros_of (dot_self.2 self)
        rw [lb] at this
        exact this
      have n0 : comb n c2 N = zeros n := by
        refine vec_ext (by rw [ln, zeros_length]) fun p => ?_
        have : at0 (lin 1 (comb n c1 ((ech A).map (·.2))) 1 (comb n c2 N)) p = at0 (zeros n) p := by rw [e]
        rw [at0_lin p (lb.trans ln.symm), b0, at0_zeros] at this
        rw [at0_zeros]
        omega
      rw [e1] at hc
      rcases List.mem_append.mp hc with q | q
      · exact E.indep c1 l1 b0 c q
      · exact ind c2 l2 n0 c q
    have hBN : ∀ v ∈ (ech A).map (·.2) ++ N, v.length = n := fun v hv => by
      rcases List.mem_append.mp hv with q | q
      · exact hB v q
      · exact hl v q
    have := steinitz (n := n) (B := (ech A).map (·.2) ++ N) (S := (List.range n).map (unitv n)) hBN (fun v hv => by
      obtain ⟨p, _, rfl⟩ := List.mem_map.mp hv
      exact unitv_length n p) ind2 fun b hb => unit_span (hBN b hb)
    rw [List.length_append, lB, List.length_map, List.length_range] at this
    exact this
  · refine Nat.le_of_not_lt fun hlt => ?_
    obtain ⟨x, lx, ⟨u, hu, u0⟩, hx⟩ := nontriv n ((ech A).map (·.2) ++ N) (by rw [List.length_append, lB]; exact hlt) fun v hv => by
      rcases List.mem_append.mp hv with q | q
      · exact hB v q
      · exact hl v q
    have xA : ∀ r ∈ A, dot x r = 0 := fun r hr => by
      rw [dot_comm]
      exact span_dot0 (fun v hv => ⟨hB v hv, hx v (List.mem_append_left _ hv)⟩) (E.back r hr)
    have self := span_dot0 (fun v hv => ⟨hl v hv, hx v (List.mem_append_right _ hv)⟩) (sp x lx xA)
    exact u0 (dot_self.2 self u hu)
theorem indep_off {n : Nat} {x r : Vec} {N : List Vec} (lx : x.length = n) (hl : ∀ v ∈ N, v.length = n ∧ dot v r = 0) (ind : Indep n N) (hr : dot x r ≠ 0) : Indep n (x :: N) := fun cs hcs e c hc => by
  cases cs with
  | nil => exact nomatch hc
  | cons d ds =>
    have hvs : ∀ w ∈ N, w.length = n := fun w hw => (hl w hw).1
    have lds : ds.length = N.length := Nat.succ.inj hcs
    have lc := comb_length (n := n) ds hvs
    have e3 : lin d x 1 (comb n ds N) = zeros n := e
    have z : dot (comb n ds N) r = 0 := span_dot0 hl (comb_span (n := n) (S := (· ∈ N)) ds _ fun v hv => hv)
    have ed : d * dot x r + 1 * dot (comb n ds N) r = 0 := by rw [← dot_lin r (lx.trans lc.symm), e3, dot_zeros]
    rw [z] at ed
    have d0 : d = 0 := by
      have : d * dot x r = 0 := by omega
      exact (Int.mul_eq_zero.mp this).resolve_right hr
    rcases List.mem_cons.mp hc with q | q
    · rw [q]; exact d0
    · refine ind ds lds ?_ c q
      rw [d0] at e3
      refine vec_ext (by rw [lc, zeros_length]) fun p => ?_
      have e4 : at0 (lin 0 x 1 (comb n ds N)) p = at0 (zeros n) p := by rw [e3]
      rw [at0_lin p (lx.trans lc.symm)] at e4
      rw [← e4]
      grind
/-- what a cone tells: lines that make all that lies in all bounds, rays along all edges -/
structure ConeOk (n : Nat) (A ls rs : List Vec) : Prop where
  len : ∀ l ∈ ls, l.length = n ∧ ∀ r ∈ A, dot l r = 0
  ind : Indep n ls
  sp : ∀ z : Vec, z.length = n → (∀ r ∈ A, dot z r = 0) → Span n (· ∈ ls) z
  rays : ∀ x ∈ rs, RayOk n A x
  cmp : Cmp n A rs
  diff : rs.Pairwise fun x y => ¬ (Tgt A x y ∧ Tgt A y x)
theorem cone_ok (n : Nat) (rows : List Vec) : ConeOk n rows ((coneL rows n).map (·.2)) (coneR rows n) := by
  have D := run_ddm n rows
  have E := ech_ok (n := n) (rows := (coneRun rows n).lines) fun l hl => (D.ll l hl).1
  have E' : Ech n (coneRun rows n).lines (coneL rows n) := E
  have l0 : ∀ q ∈ coneL rows n, ∀ r ∈ rows, dot q.2 r = 0 := fun q hq r hr => span_dot0 (fun v hv => ⟨(D.ll v hv).1, (D.ll v hv).2 r hr⟩) (E'.out q hq)
  have rp : ∀ q ∈ (coneRun rows n).masked, Prp rows (redu q.1 (coneL rows n)) q.1 := fun q hq => redu_prp E'.toLeads (D.rays q hq).len l0
  refine ⟨fun l hl => ?_, E'.indep, fun z lz e => (D.lsp z lz e).trans E'.back, fun x hx => ?_, fun x lx nx zx ex => ?_, ?_⟩
  · obtain ⟨q, hq, rfl⟩ := List.mem_map.mp hl
    exact ⟨E'.len q hq, l0 q hq⟩
  · obtain ⟨q, hq, rfl⟩ := List.mem_map.mp hx
    have R := D.rays q hq
    have p := rp q hq
    refine ⟨redu_length E'.toLeads R.len, fun r hr => ?_, ?_, R.ext.of_prp p⟩
    · obtain ⟨c, d, hc, hd, e⟩ := p
      refine nn_of_mul hc ?_
      rw [e r hr]
      exact Int.mul_nonneg (Int.le_of_lt hd) (R.nn r hr)
    · obtain ⟨r, hr, h⟩ := R.nz
      exact ⟨r, hr, fun z => h (p.tgt r hr z)⟩
  · obtain ⟨e, he, p⟩ := D.cmp x lx nx zx ex
    obtain ⟨q, hq, rfl⟩ := List.mem_map.mp he
    exact ⟨_, List.mem_map.mpr ⟨q, hq, rfl⟩, p.trans (rp q hq).symm⟩
  · unfold coneR
    rw [List.pairwise_map]
    refine (List.pairwise_map.mp D.ms.nd).imp_of_mem fun {a b} ha hb ne z => ne ?_
    have pa := rp a ha
    have pb := rp b hb
    exact mask_eq (D.mex a ha) (D.mex b hb) ((pa.symm.tgt.trans z.1).trans pb.tgt) ((pb.symm.tgt.trans z.2).trans pa.tgt)
theorem ConeOk.count {n : Nat} {A ls rs : List Vec} (h : ConeOk n A ls rs) (hA : ∀ r ∈ A, r.length = n) : (ech A).length + ls.length = n := rank_null hA h.len h.ind h.sp
theorem ConeOk.rank {n : Nat} {A ls rs : List Vec} (h : ConeOk n A ls rs) (hA : ∀ r ∈ A, r.length = n) {x : Vec} (hx : x ∈ rs) : (ech (A.filter fun r => decide (dot r x = 0))).length + 1 = (ech A).length := by
  have R := h.rays x hx
  have mem : ∀ r, r ∈ A.filter (fun r => decide (dot r x = 0)) ↔ r ∈ A ∧ dot x r = 0 := fun r => by
    rw [List.mem_filter, decide_eq_true_iff, dot_comm]
  obtain ⟨r0, hr0, hz⟩ := R.nz
  have c1 := h.count hA
  have c2 := rank_null (n := n) (A := A.filter fun r => decide (dot r x = 0)) (N := x :: ls) (fun r hr => hA r ((mem r).mp hr).1) (fun v hv => by
    rcases List.mem_cons.mp hv with e | e
    · rw [e]; exact ⟨R.len, fun r hr => ((mem r).mp hr).2⟩
    · exact ⟨(h.len v e).1, fun r hr => (h.len v e).2 r ((mem r).mp hr).1⟩) (indep_off R.len (fun v hv => ⟨(h.len v hv).1, (h.len v hv).2 r0 hr0⟩) h.ind hz) fun z lz e => by
    obtain ⟨c, d, hc, ez⟩ := R.ext z lz fun r hr q => e r ((mem r).mpr ⟨hr, q⟩)
    have l1 : (lin c z (-d) x).length = n := by rw [lin_length (lz.trans R.len.symm), lz]
    have s1 := h.sp (lin c z (-d) x) l1 fun r hr => by
      rw [dot_lin r (lz.trans R.len.symm), ez r hr]
      grind
    refine .div (c := c) hc lz ?_
    have e2 : sml c z = lin 1 (lin c z (-d) x) d x := by
      refine vec_ext (by rw [sml_length, lin_length (l1.trans R.len.symm), l1, lz]) fun p => ?_
      rw [at0_sml, at0_lin p (l1.trans R.len.symm), at0_lin p (lz.trans R.len.symm)]
      grind
    rw [e2]
    exact .lin 1 d (s1.mono fun v hv => List.mem_cons_of_mem _ hv) (.of List.mem_cons_self)
  rw [List.length_cons] at c2
  omega
end CH

set_option Elab.async false
set_option linter.all false
set_option maxRecDepth 100000
namespace CH
open PySem PySem.Spec PyProof.Rows L2
/-! ### a small solution, by counting -/
def digs (B : Nat) : Nat → Nat → Vec
  | 0, _ => []
  | m + 1, k => ((k % (B + 1) : Nat) : Int) :: digs B m (k / (B + 1))
theorem digs_len (B : Nat) : ∀ m k, (digs B m k).length = m
  | 0, _ => rfl
  | m + 1, k => by
    show (digs B m (k / (B + 1))).length + 1 = m + 1
    rw [digs_len B m]
theorem digs_bd (B : Nat) : ∀ m k, ∀ u ∈ digs B m k, 0 ≤ u ∧ u ≤ B
  | 0, _, u, h => nomatch h
  | m + 1, k, u, h => by
    rcases List.mem_cons.mp h with e | h
    · have := Nat.mod_lt k (show 0 < B + 1 by omega)
      rw [e]
      omega
    · exact digs_bd B m _ u h
theorem digs_inj (B : Nat) : ∀ m k k', k < (B + 1) ^ m → k' < (B + 1) ^ m → digs B m k = digs B m k' → k = k'
  | 0, k, k', h, h', _ => by
    rw [Nat.pow_zero] at h h'
    omega
  | m + 1, k, k', h, h', e => by
    have e1 := List.cons.inj e
    have p : 0 < B + 1 := by omega
    rw [Nat.pow_succ] at h h'
    have i1 := digs_inj B m (k / (B + 1)) (k' / (B + 1)) (Nat.div_lt_of_lt_mul (by rw [Nat.mul_comm]; exact h)) (Nat.div_lt_of_lt_mul (by rw [Nat.mul_comm]; exact h')) e1.2
    have i2 : k % (B + 1) = k' % (B + 1) := by
      have := e1.1
      omega
    rw [← Nat.div_add_mod k (B + 1), ← Nat.div_add_mod k' (B + 1), i1, i2]
def enc (S : Nat) : List Nat → Nat
  | [] => 0
  | v :: vs => v + S * enc S vs
theorem enc_lt {S : Nat} : ∀ {vs : List Nat}, (∀ v ∈ vs, v < S) → enc S vs < S ^ vs.length
  | [], _ => by show 0 < S ^ 0; rw [Nat.pow_zero]; omega
  | v :: vs, h => by
    have ih := enc_lt (vs := vs) fun w hw => h w (List.mem_cons_of_mem _ hw)
    have hv := h v List.mem_cons_self
    show v + S * enc S vs < S ^ (vs.length + 1)
    rw [Nat.pow_succ, Nat.mul_comm (S ^ vs.length)]
    have : S * (enc S vs + 1) ≤ S * S ^ vs.length := Nat.mul_le_mul_left _ ih
    rw [Nat.mul_add] at this
    omega
theorem enc_inj {S : Nat} : ∀ {vs ws : List Nat}, (∀ v ∈ vs, v < S) → (∀ v ∈ ws, v < S) → vs.length = ws.length → enc S vs = enc S ws → vs = ws
  | [], [], _, _, _, _ => rfl
  | [], _ :: _, _, _, h, _ => nomatch h
  | _ :: _, [], _, _, h, _ => nomatch h
  | v :: vs, w :: ws, h, h', hl, e => by
    have hv := h v List.mem_cons_self
    have hw := h' w List.mem_cons_self
    have e' : v + S * enc S vs = w + S * enc S ws := e
    have e1 : v = w := by
      have : (v + S * enc S vs) % S = (w + S * enc S ws) % S := by rw [e']
      rw [Nat.add_mul_mod_self_left, Nat.add_mul_mod_self_left, Nat.mod_eq_of_lt hv, Nat.mod_eq_of_lt hw] at this
      exact this
    have e2 : enc S vs = enc S ws := by
      rw [e1] at e'
      have : S * enc S vs = S * enc S ws := by omega
      exact Nat.eq_of_mul_eq_mul_left (by omega) this
    rw [e1, enc_inj (vs := vs) (ws := ws) (fun x hx => h x (List.mem_cons_of_mem _ hx)) (fun x hx => h' x (List.mem_cons_of_mem _ hx)) (Nat.succ.inj hl) e2]
theorem pigeon {N M : Nat} (f : Nat → Nat) (h : ∀ k < N, f k < M) (hlt : M < N) : ∃ i j, i < N ∧ j < N ∧ i ≠ j ∧ f i = f j := by
  refine Classical.byContradiction fun hno => ?_
  have nd : ((List.range N).map f).Nodup := by
    refine List.pairwise_map.mpr ((List.nodup_range (n := N)).imp_of_mem fun {a b} ha hb ne e => hno ⟨a, b, List.mem_range.mp ha, List.mem_range.mp hb, ne, e⟩)
  have := nodup_bound M _ nd fun x hx => by
    obtain ⟨k, hk, rfl⟩ := List.mem_map.mp hx
    exact h k (List.mem_range.mp hk)
  rw [List.length_map, List.length_range] at this
  omega
theorem dot_box {b B : Nat} : ∀ {r x : Vec}, Bd b r → (∀ u ∈ x, 0 ≤ u ∧ u ≤ (B : Int)) → (dot r x).natAbs ≤ r.length * (2 ^ b * B)
  | [], x, _, _ => by cases x <;> exact Nat.zero_le _
  | _ :: _, [], _, _ => Nat.zero_le _
  | r :: rs, x :: xs, hr, hx => by
    have ih := dot_box (r := rs) (x := xs) (fun u hu => hr u (List.mem_cons_of_mem _ hu)) fun u hu => hx u (List.mem_cons_of_mem _ hu)
    have h1 := hr r List.mem_cons_self
    have h2 := hx x List.mem_cons_self
    have e : (dot (r :: rs) (x :: xs)).natAbs ≤ (r * x).natAbs + (dot rs xs).natAbs := Int.natAbs_add_le _ _
    have h3 : (r * x).natAbs ≤ 2 ^ b * B := by
      rw [Int.natAbs_mul]
      exact Nat.mul_le_mul (Nat.le_of_lt h1) (by omega)
    rw [List.length_cons, Nat.succ_mul]
    omega
theorem siegel {m b : Nat} {M : List Vec} (hM : M.length < m) (hl : ∀ r ∈ M, r.length = m ∧ Bd b r) : ∃ x : Vec, x.length = m ∧ (∃ p, at0 x p ≠ 0) ∧ (∀ r ∈ M, dot r x = 0) ∧ ∀ p, (at0 x p).natAbs ≤ (2 * m * 2 ^ b) ^ (m - 1) := by
  have hm : 0 < m := by omega
  obtain ⟨D, hD⟩ : ∃ D, 2 * m * 2 ^ b = D := ⟨_, rfl⟩
  have D1 : 1 ≤ D := by
    rw [← hD]
    exact Nat.mul_pos (by omega) (Nat.two_pow_pos b)
  rw [hD]
  obtain ⟨B, hB⟩ : ∃ B, D ^ (m - 1) = B := ⟨_, rfl⟩
  rw [hB]
  obtain ⟨C, hC⟩ : ∃ C, m * (2 ^ b * B) = C := ⟨_, rfl⟩
  have hDB : D * B = 2 * C := by
    rw [← hD, ← hC]
    grind
  -- as a number
  let val : Nat → Vec → Nat := fun k r => (dot r (digs B m k) + C).toNat
  let code : Nat → Nat := fun k => enc (2 * C + 1) (M.map (val k))
  have vb : ∀ k, ∀ r ∈ M, (dot r (digs B m k)).natAbs ≤ C := fun k r hr => by
    have := dot_box (b := b) (B := B) (r := r) (x := digs B m k) (hl r hr).2 (digs_bd B m k)
    rw [(hl r hr).1, hC] at this
    exact this
  have vlt : ∀ k, ∀ v ∈ M.map (val k), v < 2 * C + 1 := fun k v hv => by
    obtain ⟨r, hr, rfl⟩ := List.mem_map.mp hv
    have := vb k r hr
    show (dot r (digs B m k) + C).toNat < 2 * C + 1
    omega
  have cb : ∀ k < (B + 1) ^ m, code k < (2 * C + 1) ^ M.length := fun k _ => by
    have := enc_lt (vlt k)
    rw [List.length_map] at this
    exact this
  have big : (2 * C + 1) ^ M.length < (B + 1) ^ m := by
    have s1 : 2 * C + 1 ≤ D * (B + 1) := by
      rw [Nat.mul_add, hDB]
      omega
    have s2 : (2 * C + 1) ^ M.length ≤ (2 * C + 1) ^ (m - 1) := Nat.pow_le_pow_right (by omega) (by omega)
    have s3 : (2 * C + 1) ^ (m - 1) ≤ (D * (B + 1)) ^ (m - 1) := Nat.pow_le_pow_left s1 _
    rw [Nat.mul_pow, hB] at s3
    have e : (B + 1) ^ m = (B + 1) * (B + 1) ^ (m - 1) := by
      rw [show m = (m - 1) + 1 by omega, Nat.pow_succ, Nat.mul_comm]
      rfl
    have s4 : 0 < (B + 1) ^ (m - 1) := Nat.pow_pos (by omega)
    have s5 : B * (B + 1) ^ (m - 1) < (B + 1) * (B + 1) ^ (m - 1) := Nat.mul_lt_mul_of_pos_right (by omega) s4
    omega
  obtain ⟨i, j, hi, hj, ne, ec⟩ := pigeon code cb big
  have ev : M.map (val i) = M.map (val j) := enc_inj (vlt i) (vlt j) (by rw [List.length_map, List.length_map]) ec
  have lij : (digs B m i).length = (digs B m j).length := by rw [digs_len, digs_len]
  refine ⟨lin 1 (digs B m i) (-1) (digs B m j), by rw [lin_length lij, digs_len], ?_, fun r hr => ?_, fun p => ?_⟩
  · refine Classical.byContradiction fun hno => ne (digs_inj B m i j hi hj (vec_ext lij fun p => ?_))
    have : at0 (lin 1 (digs B m i) (-1) (digs B m j)) p = 0 := Classical.byContradiction fun q => hno ⟨p, q⟩
    rw [at0_lin p lij] at this
    omega
  · have h1 : val i r = val j r := List.map_inj_left.mp ev r hr
    have h2 := vb i r hr
    have h3 := vb j r hr
    have h4 : (dot r (digs B m i) + C).toNat = (dot r (digs B m j) + C).toNat := h1
    rw [dot_comm, dot_lin r lij, dot_comm _ r, dot_comm _ r]
    omega
  · rw [at0_lin p lij]
    have f : ∀ k, 0 ≤ at0 (digs B m k) p ∧ at0 (digs B m k) p ≤ B := fun k => by
      by_cases hp : p < (digs B m k).length
      · exact digs_bd B m k _ (List.mem_of_getElem? (get_at0 hp))
      · rw [at0_out (by omega)]
        omega
    have := f i
    have := f j
    omega
/-! ### rows that make all rows, as few as can be -/
theorem indep_new {n : Nat} {t : Vec} {B : List Vec} (lt : t.length = n) (hl : ∀ v ∈ B, v.length = n) (ind : Indep n B) (ht : ¬ Span n (· ∈ B) t) : Indep n (t :: B) := fun cs hcs e c hc => by
  cases cs with
  | nil => exact nomatch hc
  | cons d ds =>
    have lds : ds.length = B.length := Nat.succ.inj hcs
    have lc := comb_length (n := n) ds hl
    have e3 : lin d t 1 (comb n ds B) = zeros n := e
    have d0 : d = 0 := Classical.byContradiction fun dn => ht (by
      refine .div (c := d) dn lt ?_
      have e4 : sml d t = lin (-1) (comb n ds B) 0 (comb n ds B) := by
        refine vec_ext (by rw [sml_length, lin_length rfl, lc, lt]) fun p => ?_
        have e5 : at0 (lin d t 1 (comb n ds B)) p = at0 (zeros n) p := by rw [e3]
        rw [at0_lin p (lt.trans lc.symm), at0_zeros] at e5
        rw [at0_sml, at0_lin p rfl]
        omega
      rw [e4]
      have s := comb_span (n := n) (S := (· ∈ B)) ds _ fun v hv => hv
      exact .lin _ _ s s)
    rcases List.mem_cons.mp hc with q | q
    · rw [q]; exact d0
    · refine ind ds lds ?_ c q
      rw [d0] at e3
      refine vec_ext (by rw [lc, zeros_length]) fun p => ?_
      have e4 : at0 (lin 0 t 1 (comb n ds B)) p = at0 (zeros n) p := by rw [e3]
      rw [at0_lin p (lt.trans lc.symm)] at e4
      rw [← e4]
      grind
theorem basis {n : Nat} : ∀ {T : List Vec}, (∀ t ∈ T, t.length = n) → ∃ B : List Vec, B.Sublist T ∧ Indep n B ∧ ∀ t ∈ T, Span n (· ∈ B) t
  | [], _ => by
    refine ⟨[], List.Sublist.refl _, ?_, (fun _ h => nomatch h)⟩
    intro cs hcs _ c hc
    have := List.length_eq_zero_iff.mp hcs
    subst this
    exact nomatch hc
  | t :: T, h => by
    obtain ⟨B, hs, ind, sp⟩ := basis (T := T) fun x hx => h x (List.mem_cons_of_mem _ hx)
    have hl : ∀ v ∈ B, v.length = n := fun v hv => h v (List.mem_cons_of_mem _ (hs.subset hv))
    by_cases ht : Span n (· ∈ B) t
    · refine ⟨B, hs.cons _, ind, fun x hx => ?_⟩
      rcases List.mem_cons.mp hx with e | e
      · rw [e]; exact ht
      · exact sp x e
    · refine ⟨t :: B, hs.cons_cons _, indep_new (h t List.mem_cons_self) hl ind ht, fun x hx => ?_⟩
      rcases List.mem_cons.mp hx with e | e
      · rw [e]; exact .of List.mem_cons_self
      · exact (sp x e).mono fun v hv => List.mem_cons_of_mem _ hv
/-- rows with a product of nought with something that is not nought are fewer than the size -/
theorem basis_lt {n : Nat} {B : List Vec} {x : Vec} (lx : x.length = n) (hl : ∀ v ∈ B, v.length = n ∧ dot v x = 0) (ind : Indep n B) (hx : ∃ p, at0 x p ≠ 0) : B.length < n := by
  have xx : dot x x ≠ 0 := fun z => by
    obtain ⟨p, hp⟩ := hx
    have := dot_self.2 z
    by_cases h : p < x.length
    · exact hp (this _ (List.mem_of_getElem? (get_at0 h)))
    · exact hp (at0_out (by omega))
  have i2 := indep_off (n := n) (x := x) (r := x) lx hl ind xx
  have hl2 : ∀ v ∈ x :: B, v.length = n := fun v hv => by
    rcases List.mem_cons.mp hv with e | e
    · rw [e]; exact lx
    · exact (hl v e).1
  have := steinitz (n := n) (B := x :: B) (S := (List.range n).map (unitv n)) hl2 (fun v hv => by
    obtain ⟨p, _, rfl⟩ := List.mem_map.mp hv
    exact unitv_length n p) i2 fun b hb => unit_span (hl2 b hb)
  rw [List.length_map, List.length_range, List.length_cons] at this
  omega
/-! ### what is settled by rows, in lowest terms, is small -/
def zb (n c : Nat) : Nat := n * (c + 4) + 1
theorem prim_le {x y : Vec} {a b : Int} (hx : Lw x) (nx : ∃ p, at0 x p ≠ 0) (ha : a ≠ 0) (ny : ∃ p, at0 y p ≠ 0) (e : ∀ p, a * at0 y p = b * at0 x p) : ∀ p, (at0 x p).natAbs ≤ (at0 y p).natAbs := by
  have b0 : b ≠ 0 := fun z => by
    obtain ⟨p, hp⟩ := ny
    have := e p
    rw [z, Int.zero_mul] at this
    rcases Int.mul_eq_zero.mp this with q | q
    · exact ha q
    · exact hp q
  -- a and b without what they share
  have g0 : 0 < Nat.gcd a.natAbs b.natAbs := Nat.gcd_pos_of_pos_left _ (by omega)
  obtain ⟨g, hg⟩ : ∃ g : Nat, Nat.gcd a.natAbs b.natAbs = g := ⟨_, rfl⟩
  obtain ⟨a', ea⟩ : ∃ a' : Int, a = g * a' := Int.ofNat_dvd_left.mpr (hg ▸ Nat.gcd_dvd_left a.natAbs b.natAbs)
  obtain ⟨b', eb⟩ : ∃ b' : Int, b = g * b' := Int.ofNat_dvd_left.mpr (hg ▸ Nat.gcd_dvd_right a.natAbs b.natAbs)
  have gp : (g : Int) ≠ 0 := by omega
  have cop : Nat.gcd a'.natAbs b'.natAbs = 1 := by
    have e1 : a.natAbs = g * a'.natAbs := by rw [ea, Int.natAbs_mul, Int.natAbs_natCast]
    have e2 : b.natAbs = g * b'.natAbs := by rw [eb, Int.natAbs_mul, Int.natAbs_natCast]
    rw [e1, e2, Nat.gcd_mul_left] at hg
    have : g * Nat.gcd a'.natAbs b'.natAbs = g * 1 := by omega
    exact Nat.eq_of_mul_eq_mul_left (by omega) this
  have e' : ∀ p, a' * at0 y p = b' * at0 x p := fun p => by
    have h1 := e p
    rw [ea, eb, Int.mul_assoc, Int.mul_assoc] at h1
    exact Int.eq_of_mul_eq_mul_left gp h1
  have da : a'.natAbs ∣ gl x := gl_great fun u hu => by
    obtain ⟨p, hp⟩ := List.getElem?_of_mem hu
    have h1 := e' p
    rw [at0_get hp] at h1
    have h2 : a'.natAbs ∣ b'.natAbs * u.natAbs := by
      rw [← Int.natAbs_mul, ← h1, Int.natAbs_mul]
      exact Nat.dvd_mul_right _ _
    exact (Nat.Coprime.dvd_of_dvd_mul_left (show Nat.Coprime a'.natAbs b'.natAbs from cop) h2)
  obtain ⟨p0, hp0⟩ := nx
  rw [hx.one hp0] at da
  have a1 : a'.natAbs = 1 := Nat.dvd_one.mp da
  have b1 : b' ≠ 0 := fun z => b0 (by rw [eb, z, Int.mul_zero])
  intro p
  have h1 := congrArg Int.natAbs (e' p)
  rw [Int.natAbs_mul, Int.natAbs_mul, a1, Nat.one_mul] at h1
  rw [h1]
  exact Nat.le_mul_of_pos_left _ (by omega)
theorem prim_bound {n c : Nat} {x : Vec} {M : List Vec} (n8 : n ≤ 8) (lx : x.length = n) (hx : Lw x) (nx : ∃ p, at0 x p ≠ 0) (hM : ∀ r ∈ M, r.length = n ∧ Bd c r ∧ dot r x = 0)
    (uq : ∀ y : Vec, y.length = n → (∀ r ∈ M, dot r y = 0) → ∃ a b : Int, a ≠ 0 ∧ ∀ p, a * at0 y p = b * at0 x p) : Bd (zb n c) x := by
  obtain ⟨B, hs, ind, sp⟩ := basis (n := n) (T := M) fun r hr => (hM r hr).1
  have hB := basis_lt lx (fun v hv => ⟨(hM v (hs.subset hv)).1, (hM v (hs.subset hv)).2.2⟩) ind nx
  obtain ⟨y, ly, ny, hy, by'⟩ := siegel (b := c) hB fun r hr => ⟨(hM r (hs.subset hr)).1, (hM r (hs.subset hr)).2.1⟩
  obtain ⟨a, b, ha, e⟩ := uq y ly fun r hr => span_dot0 (S := (· ∈ B)) (fun v hv => ⟨(hM v (hs.subset hv)).1, hy v hv⟩) (sp r hr)
  have le := prim_le hx nx ha ny e
  refine .of_at fun p => ?_
  refine Nat.lt_of_le_of_lt (Nat.le_trans (le p) (by' p)) ?_
  have h1 : 2 * n * 2 ^ c ≤ 2 ^ (c + 4) := by
    rw [Nat.pow_add, Nat.mul_comm (2 ^ c)]
    exact Nat.mul_le_mul_right _ (by omega)
  have h2 : (2 * n * 2 ^ c) ^ (n - 1) ≤ (2 ^ (c + 4)) ^ (n - 1) := Nat.pow_le_pow_left h1 _
  rw [← Nat.pow_mul] at h2
  refine Nat.lt_of_le_of_lt h2 (Nat.pow_lt_pow_right (by decide) ?_)
  unfold zb
  have : (c + 4) * (n - 1) ≤ n * (c + 4) := by rw [Nat.mul_comm]; exact Nat.mul_le_mul_right _ (by omega)
  omega
end CH

set_option Elab.async false
set_option linter.all false
set_option maxRecDepth 100000
namespace CH
open PySem PySem.Spec PyProof.Rows L2 PySem.Builtin
/-! ### a number's bits, written out and counted -/
def bdigs (m : Nat) : List Nat := (Nat.toDigits 2 m).map fun c => c.toNat
def bText (m : Nat) : Str := ⟨(bdigs m).toArray⟩
section
variable {prog : Program} {w : World} {A : Around} {E : Value → Shared → Prop} {s : Shared}
set_option maxHeartbeats 0 in
theorem formatField_bits {m : Nat} {t : Tok} {spec : Str} {f : Builtin.Float.FormatSpec} {Q : Value → Shared → Prop} (hp : Builtin.Float.parseFormatSpec spec.cps.toList "int" 62 = .ok f)
    (hne : (spec.length == 0) = false)
    (hasc : ((spec.cps.toList.drop 1).any (· ≥ 128) || (spec.cps.getD 0 0 ≥ 128 && !([60, 62, 61, 94] : List Nat).contains (spec.cps.getD 1 0))) = false)
    (hty : f.type.getD (if spec.cps.back? == some 0 then 0 else 100) = 98) (hpr : f.precision = none) (hz0 : f.noNeg0 = false) (hal : f.alt = false) (hw : f.width = none) (hgr : f.grouping = none) (hsg : f.sign = none) (hfi : f.fill = 32) (hag : f.align = 62) (hz : (bText m).length ≤ sizeLine)
    (h : Q (.str (bText m) (s.toks + 1)) { s with toks := s.toks + 1 + 1 }) (hsz : spec.length ≤ sizeLine) : wpAny (model prog w) A (formatField (.int (m : Int) t) spec) Q E s := by
  show wpAny _ _ (holding [.int (m : Int) t] (pyFormat (.int (m : Int) t) spec)) Q E s
  refine wpAny_holding ?_
  unfold pyFormat
  refine wpAny_bind (wpAny_mkStr ?_ hsz)
  refine wpAny_bind (m := callSpecial? (.int (m : Int) t) (Str.ofString "__format__") [.str spec s.toks]) (wpAny_callSpecial?_slot (name := Str.ofString "__format__") (typeIs_int _ _ t) F.slot_int_format ?_)
  refine wpAny_call (codeAny_call_builtin F.slot_int_format.plain F.entry_int_format (F.slot_int_format.check _ _ _ _ _ _ _ _ (typeIs_int _ _ t) (F.args_int_format_2 _ _) ?_))
  unfold Builtin.«int.__format__»
  simp only [selfAndOne, noKeywords, Int.intOfSelf, asInt?, asStr?, List.isEmpty_nil, if_true, pure_bind, bind_pure, bind_assoc, hne, hasc, Bool.false_eq_true, if_false,
    show (Value.str spec s.toks == Value.none) = false from rfl]
  refine wpAny_bind (wpAny_typeNameOf (T := "str") (typeIs_str _ _ _) (by decide) fun _ => ?_)
  refine wpAny_bind (wpAny_typeNameOfCut_int ?_)
  simp only [hp, hty]
  rw [if_pos (by decide)]
  show wpAny _ _ (if _ then _ else _) _ _ _
  rw [if_neg (by simp [hpr])]
  show wpAny _ _ (if _ then _ else _) _ _ _
  rw [if_neg (by simp [hz0])]
  show wpAny _ _ (if _ then _ else _) _ _ _
  rw [if_neg (by decide)]
  show wpAny _ _ (if _ then _ else _) _ _ _
  rw [if_neg (by simp [hw])]
  show wpAny _ _ (if _ then _ else _) _ _ _
  rw [if_neg (by simp [hw])]
  refine (?key : ∀ y : Str, y = bText m → wpAny _ _ (retStr y) _ _ _) _ ?eq
  case eq =>
    obtain ⟨f1, f2, f3, f4, f5, f6, f7, f8, f9⟩ := f
    dsimp only at hal hgr hsg hw hfi hag
    subst hal hgr hsg hw hfi hag
    have hneg : decide ((m : Int) < 0) = false := decide_eq_false (by omega)
    have hds : ((Nat.toDigits 2 (m : Int).natAbs).map fun c => (if (98 : Nat) == 88 then c.toUpper else c).toNat) = bdigs m := rfl
    have hdn : bdigs m ≠ [] := by
      have := tDigits_len_ge 2 m
      unfold bdigs
      intro z
      have z2 := congrArg List.length z
      rw [List.length_map] at z2
      simp at z2
    rw [hneg, hds]
    unfold bText
    generalize bdigs m = ds at hdn
    obtain ⟨d, ds, rfl⟩ := List.exists_cons_of_ne_nil hdn
    conv => lhs; whnf
    simp
    omega
  case key =>
    intro y hy
    subst hy
    unfold retStr
    refine wpAny_bind (wpAny_mkStr (wpAny_pure ?_) hz)
    dsimp only
    exact wpAny_bind (wpAny_isInstance (typeIs_str _ _ _) isSubtype_str_str (wpAny_pure h))
end
/-! ### how many bits are set -/
def ones (m : Nat) : Nat := (bdigs m).countP (· == 49)
theorem bdigs_small {m : Nat} (h : m < 2) : bdigs m = [m + 48] := by
  unfold bdigs
  rw [Nat.toDigits_of_lt_base h]
  match m, h with
  | 0, _ => rfl
  | 1, _ => rfl
theorem bdigs_big {m : Nat} (h : 2 ≤ m) : bdigs m = bdigs (m / 2) ++ [m % 2 + 48] := by
  unfold bdigs
  rw [Nat.toDigits_of_base_le (by decide) h, List.map_append]
  congr 1
  have : m % 2 < 2 := Nat.mod_lt _ (by decide)
  match m % 2, this with
  | 0, _ => rfl
  | 1, _ => rfl
theorem bdigs_len : ∀ (k m : Nat), m < 2 ^ k → (bdigs m).length ≤ k + 1
  | 0, m, h => by
    have : m = 0 := by simpa using h
    subst this
    rw [bdigs_small (by decide)]
    decide
  | k + 1, m, h => by
    by_cases h2 : m < 2
    · rw [bdigs_small h2]
      simp
    · rw [bdigs_big (by omega), List.length_append]
      have := bdigs_len k (m / 2) (by rw [Nat.pow_succ] at h; omega)
      simp
      omega
theorem ones_small {m : Nat} (h : m < 2) : ones m = m := by
  unfold ones
  rw [bdigs_small h]
  match m, h with
  | 0, _ => rfl
  | 1, _ => rfl
theorem ones_big {m : Nat} (h : 2 ≤ m) : ones m = ones (m / 2) + m % 2 := by
  unfold ones
  rw [bdigs_big h, List.countP_append]
  congr 1
  have : m % 2 < 2 := Nat.mod_lt _ (by decide)
  match m % 2, this with
  | 0, _ => rfl
  | 1, _ => rfl
theorem ones_half (m : Nat) : ones m = ones (m / 2) + m % 2 := by
  by_cases h : m < 2
  · match m, h with
    | 0, _ => rfl
    | 1, _ => rfl
  · exact ones_big (by omega)
/-- what is set is counted -/
theorem ones_ge : ∀ (k m : Nat), ((List.range k).filter fun i => m.testBit i).length ≤ ones m
  | 0, m => by simp
  | k + 1, m => by
    rw [ones_half, List.range_succ_eq_map, List.filter_cons, List.filter_map]
    have ih := ones_ge k (m / 2)
    have e : ((fun i => m.testBit i) ∘ Nat.succ) = fun i => (m / 2).testBit i := by
      funext i
      show m.testBit (i + 1) = _
      rw [Nat.testBit_succ]
    rw [e]
    have h0 : m.testBit 0 = decide (m % 2 = 1) := Nat.testBit_zero m
    rw [h0]
    by_cases h : m % 2 = 1
    · rw [if_pos (decide_eq_true h), List.length_cons, List.length_map]
      omega
    · rw [if_neg (by simpa using h), List.length_map]
      omega
/-- one sign counted -/
theorem occ_count (x : Str) (c limit : Nat) : ∀ (k a : Nat) (st : Array Nat × Nat), st.2 ≤ a → st.1.size + k ≤ limit →
    (forIn (List.range' a k) st (StrLaws.occBody x ⟨#[c]⟩ x.length limit)).run.fst.size = st.1.size + ((List.range' a k).filter fun i => decide (x.cps.toList[i]? = some c)).length
  | 0, a, st, _, _ => by simp
  | k + 1, a, st, h1, h2 => by
    rw [List.range'_succ, List.forIn_cons]
    unfold StrLaws.occBody
    have e := StrLaws.subAt_one x c a
    by_cases hc : x.cps.toList[a]? = some c
    · have hc' := e.mpr hc
      rw [if_pos ⟨⟨⟨by omega, h1⟩, hc'.1⟩, hc'.2⟩]
      have ih := occ_count x c limit k (a + 1) (st.1.push a, a + (⟨#[c]⟩ : Str).length) (by show a + 1 ≤ a + 1; omega) (by simp; omega)
      refine ih.trans ?_
      rw [List.filter_cons_of_pos (by simpa using hc)]
      simp
      omega
    · rw [if_neg (fun z => hc (e.mp ⟨z.1.2, z.2⟩))]
      have ih := occ_count x c limit k (a + 1) (st.1, st.2) (by show st.2 ≤ a + 1; omega) (by simp; omega)
      refine ih.trans ?_
      rw [List.filter_cons_of_neg (by simpa using hc)]
theorem range_filter (l : List Nat) (c : Nat) : ∀ (p : List Nat), ((List.range' p.length l.length).filter fun i => decide ((p ++ l)[i]? = some c)).length = l.countP (· == c) := by
  induction l with
  | nil => intro p; simp
  | cons y l ih =>
    intro p
    rw [List.length_cons, List.range'_succ]
    have h1 := ih (p ++ [y])
    rw [List.append_assoc, List.singleton_append, List.length_append, List.length_singleton] at h1
    have h2 : (p ++ y :: l)[p.length]? = some y := by simp
    rw [List.filter_cons, h2, List.countP_cons, ← h1]
    by_cases h : y = c
    · subst h
      simp
    · have : ¬ (some y = some c) := fun z => h (Option.some.inj z)
      simp [this, h]
theorem count_one (x : Str) (c : Nat) : Txt.count x ⟨#[c]⟩ = (x.cps.toList.countP (· == c) : Nat) := by
  unfold Txt.count
  rw [StrLaws.occ_eq]
  have h := occ_count x c (x.length + 1) (x.length + 1 - 0) 0 (#[], 0) (Nat.le_refl _) (by simp)
  have e2 : ∀ a : Array Nat, a.toList.length = a.size := fun a => Array.length_toList
  rw [e2, h]
  have hl : x.length = x.cps.toList.length := by simp [Str.length]
  have h2 := range_filter x.cps.toList c []
  simp only [List.nil_append, List.length_nil] at h2
  rw [← hl] at h2
  rw [← h2, Nat.sub_zero, List.range'_1_concat, List.filter_append, List.length_append]
  have : x.cps.toList[0 + x.length]? = none := by
    rw [List.getElem?_eq_none_iff]
    omega
  rw [List.filter_cons_of_neg (by rw [this]; simp)]
  congr 1
  show 0 + (_ + 0) = _
  omega
theorem count_ones (m : Nat) : Txt.count (bText m) "1" = (ones m : Nat) := count_one (bText m) 49
/-! ### the rule -/
section
variable {X : Cx}
def tFmtB (te : TE) : TE := fun σ H Q => te σ H fun x H1 => ∃ m : Nat, x = .int m ∧ (bText m).length ≤ sizeLine ∧ Q (.str (bText m)) H1
theorem pe_fmtB {e : Expr} {te : TE} {pos p1 p2 : Pos} (he : PE X e te) (hs : PE X (.JoinedStr [.Constant (.str "b") 0 p1] p2) (tC (.str "b"))) : PE X (.FormattedValue e (-1) (some (.JoinedStr [.Constant (.str "b") 0 p1] p2)) pos) (tFmtB te) := by
  refine ⟨fun pins s σ H Q I h => ?_⟩
  refine wpAny_FormattedValue_spec (thn (he.run pins s σ H _ I h) fun v s1 hv => ?_)
  obtain ⟨x, H1, I1, r1, m, rfl, hz, q⟩ := hv
  refine thn (hs.run pins s1 σ H1 (fun y H2 => y = .str "b" ∧ H2 = H1) I1 ⟨rfl, rfl⟩) fun r s2 hr => ?_
  obtain ⟨y, H2, I2, r2, rfl, rfl⟩ := hr
  obtain ⟨t, rfl⟩ := r1
  obtain ⟨t2, rfl⟩ := r2
  exact ⟨_, _, rfl, formatField_bits (f := ⟨32, 62, none, false, false, none, none, none, some 98⟩) (by kernel_rfl) (by decide +kernel) (by decide +kernel) rfl rfl rfl rfl rfl rfl rfl rfl rfl hz ⟨.str (bText m), _, I2.tok _, ⟨_, rfl⟩, q⟩ (by decide +kernel)⟩
end
end CH

set_option Elab.async false
set_option linter.all false
set_option maxRecDepth 100000
namespace CH
open PySem PySem.Spec PyProof.Rows L2
/-! ### two neighbours share many bounds -/
theorem adj_span {n : Nat} {A R : List Vec} {lines : List Vec} {hi lo y : Vec} (hR : ∀ e ∈ R, RayOk n A e) (hC : Cmp n A R) (mh : hi ∈ R) (ml : lo ∈ R) (adj : Adj A R hi lo) (lsp : ∀ z : Vec, z.length = n → (∀ r ∈ A, dot z r = 0) → Span n (· ∈ lines) z) (ll : ∀ l ∈ lines, l.length = n)
    (ly : y.length = n) (t : ∀ r ∈ A, dot hi r = 0 → dot lo r = 0 → dot y r = 0) : Span n (· ∈ hi :: lo :: lines) y := by
  have hh := hR hi mh
  have hl := hR lo ml
  obtain ⟨M, M0, hM⟩ := bound_all y A
  have lz : (lin 1 hi 1 lo).length = n := by rw [lin_length (hh.len.trans hl.len.symm), hh.len]
  have ez : ∀ r, dot (lin 1 hi 1 lo) r = dot hi r + dot lo r := fun r => by rw [dot_lin r (hh.len.trans hl.len.symm)]; omega
  have lx : (lin M (lin 1 hi 1 lo) 1 y).length = n := by rw [lin_length (lz.trans ly.symm), lz]
  have ex : ∀ r, dot (lin M (lin 1 hi 1 lo) 1 y) r = M * (dot hi r + dot lo r) + dot y r := fun r => by
    rw [dot_lin r (lz.trans ly.symm), ez]
    omega
  generalize lin M (lin 1 hi 1 lo) 1 y = x at lx ex
  have zero : ∀ r ∈ A, dot hi r = 0 → dot lo r = 0 → dot x r = 0 := fun r hr a b => by
    rw [ex, a, b, t r hr a b]
    omega
  have nx : Nn A x := fun r hr => by
    have a := hh.nn r hr
    have b := hl.nn r hr
    by_cases z : dot hi r = 0 ∧ dot lo r = 0
    · rw [zero r hr z.1 z.2]; exact Int.le_refl _
    · have h1 : 1 ≤ dot hi r + dot lo r := by omega
      have h2 := Int.mul_le_mul_of_nonneg_left h1 M0
      have h3 := hM r hr
      rw [ex]
      omega
  have H := mink (S := (· ∈ R)) (fun x lx nx zx ex => by
    obtain ⟨e, he, p⟩ := hC x lx nx zx ex
    exact ⟨e, he, (hR e he).len, p⟩) (loose A x) x rfl lx nx
  obtain ⟨c, α, β, hc, q⟩ := hull_two (hi := hi) (lo := lo) (H.mono fun e he => adj e he.1 fun r hr a b => he.2 r hr (zero r hr a b))
  have ey : ∀ r ∈ A, c * dot y r = (α - c * M) * dot hi r + (β - c * M) * dot lo r := fun r hr => by
    have := q r hr
    rw [ex] at this
    grind
  generalize α - c * M = γ at ey
  generalize β - c * M = δ at ey
  have l1 : (lin γ hi δ lo).length = n := by rw [lin_length (hh.len.trans hl.len.symm), hh.len]
  have l2 : (lin c y (-1) (lin γ hi δ lo)).length = n := by rw [lin_length (ly.trans l1.symm), ly]
  have hs : Span n (· ∈ lines) (lin c y (-1) (lin γ hi δ lo)) := lsp _ l2 fun r hr => by
    rw [dot_lin r (ly.trans l1.symm), dot_lin r (hh.len.trans hl.len.symm), ey r hr]
    omega
  have hS : ∀ v, v ∈ hi :: lo :: lines → v.length = n := fun v hv => by
    rcases List.mem_cons.mp hv with e | hv
    · rw [e]; exact hh.len
    · rcases List.mem_cons.mp hv with e | hv
      · rw [e]; exact hl.len
      · exact ll v hv
  have s1 : Span n (· ∈ hi :: lo :: lines) (lin c y (-1) (lin γ hi δ lo)) := hs.mono fun v hv => List.mem_cons_of_mem _ (List.mem_cons_of_mem _ hv)
  have s2 : Span n (· ∈ hi :: lo :: lines) (lin γ hi δ lo) := .lin _ _ (.of List.mem_cons_self) (.of (List.mem_cons_of_mem _ List.mem_cons_self))
  have s3 := Span.lin 1 1 s1 s2
  have e3 : lin 1 (lin c y (-1) (lin γ hi δ lo)) 1 (lin γ hi δ lo) = sml c y := by
    refine vec_ext (by rw [lin_length (l2.trans l1.symm), l2, sml_length, ly]) fun p => ?_
    rw [at0_lin p (l2.trans l1.symm), at0_lin p (ly.trans l1.symm), at0_sml]
    omega
  rw [e3] at s3
  exact .div (by omega) ly s3
theorem filter_idx {α : Type} (p : α → Bool) (q : Nat → Bool) : ∀ (l pre : List α), (∀ i x, (pre ++ l)[i]? = some x → (q i = true ↔ p x = true)) → (l.filter p).length = ((List.range' pre.length l.length).filter q).length
  | [], pre, _ => by simp
  | x :: l, pre, h => by
    have ih := filter_idx p q l (pre ++ [x]) (fun i y hy => h i y (by rw [List.append_assoc] at hy; exact hy))
    have hx := h pre.length x (by simp)
    rw [List.length_append, List.length_singleton] at ih
    rw [List.length_cons, List.range'_succ, List.filter_cons, List.filter_cons]
    by_cases hp : p x = true
    · rw [if_pos hp, if_pos (hx.mpr hp), List.length_cons, List.length_cons, ih]
    · rw [if_neg hp, if_neg (fun z => hp (hx.mp z)), ih]
/-- what a pair of masks says that are_neighbours may ask of -/
def NbOk (k : Nat) (f : Int) (ms : List Int) (m o : Int) : Prop := ∃ a b : Nat, m = a ∧ o = b ∧ a < 2 ^ k ∧ k ≤ 1000000 ∧ (nbs m o ms = true → f ≤ (ones (a &&& b) : Nat))
theorem DDM.nbOk {n : Nat} {A : List Vec} {s : CState} {hi lo : Ray} (h : DDM n A s) (hA : ∀ r ∈ A, r.length = n) (hk : A.length ≤ 1000000) (mh : hi ∈ s.masked) (ml : lo ∈ s.masked) (ne : hi ≠ lo) :
    NbOk A.length ((n : Int) - s.lines.length - 2) (s.masked.map (·.2)) hi.2 lo.2 := by
  obtain ⟨a, ea, la, ba⟩ := h.mex hi mh
  obtain ⟨b, eb, lb, bb⟩ := h.mex lo ml
  refine ⟨a, b, ea, eb, la, hk, fun nb => ?_⟩
  have adj := adj_of_nbs h.mex h.ms.nd mh ml ne nb
  let T := A.filter fun r => decide (dot hi.1 r = 0) && decide (dot lo.1 r = 0)
  have hT : ∀ r ∈ T, r.length = n := fun r hr => hA r (List.mem_filter.mp hr).1
  have cT : T.length ≤ ones (a &&& b) := by
    have e := filter_idx (fun r => decide (dot hi.1 r = 0) && decide (dot lo.1 r = 0)) (fun i => (a &&& b).testBit i) A [] fun i r hi' => by
      rw [List.nil_append] at hi'
      rw [Nat.testBit_and, Bool.and_eq_true_iff, ba i r hi', bb i r hi', Bool.and_eq_true_iff, decide_eq_true_iff, decide_eq_true_iff]
    have g := ones_ge A.length (a &&& b)
    rw [List.range_eq_range'] at g
    show (A.filter _).length ≤ _
    rw [e]
    exact g
  have C := cone_ok n T
  have cnt := C.count hT
  have eT : (ech T).length ≤ T.length := by
    have := ech_len T T.length
    rw [List.take_length] at this
    exact this
  have hR : ∀ e ∈ s.masked.map (·.1), RayOk n A e := fun e he => by
    obtain ⟨q, hq, rfl⟩ := List.mem_map.mp he
    exact h.rays q hq
  have mem1 : ∀ q ∈ s.masked, q.1 ∈ s.masked.map (·.1) := fun q hq => List.mem_map.mpr ⟨q, hq, rfl⟩
  have st := steinitz (n := n) (B := (coneL T n).map (·.2)) (S := hi.1 :: lo.1 :: s.lines) (fun v hv => (C.len v hv).1) (fun v hv => by
    rcases List.mem_cons.mp hv with e | hv
    · rw [e]; exact (h.rays hi mh).len
    · rcases List.mem_cons.mp hv with e | hv
      · rw [e]; exact (h.rays lo ml).len
      · exact (h.ll v hv).1) C.ind fun v hv => adj_span hR h.cmp (mem1 hi mh) (mem1 lo ml) adj h.lsp (fun l hl => (h.ll l hl).1) (C.len v hv).1 fun r hr z1 z2 => (C.len v hv).2 r (List.mem_filter.mpr ⟨hr, by simp [z1, z2]⟩)
  rw [List.length_cons, List.length_cons] at st
  omega
/-! ### what the program's cone asks of sizes -/
structure RunFits (n c B : Nat) (rows : List Vec) : Prop where
  cnt : ∀ i, i ≤ rows.length → (coneRun (rows.take i) n).masked.length < 16777216
  ray : ∀ i, i ≤ rows.length → ∀ q ∈ (coneRun (rows.take i) n).masked, Bd B q.1
  lin : ∀ i, i ≤ rows.length → ∀ l ∈ (coneRun (rows.take i) n).lines, Bd B l
  fit : 2 * B + c + 4 ≤ 33554432
  ech : ∃ L, (∀ l ∈ (coneRun rows n).lines, Bd L l) ∧ LB L (coneRun rows n).lines.length ≤ 33554432 ∧ B + (coneRun rows n).lines.length * (LB L (coneRun rows n).lines.length + 1) ≤ 33554432
  few : rows.length ≤ 1000000
theorem step_lines_le (s : CState) (row : Vec) : (coneStep s row).lines.length ≤ s.lines.length := by
  unfold coneStep
  split
  · exact Nat.le_refl _
  · show (bentL _ _ _).length ≤ _
    unfold bentL
    rw [List.length_map]
    unfold without
    rw [List.length_append, List.length_take, List.length_drop]
    omega
theorem fold_lines_le : ∀ (rows : List Vec) (s : CState), (rows.foldl coneStep s).lines.length ≤ s.lines.length
  | [], s => Nat.le_refl _
  | r :: rows, s => Nat.le_trans (fold_lines_le rows (coneStep s r)) (step_lines_le s r)
theorem run_lines_le (n : Nat) (rows : List Vec) : (coneRun rows n).lines.length ≤ n := by
  have := fold_lines_le rows (cone0 n)
  have e : (cone0 n).lines.length = n := by show ((List.range n).map (unitv n)).length = n; simp
  rw [e] at this
  exact this
/-- by doubling: few rows -/
theorem RunFits.of_few {n c : Nat} {rows : List Vec} (hn : n ≤ 8) (hr : ∀ r ∈ rows, Bd c r) (h12 : rows.length ≤ 12) (F : ConeFits n c rows.length) : RunFits n c (cz c rows.length) rows := by
  have sz : ∀ i, i ≤ rows.length → CSize c n i (coneRun (rows.take i) n) := fun i hi => by
    have := run_size (c := c) hn (rows := rows.take i) fun x hx => hr x (List.mem_of_mem_take hx)
    rw [List.length_take, Nat.min_eq_left hi] at this
    exact this
  have zz := sz rows.length (Nat.le_refl _)
  rw [List.take_length] at zz
  obtain ⟨f1, f2⟩ := F.2 _ zz.cnt
  refine ⟨fun i hi => ?_, fun i hi q hq => ((sz i hi).ray q hq).mono (cz_mono c hi), fun i hi l hl => ((sz i hi).lin l hl).mono (cz_mono c ?_), F.1, ⟨_, zz.lin, f1, f2⟩, by omega⟩
  · have hk := (run_masks (n := n) (rows.take i)).1.length
    rw [List.length_map, List.length_take, Nat.min_eq_left hi] at hk
    have : 2 ^ i ≤ 2 ^ 12 := Nat.pow_le_pow_right (by decide) (by omega)
    omega
  · have := (sz i hi).few
    omega
end CH

namespace CH
open PySem PySem.Spec PyProof.Rows L2
def topS (i : Nat) : Stmt := PySem.Challenge.pw_cornerhouse_k03_cones_hold.main.body.getD i (.Pass ⟨0, 0, 0, 0⟩)
section
variable {P : Program} {w : World} {K : PySem.W.Frag} {mg : Str → Option Value} {base : Heap}
abbrev s_law_begun : Stmt := topS 21
abbrev n_law_begun : List Str := ["_law_script", "_law_seed", "_law_cell"]
abbrev p_law_begun : List Str := ["_law_script"]
theorem sc_law_begun : FnScope n_law_begun p_law_begun (defScope s_law_begun) := ⟨rfl, rfl, rfl, by decide +kernel, rfl, by decide +kernel, by decide +kernel⟩
def sp_law_begun (K : PySem.W.Frag) : Sp := fun vs H Q _ => ∃ (a : Addr) (ns : List Int), vs = [.ref a] ∧ SqL K H a (ns.map V.int) ∧ ∀ d H', H d = none → SB S0 H H' → DrS K H' d a ns → Q (.ref d) H'
theorem ok_law_begun {f : Addr} {fd : FuncData} {k : Nat} (F : Fun K "_law_begun" "_law_begun" s_law_begun f fd) (m_int : mg "int" = none) (m_len : mg "len" = none) : FnOk P w K mg base CX0 (k + 1) f fd p_law_begun (sp_law_begun K) := by
  refine F.ok sc_law_begun (fun vs H Q E h => ?_) (fun cdv A outer s H vs Q E hr h => ?_)
  · obtain ⟨a, xs, rfl, _⟩ := h
    rfl
  · obtain ⟨a, ns, rfl, hS, q⟩ := h
    refine ⟨_, (pss_cons (ps_set (i := 1) sc_law_begun.nd rfl (.inl rfl) pe_int)
      (pss_cons (ps_for PassesOwn.never rfl (pi_seqK (K := K) rfl (pv 0)) (pg_name (i := 2) sc_law_begun.nd rfl (.inl rfl))
      (pss_one (ps_set (i := 1) sc_law_begun.nd rfl (.inl rfl) (pe_op op_mod (pe_op op_add (pe_op op_add (pe_op op_mulK (pv 1) pe_int) (pe_op op_mulK (pv 2) pe_int)) pe_int) pe_int))))
      (pss_one (ps_ret (pe_disp (pps_cons pe_str (pv 0) (pps_cons pe_str pe_int (pps_cons pe_str pe_int (pps_cons pe_str (pe_op op_mulK (pv 1) (pe_callTy call_int1 (by rfl) m_int (by decide +kernel) (pa_cons (pe_cmpR op_gt (pe_callB (len_ofK (K := K) rfl) (by rfl) m_len PySem.boot_len (pa_cons (pv 0) pa_nil)) pe_int (nomark _)) pa_nil))) pps_nil)))) (by rfl) (by rfl) (fun z => by cases z) (by decide)))))), ?_⟩
    refine ⟨.ref a, rfl, seq_for (S := S0) (.inl hS) (fun z => z) (fun i σ H' => ∃ (z : Int) (y2 : Option V), σ = [some (.ref a), some (.int z), y2] ∧ 0 ≤ z ∧ z < 2147483647 ∧ H' = H) ⟨0, none, rfl, by decide, by decide, rfl⟩ (fun i σ H' _ ⟨_, _, _, _, _, e⟩ => e ▸ SB.refl _) ?_ ?_⟩
    · rintro i x σ H' hx ⟨z, y2, rfl, h0, h1, rfl⟩
      obtain ⟨n, hn, rfl⟩ := ints_get hx
      refine ⟨.int z, rfl, z, 48271, rfl, rfl, mulK_left (by omega) (by omega), .int n, rfl, n, 69621, rfl, rfl, mulK_right (by decide) (by decide), _, _, rfl, rfl, _, 11, rfl, rfl, _, 2147483647, rfl, rfl, (by show (0 : Int) < 2147483647; decide), ?_⟩
      exact ⟨_, some (.int n), rfl, (mod_lt (by decide)).1, (mod_lt (by decide)).2, rfl⟩
    · rintro σ H' ⟨z, y2, rfl, h0, h1, rfl⟩
      refine fun d hd => ?_
      have hSd : SqL K (upd H' d (.dK [])) a (ns.map V.int) := (SB.new (S := S0) hd).sqL (fun z => z) hS
      refine ⟨.ref a, rfl, .int z, rfl, .ref a, rfl, a, ns.map V.int, rfl, .inl hSd, _, 2, rfl, rfl, .inr ⟨_, rfl, z, _, rfl, rfl, mulK_left (by omega) (by omega), ?_⟩⟩
      refine ⟨upd_same, [(kN, .ref a), (kA, .int 0), (kR, .int 0), (kS, .int _)], rfl, (by show 4 ≤ 15; decide), ?_⟩
      rw [upd_upd, merge_dkv]
      refine q d _ hd (SB.new hd) ⟨0, 0, _, upd_same, (SB.new (S := S0) hd).sqL (fun z => z) hS, by decide, by decide, ?_, ?_⟩
      · split <;> omega
      · split <;> omega
abbrev s_law_taken : Stmt := topS 22
abbrev n_law_taken : List Str := ["_law_s", "_law_most", "_law_found", "_law_number_here"]
abbrev p_law_taken : List Str := ["_law_s", "_law_most"]
theorem sc_law_taken : FnScope n_law_taken p_law_taken (defScope s_law_taken) := ⟨rfl, rfl, rfl, by decide +kernel, rfl, by decide +kernel, by decide +kernel⟩
def sp_law_taken (K : PySem.W.Frag) : Sp := fun vs H Q _ => ∃ (d a : Addr) (ns : List Int) (m : Int), vs = [.ref d, .int m] ∧ DrS K H d a ns ∧ 0 < m ∧ m < 2 ^ 60 ∧ ∀ r H', 0 ≤ r → r < m → SB (Sd d) H H' → DrS K H' d a ns → Q (.int r) H'
theorem ok_law_taken {f : Addr} {fd : FuncData} {k : Nat} (F : Fun K "_law_taken" "_law_taken" s_law_taken f fd) (m_len : mg "len" = none) (m_int : mg "int" = none) : FnOk P w K mg base CX0 (k + 1) f fd p_law_taken (sp_law_taken K) := by
  refine F.ok sc_law_taken (fun vs H Q E h => ?_) (fun cdv A outer s H vs Q E hr h => ?_)
  · obtain ⟨d, a, ns, m, rfl, _⟩ := h
    rfl
  · obtain ⟨d, a, ns, m, rfl, ⟨t, r, z, D⟩, m0, m1, q⟩ := h
    refine ⟨_, (pss_cons (ps_if (pt_cmpR op_gt (pe_dget (hu_of hr) (pv 0) pe_str (fun _ _ => rfl)) pe_int (nomark _))
      (pss_cons (ps_set (i := 2) sc_law_taken.nd rfl (.inl rfl) (pe_op op_mod (pe_dget (hu_of hr) (pv 0) pe_str (fun _ _ => rfl)) (pv 1)))
      (pss_cons (ps_dput (hu_of hr) (pv 0) pe_str (pe_op op_fdivK (pe_dget (hu_of hr) (pv 0) pe_str (fun _ _ => rfl)) (pv 1)) rfl)
      (pss_one (ps_ret (pv 2))))) pss_nil)
      (pss_cons (ps_dput (hu_of hr) (pv 0) pe_str (pe_op op_add (pe_dget (hu_of hr) (pv 0) pe_str (fun _ _ => rfl)) pe_int) rfl)
      (pss_cons (ps_if (pt_cmpR op_le (pe_dget (hu_of hr) (pv 0) pe_str (fun _ _ => rfl)) (pe_callB (len_ofK (K := K) rfl) (by rfl) m_len PySem.boot_len (pa_cons (pe_dget (hu_of hr) (pv 0) pe_str (fun _ _ => rfl)) pa_nil)) (nomark _))
      (pss_cons (ps_set (i := 3) sc_law_taken.nd rfl (.inl rfl) (pe_ix (ix_listK (K := K) rfl) (pe_dget (hu_of hr) (pv 0) pe_str (fun _ _ => rfl)) (pe_op op_sub (pe_dget (hu_of hr) (pv 0) pe_str (fun _ _ => rfl)) pe_int) (fun _ _ => rfl)))
      (pss_cons (ps_dput (hu_of hr) (pv 0) pe_str (pe_op op_mulK (pe_op op_fdivK (pv 3) (pv 1)) (pe_callTy call_int1 (by rfl) m_int (by decide +kernel) (pa_cons (pe_cmpR op_ge (pv 3) (pe_op op_pow pe_int pe_int) (nomark _)) pa_nil))) rfl)
      (pss_one (ps_ret (pe_op op_mod (pv 3) (pv 1)))))) pss_nil)
      (pss_cons (ps_dput (hu_of hr) (pv 0) pe_str (pe_op op_mod (pe_op op_mulK (pe_dget (hu_of hr) (pv 0) pe_str (fun _ _ => rfl)) pe_int) pe_int) rfl)
      (pss_one (ps_ret (pe_ifExp (pt_cmpR op_gt (pv 1) (pe_op op_pow pe_int pe_int) (nomark _)) (pe_op op_mod (pe_op op_pow (pe_op op_fdivK (pe_dget (hu_of hr) (pv 0) pe_str (fun _ _ => rfl)) pe_int) pe_int) (pv 1)) (pe_op op_mod (pe_op op_fdivK (pe_dget (hu_of hr) (pv 0) pe_str (fun _ _ => rfl)) pe_int) (pv 1))))))))), ?_⟩
    have gR : ∀ {H a ns t r z}, DrAt K H d a ns t r z → DGet H d (.str "rest") (some (.int r)) := fun D => dkv_R _ _ _ _ ▸ DGet.k (k := kR) D.at_
    have gA : ∀ {H a ns t r z}, DrAt K H d a ns t r z → DGet H d (.str "at") (some (.int t)) := fun D => dkv_A _ _ _ _ ▸ DGet.k (k := kA) D.at_
    have gN : ∀ {H a ns t r z}, DrAt K H d a ns t r z → DGet H d (.str "numbers") (some (.ref a)) := fun D => dkv_N _ _ _ _ ▸ DGet.k (k := kN) D.at_
    have gS : ∀ {H a ns t r z}, DrAt K H d a ns t r z → DGet H d (.str "seed") (some (.int z)) := fun D => dkv_S _ _ _ _ ▸ DGet.k (k := kS) D.at_
    have pR : ∀ {H a ns t r z} v, DrAt K H d a ns t r z → DPut H d (.str "rest") (.int v) (upd H d (.dK (dkv a t v z))) := fun v D => put_R _ _ _ _ _ ▸ DPut.k (k := kR) D.at_ (show 4 < sizeLine by decide)
    have pA : ∀ {H a ns t r z} v, DrAt K H d a ns t r z → DPut H d (.str "at") (.int v) (upd H d (.dK (dkv a v r z))) := fun v D => put_A _ _ _ _ _ ▸ DPut.k (k := kA) D.at_ (show 4 < sizeLine by decide)
    have pS : ∀ {H a ns t r z} v, DrAt K H d a ns t r z → DPut H d (.str "seed") (.int v) (upd H d (.dK (dkv a t r v))) := fun v D => put_S _ _ _ _ _ ▸ DPut.k (k := kS) D.at_ (show 4 < sizeLine by decide)
    have hm : CDivK 0 m := CDivK.of (b := 60) m0 (by omega) (by decide) (by decide)
    have hm' : ∀ i, CDivK i m := fun i => CDivK.of (b := 60) m0 (by omega) (by decide) (by decide)
    refine ⟨.ref d, rfl, d, .int r, rfl, gR D, _, _, rfl, rfl, _, rfl, ite2 (fun e => ?_) (fun e => ?_)⟩
    · -- what is left of a great number
      refine ⟨.ref d, rfl, d, .int r, rfl, gR D, .int m, rfl, r, m, rfl, rfl, m0, ?_⟩
      refine ⟨.ref d, rfl, d, .int r, rfl, gR D, .int m, rfl, r, m, rfl, rfl, hm' r, .ref d, rfl, d, _, rfl, pR _ D, ?_⟩
      obtain ⟨D2, sb⟩ := D.put (t' := t) (r' := r / m) (s' := z) D.t0 (div_nn D.r0 m0) D.s0 D.s1
      exact ⟨_, rfl, q _ _ (mod_lt m0).1 (mod_lt m0).2 sb ⟨_, _, _, D2⟩⟩
    · refine ⟨.ref d, rfl, d, .int t, rfl, gA D, _, 1, rfl, rfl, .ref d, rfl, d, _, rfl, pA _ D, ?_⟩
      obtain ⟨D2, sb⟩ := D.put (t' := t + 1) (r' := r) (s' := z) (by have := D.t0; omega) D.r0 D.s0 D.s1
      refine ⟨.ref d, rfl, d, .int (t + 1), rfl, gA D2, .ref d, rfl, d, .ref a, rfl, gN D2, a, ns.map V.int, rfl, .inl D2.seq, _, _, rfl, rfl, _, rfl, ite2 (fun e => ?_) (fun e => ?_)⟩
      · have hlen : t + 1 ≤ ((ns.map V.int).length : Int) := of_decide_eq_true e
        have t0 := D.t0
        have hlt : t.toNat < ns.length := by
          rw [List.length_map] at hlen
          omega
        obtain ⟨x, hx⟩ : ∃ x, ns[t.toNat]? = some x := ⟨ns[t.toNat], List.getElem?_eq_getElem hlt⟩
        have hat : atI (ns.map V.int) t = some (.int x) := by
          have e : t = (t.toNat : Int) := by omega
          rw [e]
          refine atI_nat ?_
          rw [List.getElem?_map, hx]
          rfl
        refine ⟨.ref d, rfl, d, .ref a, rfl, gN D2, .ref d, rfl, d, .int (t + 1), rfl, gA D2, _, 1, rfl, rfl, a, ns.map V.int, _, _, rfl, rfl, D2.seq, (show atI (ns.map V.int) (t + 1 - 1) = some (.int x) by rw [show t + 1 - 1 = t by omega]; exact hat), ?_⟩
        refine ⟨.int x, rfl, .int m, rfl, _, m, rfl, rfl, hm' _, .int x, rfl, 10, 18, rfl, rfl, ⟨by decide, by decide, by decide⟩, _, _, rfl, rfl, .inr ⟨_, rfl, _, _, rfl, rfl, mulK_right ?_ ?_, .ref d, rfl, d, _, rfl, pR _ D2, ?_⟩⟩
        · split <;> decide
        · split <;> decide
        · obtain ⟨D3, sb3⟩ := D2.put (t' := t + 1) (r' := x / m * if decide ((10 : Int) ^ (18 : Int).toNat ≤ x) = true then 1 else 0) (s' := z) D2.t0 (by
            split
            · rename_i h
              have h2 : (10 : Int) ^ (18 : Int).toNat ≤ x := of_decide_eq_true h
              have h3 : (0 : Int) ≤ (10 : Int) ^ (18 : Int).toNat := by decide
              rw [Int.mul_one]
              exact div_nn (Int.le_trans h3 h2) m0
            · rw [Int.mul_zero]
              exact Int.le_refl _) D2.s0 D2.s1
          refine ⟨.int x, rfl, .int m, rfl, _, m, rfl, rfl, m0, ?_⟩
          exact q _ _ (mod_lt m0).1 (mod_lt m0).2 (sb.trans sb3) ⟨_, _, _, D3⟩
      · have s0 := D.s0
        have s1 := D.s1
        refine ⟨.ref d, rfl, d, .int z, rfl, gS D2, _, 48271, rfl, rfl, mulK_left (by omega) (by omega), _, 2147483647, rfl, rfl, (by show (0 : Int) < 2147483647; decide), .ref d, rfl, d, _, rfl, pS _ D2, ?_⟩
        obtain ⟨D3, sb3⟩ := D2.put (t' := t + 1) (r' := r) (s' := z * 48271 % 2147483647) D2.t0 D2.r0 (mod_lt (by decide)).1 (mod_lt (by decide)).2
        have z0 := (mod_lt (i := z * 48271) (m := 2147483647) (by decide)).1
        have z1 := (mod_lt (i := z * 48271) (m := 2147483647) (by decide)).2
        refine ⟨.int m, rfl, 10, 8, rfl, rfl, ⟨by decide, by decide, by decide⟩, _, _, rfl, rfl, _, rfl, ite2 (fun e => ?_) (fun e => ?_)⟩
        · refine ⟨.ref d, rfl, d, _, rfl, gS D3, _, 7, rfl, rfl, CDivK.of (b := 3) (by decide) (by decide) (by decide) (by decide), _, 3, rfl, rfl, ⟨by decide, by decide, by omega⟩, .int m, rfl, _, m, rfl, rfl, m0, ?_⟩
          exact q _ _ (mod_lt m0).1 (mod_lt m0).2 (sb.trans sb3) ⟨_, _, _, D3⟩
        · refine ⟨.ref d, rfl, d, _, rfl, gS D3, _, 7, rfl, rfl, CDivK.of (b := 3) (by decide) (by decide) (by decide) (by decide), .int m, rfl, _, m, rfl, rfl, m0, ?_⟩
          exact q _ _ (mod_lt m0).1 (mod_lt m0).2 (sb.trans sb3) ⟨_, _, _, D3⟩
abbrev s_law_number : Stmt := topS 23
abbrev n_law_number : List Str := ["_law_s", "_law_wide", "_law_number_here"]
abbrev p_law_number : List Str := ["_law_s", "_law_wide"]
theorem sc_law_number : FnScope n_law_number p_law_number (defScope s_law_number) := ⟨rfl, rfl, rfl, by decide +kernel, rfl, by decide +kernel, by decide +kernel⟩
def sp_law_number (K : PySem.W.Frag) : Sp := fun vs H Q _ => ∃ (d a : Addr) (ns : List Int) (m : Int), vs = [.ref d, .int m] ∧ DrS K H d a ns ∧ 0 < m ∧ m < 1000000000 ∧ ∀ (r : Int) H', r.natAbs < 10 ^ 12 → SB (Sd d) H H' → DrS K H' d a ns → Q (.int r) H'
theorem ok_law_number {f : Addr} {fd : FuncData} {k : Nat} (F : Fun K "_law_number" "_law_number" s_law_number f fd) (c_law_taken : Cal P w K mg base k "_law_taken" p_law_taken (sp_law_taken K)) : FnOk P w K mg base CX0 (k + 1) f fd p_law_number (sp_law_number K) := by
  refine F.ok sc_law_number (fun vs H Q E h => ?_) (fun cdv A outer s H vs Q E hr h => ?_)
  · obtain ⟨d, a, ns, m, rfl, _⟩ := h
    rfl
  · obtain ⟨d, a, ns, m, rfl, D, m0, m1, q⟩ := h
    refine ⟨_, (pss_cons (ps_set (i := 2) sc_law_number.nd rfl (.inl rfl) (pe_op op_sub (pe_callC c_law_taken hr (by rfl) (pa_cons (pv 0) (pa_cons (pe_op op_add (pe_op op_mulK pe_int (pv 1)) pe_int) pa_nil))) (pv 1)))
      (pss_cons (ps_if (PW.pt (pw_and (pt_cmpR op_eq (pv 2) (pv 1) (nomark _)) (pw_and1 (pt_cmpR op_eq (pe_callC c_law_taken hr (by rfl) (pa_cons (pv 0) (pa_cons pe_int pa_nil))) pe_int (nomark _)))))
      (pss_one (ps_ret (pe_op op_add (pe_op op_sub (pe_callC c_law_taken hr (by rfl) (pa_cons (pv 0) (pa_cons (pe_op op_sub (pe_op op_mulK pe_int (pe_op op_pow pe_int pe_int)) pe_int) pa_nil))) (pe_op op_pow pe_int pe_int)) pe_int))) pss_nil)
      (pss_one (ps_ret (pv 2))))), ?_⟩
    refine ⟨.ref d, rfl, .int m, rfl, 2, m, rfl, rfl, mulK_left (by decide) (by decide), _, 1, rfl, rfl, d, a, ns, 2 * m + 1, rfl, D, by omega, by omega, fun r1 H1 h0 h1 sb1 D1 => ?_⟩
    refine ⟨.int m, rfl, r1, m, rfl, rfl, ?_⟩
    refine ⟨.int (r1 - m), rfl, .int m, rfl, rfl, _, rfl, ite2 (fun e => ?_) (fun e => ?_)⟩
    · refine ⟨.ref d, rfl, d, a, ns, 4, rfl, D1, by decide, by decide, fun r2 H2 g0 g1 sb2 D2 => ?_⟩
      refine ⟨rfl, _, rfl, ite2 (fun e => ?_) (fun e => ?_)⟩
      · refine ⟨.ref d, rfl, 10, 12, rfl, rfl, ⟨by decide, by decide, by decide⟩, 2, _, rfl, rfl, mulK_left (by decide) (by decide), _, 1, rfl, rfl, d, a, ns, _, rfl, D2, by decide, by decide, fun r3 H3 k0 k1 sb3 D3 => ?_⟩
        refine ⟨10, 12, rfl, rfl, ⟨by decide, by decide, by decide⟩, _, _, rfl, rfl, _, 1, rfl, rfl, ?_⟩
        refine q _ _ ?_ ((sb1.trans sb2).trans sb3) D3
        have k1' : r3 < 2 * 1000000000000 - 1 := k1
        show (r3 - 1000000000000 + 1).natAbs < 1000000000000
        omega
      · exact ⟨_, rfl, q _ _ (by omega) (sb1.trans sb2) D2⟩
    · refine ite2 (fun z => absurd z (by decide)) fun _ => ?_
      exact ⟨_, rfl, q _ _ (by omega) sb1 D1⟩
abbrev s_law_numbers : Stmt := topS 24
abbrev n_law_numbers : List Str := ["_law_s", "_law_many", "_law_wide", "_law_k"]
abbrev p_law_numbers : List Str := ["_law_s", "_law_many", "_law_wide"]
theorem sc_law_numbers : FnScope n_law_numbers p_law_numbers (defScope s_law_numbers) := ⟨rfl, rfl, rfl, by decide +kernel, rfl, by decide +kernel, by decide +kernel⟩
def sp_law_numbers (K : PySem.W.Frag) : Sp := fun vs H Q _ => ∃ (d a : Addr) (ns : List Int) (n m : Int), vs = [.ref d, .int n, .int m] ∧ DrS K H d a ns ∧ 0 ≤ n ∧ n ≤ 1000 ∧ 0 < m ∧ m < 1000000000 ∧ ∀ (xs : List Int) v H', (xs.length : Int) = n → (∀ x ∈ xs, x.natAbs < 10 ^ 12) → SB (Sd d) H H' → DrS K H' d a ns → rTI K H' v xs → Q v H'
theorem ok_law_numbers {f : Addr} {fd : FuncData} {k : Nat} (F : Fun K "_law_numbers" "_law_numbers" s_law_numbers f fd) (c_law_number : Cal P w K mg base k "_law_number" p_law_number (sp_law_number K)) (m_tuple : mg "tuple" = none) (m_range : mg "range" = none) : FnOk P w K mg base CX0 (k + 1) f fd p_law_numbers (sp_law_numbers K) := by
  refine F.ok sc_law_numbers (fun vs H Q E h => ?_) (fun cdv A outer s H vs Q E hr h => ?_)
  · obtain ⟨d, a, ns, n, m, rfl, _⟩ := h
    rfl
  · obtain ⟨d, a, ns, n, m, rfl, D, n0, n1, m0, m1, q⟩ := h
    refine ⟨_, (pss_one (ps_ret (pe_callTy (tuple_ofK (K := K) rfl) (by rfl) m_tuple (by decide +kernel) (pa_cons (pe_lc (own := [("_law_k", 3)]) (g := gName 3) (by rfl) sc_law_numbers.nd (pi_range1 (by rfl) m_range (pa_cons (pv 1) pa_nil)) (blkOk_by (N := n_law_numbers) (sc := defScope s_law_numbers) (own := [("_law_k", 3)]) (by decide +kernel)) (fun _ _ _ _ _ => (pg_name (i := 3) sc_law_numbers.nd rfl (.inl rfl))) (fun _ _ _ _ _ => pts_nil) (fun _ _ _ _ _ => (pe_callC c_law_number hr (by rfl) (pa_cons (pv 0) (pa_cons (pv 2) pa_nil))))) pa_nil)))), ?_⟩
    dsimp only [tRet, tCB, tCons]
    refine tlc_range (S := Sd d) (H := H) (n := n) (fun R r => ⟨.int n, rfl, r⟩) n0 (small1000 (by omega)) (by omega) CH.rI (fun _ x => x.natAbs < 10 ^ 12) mono_I (fun D' hD => D.ne hD) gName_mono (fun H' => DrS K H' d a ns) D (fun H1 H2 h s => h.same s) (fun H1 D' xs h hD hx ys => D.put hD h hx) ?_ ?_ (fun _ h => h)
    · intro i H' QY hi s D' h
      refine ⟨rfl, .ref d, rfl, .int m, rfl, d, a, ns, m, rfl, D', m0, m1, fun r H2 hb sb D2 => ?_⟩
      exact h _ _ r hb sb D2 rfl
    · intro D' Hf us ys hD s Df h p hl hP
      rw [paired_ints p] at h
      refine ⟨D', _, rfl, .inl ⟨.inl (.inl h), fun l hln => ?_⟩⟩
      have sn : SB S0 Hf (upd Hf l (.tup (ys.map V.int))) := SB.new hln
      refine q ys _ _ (by rw [hl]; omega) (fun x hx => ?_) (s.trans sn.any) (Df.same sn) ⟨l, rfl, .inl (.inl upd_same)⟩
      obtain ⟨i, hi⟩ := List.getElem?_of_mem hx
      exact hP i x hi
abbrev s_law_cone_rows : Stmt := topS 29
abbrev n_law_cone_rows : List Str := ["_law_s", "_law_size", "_law_rows", "_law_many", "_law_k", "_law_row", "_law_number_here"]
abbrev p_law_cone_rows : List Str := ["_law_s", "_law_size"]
theorem sc_law_cone_rows : FnScope n_law_cone_rows p_law_cone_rows (defScope s_law_cone_rows) := ⟨rfl, rfl, rfl, by decide +kernel, rfl, by decide +kernel, by decide +kernel⟩
theorem bd_12' {x : Vec} (h : ∀ u ∈ x, u.natAbs < 10 ^ 12) : Bd 40 x := fun u hu => Nat.lt_of_lt_of_le (h u hu) (by decide)
def sp_law_cone_rows (K : PySem.W.Frag) : Sp := fun vs H Q _ => ∃ (d a : Addr) (ns : List Int) (n : Nat), vs = [.ref d, .int n] ∧ DrS K H d a ns ∧ 1 ≤ n ∧ n ≤ 6 ∧
  ∀ R H' rows, H R = none → SB (Sd d) H H' → DrS K H' d a ns → LsT (rTI K) H' R rows → (∀ r ∈ rows, r.length = n ∧ Bd 40 r) → rows.length ≤ 12 → (rows.length ≤ 6 ∨ n ≤ 4) → Q (.ref R) H'
theorem ok_law_cone_rows {f : Addr} {fd : FuncData} {k : Nat} (F : Fun K "_law_cone_rows" "_law_cone_rows" s_law_cone_rows f fd) (c_law_taken : Cal P w K mg base k "_law_taken" p_law_taken (sp_law_taken K)) (c_law_numbers : Cal P w K mg base k "_law_numbers" p_law_numbers (sp_law_numbers K)) (m_int : mg "int" = none) (m_range : mg "range" = none) (m_len : mg "len" = none) (m_tuple : mg "tuple" = none) : FnOk P w K mg base CX0 (k + 1) f fd p_law_cone_rows (sp_law_cone_rows K) := by
  refine F.ok sc_law_cone_rows (fun vs H Q E h => ?_) (fun cdv A outer s H vs Q E hr h => ?_)
  · obtain ⟨d, a, ns, n, rfl, _⟩ := h
    rfl
  · obtain ⟨d, a, ns, n, rfl, D, n1, n6, q⟩ := h
    have hz : n < sizeLine := small1000 (by omega)
    refine ⟨_, (pss_cons (ps_set (i := 2) sc_law_cone_rows.nd rfl (.inl rfl) (pe_lst pa_nil))
      (pss_cons (ps_set (i := 3) sc_law_cone_rows.nd rfl (.inl rfl) (pe_ix (ix_listK (K := K) rfl) (pe_lst (pa_cons (pe_callC c_law_taken hr (by rfl) (pa_cons (pv 0) (pa_cons pe_int pa_nil))) (pa_cons (pe_op op_add pe_int (pe_callC c_law_taken hr (by rfl) (pa_cons (pv 0) (pa_cons pe_int pa_nil)))) pa_nil))) (pe_callTy call_int1 (by rfl) m_int (by decide +kernel) (pa_cons (pe_and (pe_cmpR op_lt (pv 1) pe_int (nomark _)) (pe_one (pe_cmpR op_eq (pe_callC c_law_taken hr (by rfl) (pa_cons (pv 0) (pa_cons pe_int pa_nil))) pe_int (nomark _)))) pa_nil)) (fun _ _ => rfl)))
      (pss_cons (ps_for PassesOwn.never rfl (pi_range1 (by rfl) m_range (pa_cons (pv 3) pa_nil)) (pg_name (i := 4) sc_law_cone_rows.nd rfl (.inl rfl))
      (pss_cons (ps_set (i := 5) sc_law_cone_rows.nd rfl (.inl rfl) (pe_callC c_law_numbers hr (by rfl) (pa_cons (pv 0) (pa_cons (pv 1) (pa_cons pe_int pa_nil)))))
      (pss_cons (ps_if (PW.pt (pw_and (pt_cmpR op_gt (pe_callB (len_ofK (K := K) rfl) (by rfl) m_len PySem.boot_len (pa_cons (pv 2) pa_nil)) pe_int (nomark _)) (pw_and1 (pt_cmpR op_eq (pe_callC c_law_taken hr (by rfl) (pa_cons (pv 0) (pa_cons pe_int pa_nil))) pe_int (nomark _)))))
      (pss_one (ps_set (i := 5) sc_law_cone_rows.nd rfl (.inl rfl) (pe_callTy (tuple_ofK (K := K) rfl) (by rfl) m_tuple (by decide +kernel) (pa_cons (pe_lc (own := [("_law_number_here", 6)]) (g := gName 6) (by rfl) sc_law_cone_rows.nd (pi_seqK (K := K) rfl (pe_ix (ix_listK (K := K) rfl) (pv 2) (pe_un un_neg pe_int) (fun _ _ => rfl))) (blkOk_by (N := n_law_cone_rows) (sc := defScope s_law_cone_rows) (own := [("_law_number_here", 6)]) (by decide +kernel)) (fun _ _ _ _ _ => (pg_name (i := 6) sc_law_cone_rows.nd rfl (.inl rfl))) (fun _ _ _ _ _ => pts_nil) (fun _ _ _ _ _ => (pe_op op_sub pe_int (pv 6)))) pa_nil)))) pss_nil)
      (pss_one (ps_expr (pe_bm PySem.F.plainAttrs_list PySem.F.slot_list_append PySem.F.type_list_append mt_append (pv 2) (pa_cons (pv 5) pa_nil)))))))
      (pss_one (ps_ret (pv 2)))))), ?_⟩
    refine ⟨Nat.zero_le _, fun R hR => ?_⟩
    have sR : SB S0 H (upd H R (.lst [])) := SB.new hR
    have DR : DrS K (upd H R (.lst [])) d a ns := D.same sR
    have RlR : (upd H R (.lst [])) R = some (.lst []) := upd_same
    -- how many
    dsimp only [gName]
    refine seqcut (fun σ H' => ∃ k : Nat, σ = [some (.ref d), some (.int n), some (.ref R), some (.int k), none, none, none] ∧ k ≤ 12 ∧ (k ≤ 6 ∨ n ≤ 4) ∧ SB (Sd d) H H' ∧ DrS K H' d a ns ∧ H' R = some (.lst [])) (fun U hU => ?_) (fun σ H3 hM => ?_)
    · refine ⟨.ref d, rfl, d, a, ns, 7, rfl, DR, by decide, by decide, fun r1 H1 a0 a1 sb1 D1 => ?_⟩
      refine ⟨.ref d, rfl, d, a, ns, 4, rfl, D1, by decide, by decide, fun r2 H2 b0 b1 sb2 D2 => ?_⟩
      refine ⟨9, r2, rfl, rfl, by show 2 ≤ sizeLine; decide, fun T hT => ?_⟩
      have R2 : H2 R = some (.lst []) := sb2.2 _ _ (D1.ned (sb1.2 _ _ (DR.ned RlR) RlR)) (sb1.2 _ _ (DR.ned RlR) RlR)
      have sT : SB S0 H2 (upd H2 T (.lst [.int r1, .int (9 + r2)])) := SB.new hT
      have DT := D2.same sT
      have sHT : SB (Sd d) H (upd H2 T (.lst [.int r1, .int (9 + r2)])) := ((sR.any.trans sb1).trans sb2).trans sT.any
      have RT := sT.2 _ _ (fun z => z) R2
      have Tl : (upd H2 T (.lst [.int r1, .int (9 + r2)])) T = some (.lst [.int r1, .int (9 + r2)]) := upd_same
      generalize upd H2 T (.lst [.int r1, .int (9 + r2)]) = HT at *
      refine ⟨.int n, rfl, _, 5, rfl, rfl, _, rfl, ite2 (fun e => ?_) (fun e => ?_)⟩
      · have e5 : (n : Int) < 5 := of_decide_eq_true e
        refine ⟨.ref d, rfl, d, a, ns, 6, rfl, DT, by decide, by decide, fun r3 H4 c0 c1 sb4 D4 => ?_⟩
        have T4 : H4 T = some (.lst [.int r1, .int (9 + r2)]) := sb4.2 _ _ (DT.ned Tl) Tl
        have R4 : H4 R = some (.lst []) := sb4.2 _ _ (DT.ned RT) RT
        refine ⟨rfl, .inr ⟨_, rfl, T, [.int r1, .int (9 + r2)], (if decide (V.int r3 = V.int 5) = true then 1 else 0), ?_⟩⟩
        by_cases h3 : r3 = 5
        · subst h3
          refine ⟨.int (9 + r2), rfl, rfl, SqL.of T4, by rfl, hU _ _ ⟨(9 + r2).toNat, ?_, by omega, .inr (by omega), sHT.trans sb4, D4, R4⟩⟩
          rw [show (((9 + r2).toNat : Nat) : Int) = 9 + r2 by omega]
          rfl
        · have hd : decide (V.int r3 = V.int 5) = false := decide_eq_false fun z => h3 (V.int.inj z)
          refine ⟨.int r1, rfl, rfl, SqL.of T4, by rw [hd]; rfl, hU _ _ ⟨r1.toNat, ?_, by omega, .inl (by omega), sHT.trans sb4, D4, R4⟩⟩
          rw [show ((r1.toNat : Nat) : Int) = r1 by omega]
          rfl
      · refine .inr ⟨false, rfl, T, _, _, .int r1, rfl, rfl, SqL.of Tl, by rfl, hU _ _ ⟨r1.toNat, ?_, by omega, .inl (by omega), sHT, DT, RT⟩⟩
        rw [show ((r1.toNat : Nat) : Int) = r1 by omega]
        rfl
    · obtain ⟨k, rfl, k12, k6, s3, D3, R3⟩ := hM
      refine tSeq_i (tfor_walk (S := fun b => b = d ∨ b = R) (H := H3) (wi_rng (n := (k : Int)) (fun R r => ⟨.int k, rfl, r⟩) (by omega) (by omega)) walks_range (fun i σ H' => ∃ y4 y5 us rows, σ = [some (.ref d), some (.int n), some (.ref R), some (.int k), y4, y5, none] ∧ SB (fun b => b = d ∨ b = R) H3 H' ∧ DrS K H' d a ns ∧ H' R = some (.lst us) ∧ Paired (rTI K H') us rows ∧ rows.length = i ∧ ∀ x ∈ rows, x.length = n ∧ Bd 40 x) ⟨none, none, [], [], rfl, SB.refl _, D3, R3, .nil, rfl, fun _ h => nomatch h⟩ (fun i σ H' _ ⟨_, _, _, _, _, s, _⟩ => s) ?_ ?_)
      · rintro i x σ H4 H5 hi ⟨y4, y5, us, rows, rfl, s4, D4, R4, p4, l4, b4⟩ s5 rfl
        rw [Int.toNat_natCast] at hi
        have D5 := D4.same s5
        have R5 := s5.2 _ _ (fun z => z) R4
        have lus : us.length = rows.length := Paired.length p4
        refine ⟨.ref d, rfl, .int n, rfl, d, a, ns, n, 3, rfl, D5, by omega, by omega, by decide, by decide, fun xs v H6 hl hb sb6 D6 hv => ?_⟩
        have R6 : H6 R = some (.lst us) := sb6.2 _ _ (D5.ned R5) R5
        have p6 : Paired (rTI K H6) us rows := pairs_keep mono_TI (s5.1.trans sb6.1) p4
        have s46 : SB (fun b => b = d ∨ b = R) H3 H6 := (s4.trans s5.any).trans (sb6.mono fun _ h => .inl h)
        have lx : xs.length = n := by omega
        dsimp only [gName]
        refine seqcut (fun σ H' => ∃ y4 v x, σ = [some (.ref d), some (.int n), some (.ref R), some (.int k), y4, some v, none] ∧ SB (fun b => b = d ∨ b = R) H3 H' ∧ DrS K H' d a ns ∧ H' R = some (.lst us) ∧ Paired (rTI K H') us rows ∧ rTI K H' v x ∧ x.length = n ∧ Bd 40 x) (fun U hU => ?_) (fun σ H7 hM => ?_)
        · refine ⟨.ref R, rfl, R, us, rfl, .inl (SqL.of R6), _, 0, rfl, rfl, _, rfl, ite2 (fun e => ?_) (fun e => ?_)⟩
          · have h1 : (0 : Int) < us.length := of_decide_eq_true e
            refine ⟨.ref d, rfl, d, a, ns, 5, rfl, D6, by decide, by decide, fun t H7 t0 t1 sb7 D7 => ?_⟩
            have R7 : H7 R = some (.lst us) := sb7.2 _ _ (D6.ned R6) R6
            have p7 : Paired (rTI K H7) us rows := pairs_keep mono_TI sb7.1 p6
            have s47 : SB (fun b => b = d ∨ b = R) H3 H7 := s46.trans (sb7.mono fun _ h => .inl h)
            refine ⟨rfl, _, rfl, ite2 (fun e => ?_) (fun e => ?_)⟩
            · obtain ⟨z1, e1⟩ : ∃ z, rows[rows.length - 1]? = some z := ⟨_, List.getElem?_eq_getElem (by omega)⟩
              obtain ⟨u1, f1, a1, rfl, h1'⟩ := Paired.get2 p7 e1
              obtain ⟨l1, b1⟩ := b4 z1 (List.mem_of_getElem? e1)
              have g1 : atI us (-1) = some (.ref a1) := atI_neg1 (by rw [lus]; exact f1) (by omega)
              refine tAsg_i (tCB_i (tCons_i (tlc_map (S := S0) (H := H7) (a := a1) (xs := z1.map V.int) (fun R' r' => ⟨.ref R, rfl, 1, rfl, R, us, _, _, rfl, rfl, SqL.of R7, g1, r'⟩) (.inr h1') (fun z => z) (by rw [List.length_map, l1]; exact hz) CH.rI (neg z1) (by rw [List.length_map, neg_length]) mono_I (fun _ _ z => z) ?_ gName_mono ?_)))
              · intro j t y H' QY hx hy s h
                obtain ⟨m, hm, rfl⟩ := ints_get hx
                unfold neg at hy
                rw [List.getElem?_map, hm] at hy
                cases hy
                refine ⟨rfl, .int m, rfl, 0, m, rfl, rfl, h _ _ (SB.refl _) ?_⟩
                show V.int (0 - m) = V.int (-m)
                congr 1
                omega
              · intro D8 H8 vs8 hD8 s8 hD8l p8
                rw [paired_ints p8] at hD8l
                refine ⟨D8, _, rfl, .inl ⟨SqL.of hD8l, fun l hln => ?_⟩⟩
                have sn : SB S0 H7 (upd H8 l (.tup ((neg z1).map V.int))) := s8.trans (SB.new hln)
                exact hU _ _ ⟨_, .ref l, neg z1, rfl, s47.trans sn.any, D7.same sn, sn.2 _ _ (fun z => z) R7, pairs_keep mono_TI sn.1 p7, ⟨l, rfl, .inl (.inl upd_same)⟩, by rw [neg_length]; exact l1, b1.neg⟩
            · exact hU _ _ ⟨_, v, xs, rfl, s47, D7, R7, p7, mono_TI _ _ _ _ sb7.1 hv, lx, bd_12' hb⟩
          · refine ite2 (fun z => absurd z (by decide)) fun _ => ?_
            exact hU _ _ ⟨_, v, xs, rfl, s46, D6, R6, p6, hv, lx, bd_12' hb⟩
        · obtain ⟨y4', v, x, rfl, s7, D7, R7, p7, hv7, lx7, bx7⟩ := hM
          refine ⟨.ref R, rfl, .inl ⟨rfl, _, SqL.of R7⟩, v, rfl, R, us, v, rfl, rfl, R7, small1000 (by omega), ?_⟩
          have sp : SB (fun b => b = d ∨ b = R) H7 (upd H7 R (.lst (us ++ [v]))) := SB.put R7 (.inl ⟨_, rfl⟩) (.inr rfl)
          refine ⟨_, _, us ++ [v], rows ++ [x], rfl, s7.trans sp, D.put hR D7 R7, upd_same, Paired.app (pairs_keep mono_TI sp.1 p7) (.cons (mono_TI _ _ _ _ sp.1 hv7) .nil), by rw [List.length_append, List.length_singleton, l4], fun w hw => ?_⟩
          rcases List.mem_append.mp hw with z | z
          · exact b4 w z
          · rw [List.mem_singleton.mp z]
            exact ⟨lx7, bx7⟩
      · rintro σ H4 ⟨y4, y5, us, rows, rfl, s4, D4, R4, p4, l4, b4⟩
        rw [Int.toNat_natCast] at l4
        refine ⟨.ref R, rfl, q R H4 rows hR ?_ D4 ⟨us, R4, p4⟩ b4 (by omega) (by omega)⟩
        have : SB (fun b => b = d ∨ b = R) H H4 := (s3.mono fun _ h => .inl h).trans s4
        exact this.less fun b hb => by
          rcases hb with z | z
          · exact .inl z
          · rw [z]; exact .inr hR
abbrev s_unit : Stmt := topS 11
abbrev n_unit : List Str := ["size", "place", "spot"]
abbrev p_unit : List Str := ["size", "place"]
theorem sc_unit : FnScope n_unit p_unit (defScope s_unit) := ⟨rfl, rfl, rfl, by decide +kernel, rfl, by decide +kernel, by decide +kernel⟩
def sp_unit (K : PySem.W.Frag) : Sp := fun vs H Q _ => ∃ n p : Nat, vs = [.int n, .int p] ∧ n ≤ 1000 ∧ ∀ u H', SB S0 H H' → rTI K H' u (unitv n p) → Q u H'
theorem ok_unit {f : Addr} {fd : FuncData} {k : Nat} (F : Fun K "unit" "unit" s_unit f fd) (m_tuple : mg "tuple" = none) (m_range : mg "range" = none) : FnOk P w K mg base CX0 (k + 1) f fd p_unit (sp_unit K) := by
  refine F.ok sc_unit (fun vs H Q E h => ?_) (fun cdv A outer s H vs Q E hr h => ?_)
  · obtain ⟨n, p, rfl, _⟩ := h
    rfl
  · obtain ⟨n, p, rfl, hn, q⟩ := h
    refine ⟨_, (pss_one (ps_ret (pe_callTy (tuple_ofK (K := K) rfl) (by rfl) m_tuple (by decide +kernel) (pa_cons (pe_lc (own := [("spot", 2)]) (g := gName 2) (by rfl) sc_unit.nd (pi_range1 (by rfl) m_range (pa_cons (pv 0) pa_nil)) (blkOk_by (N := n_unit) (sc := defScope s_unit) (own := [("spot", 2)]) (by decide +kernel)) (fun _ _ _ _ _ => (pg_name (i := 2) sc_unit.nd rfl (.inl rfl))) (fun _ _ _ _ _ => pts_nil) (fun _ _ _ _ _ => (pe_ifExp (pt_cmpR op_eq (pv 2) (pv 1) (nomark _)) pe_int pe_int))) pa_nil)))), ?_⟩
    refine tRet_i (tCB_i (tCons_i (tlc_walk (S := S0) (H := H) (wi_rng (n := (n : Int)) (fun R r => ⟨.int n, rfl, r⟩) (by omega) (by omega)) (fun _ _ => walks_range) (by rw [Int.toNat_natCast]; exact small1000 hn) (fun _ => CH.rI) (fun i => (unitv n p)[i]?) (fun _ _ _ _ _ _ _ h => h) (fun _ _ z => z) ?_ ?_)))
    · rintro D j x H' QY QN hD hj sb _ rfl hY hN
      rw [Int.toNat_natCast] at hj
      have e0 : ((0 : Int) + (j : Int)) = (j : Int) := by omega
      rw [e0]
      have ej : (unitv n p)[j]? = some (if j = p then 1 else 0) := by
        unfold unitv
        rw [List.getElem?_map, List.getElem?_range hj]
        rfl
      refine ⟨rfl, tyes ?_⟩
      refine ⟨.int j, rfl, .int p, rfl, rfl, _, rfl, ite2 (fun e => ?_) (fun e => ?_)⟩
      · have e1 : j = p := by
          have := V.int.inj (of_decide_eq_true e)
          omega
        exact hY _ _ 1 (by rw [ej, if_pos e1]) (SB.refl _) rfl
      · have e1 : ¬ j = p := fun z => e (decide_eq_true (by rw [z]))
        exact hY _ _ 0 (by rw [ej, if_neg e1]) (SB.refl _) rfl
    · intro D Hf us hD sb h p'
      have er := range_get (unitv n p)
      rw [unitv_length] at er
      rw [Int.toNat_natCast, er] at p'
      rw [paired_ints p'] at h
      exact ⟨D, _, rfl, .inl ⟨SqL.of h, fun l hl => q _ _ (sb.trans (SB.new hl)) ⟨l, rfl, .inl (.inl upd_same)⟩⟩⟩
abbrev s_product : Stmt := topS 3
abbrev n_product : List Str := ["one", "other", "here", "there"]
abbrev p_product : List Str := ["one", "other"]
theorem sc_product : FnScope n_product p_product (defScope s_product) := ⟨rfl, rfl, rfl, by decide +kernel, rfl, by decide +kernel, by decide +kernel⟩
def sp_product (K : PySem.W.Frag) : Sp := fun vs H Q _ => ∃ (v w : V) (x y : Vec) (c : Nat), vs = [v, w] ∧ rTI K H v x ∧ rTI K H w y ∧ x.length = y.length ∧ x.length ≤ 1000 ∧ Bd c x ∧ Bd c y ∧ c ≤ 33554432 ∧ ∀ H', SB S0 H H' → Q (.int (dot x y)) H'
theorem ok_product {f : Addr} {fd : FuncData} {k : Nat} (F : Fun K "product" "product" s_product f fd) (m_sum : mg "sum" = none) (m_zip : mg "zip" = none) : FnOk P w K mg base CX0 (k + 1) f fd p_product (sp_product K) := by
  refine F.ok sc_product (fun vs H Q E h => ?_) (fun cdv A outer s H vs Q E hr h => ?_)
  · obtain ⟨v, w, x, y, c, rfl, _⟩ := h
    rfl
  · obtain ⟨v, w, x, y, c, rfl, ⟨p, rfl, hp⟩, ⟨r, rfl, hr'⟩, hl, h1000, bx, bY, hc, q⟩ := h
    refine ⟨_, (pss_one (ps_ret (pe_callB (sum_ofK (K := K) rfl rfl) (by rfl) m_sum (by decide +kernel) (pa_cons (pe_lc (own := [("here", 2), ("there", 3)]) (g := gTup K 2 (gCons (gName 2) (gCons (gName 3) gNil))) (by rfl) sc_product.nd (RZ.pi_zipA (by rfl) m_zip (pa_cons (pv 0) (pa_cons (pv 1) pa_nil))) (blkOk_by (N := n_product) (sc := defScope s_product) (own := [("here", 2), ("there", 3)]) (by decide +kernel)) (fun _ _ _ _ _ => (pg_tup rfl (pgs_cons (pg_name (i := 2) sc_product.nd rfl (.inl rfl)) (pgs_cons (pg_name (i := 3) sc_product.nd rfl (.inl rfl)) pgs_nil)))) (fun _ _ _ _ _ => pts_nil) (fun _ _ _ _ _ => (pe_op op_mulK (pv 2) (pv 3)))) pa_nil)))), ?_⟩
    have lz : (List.zipWith (· * ·) x y).length = x.length := by rw [List.length_zipWith, ← hl, Nat.min_self]
    refine tRet_i (tCB_i (tCons_i (tlc_walk (S := S0) (H := H) (n := x.length) (wi_zipT (fun R r => ⟨.ref p, rfl, .ref _, rfl, r⟩) hp hr') (fun D hD => by
      have := walks_zipT (S := fun b => S0 b ∨ b = D) hp hr' (by rw [List.length_map, List.length_map, hl])
      rw [List.length_map] at this
      exact this) (small1000 h1000) (fun _ => CH.rI) (fun i => (List.zipWith (· * ·) x y)[i]?) (fun _ _ _ _ _ _ _ h => h) (fun _ _ z => z) ?_ ?_)))
    · rintro D i t H' QY QN hD hi sb _ ⟨T, u1, u2, rfl, hT, h1, h2⟩ hY hN
      obtain ⟨n1, e1, rfl⟩ := ints_get h1
      obtain ⟨n2, e2, rfl⟩ := ints_get h2
      refine ⟨T, [.int n1, .int n2], rfl, hT, rfl, .int n1, [.int n2], rfl, .int n2, [], rfl, rfl, rfl, tyes ?_⟩
      refine ⟨.int n1, rfl, .int n2, rfl, n1, n2, rfl, rfl, mulK_bits (bx _ (List.mem_of_getElem? e1)) (bY _ (List.mem_of_getElem? e2)) (by omega), ?_⟩
      refine hY _ _ (n1 * n2) ?_ (SB.refl _) rfl
      show (List.zipWith _ x y)[i]? = _
      rw [List.getElem?_zipWith, e1, e2]
    · intro D Hf us hD sb h p'
      rw [← lz, range_get] at p'
      rw [paired_ints p'] at h
      refine ⟨D, _, rfl, SqL.of h, ?_⟩
      rw [dot_sum]
      exact q Hf sb
abbrev s_crossing : Stmt := topS 12
abbrev n_crossing : List Str := ["lines", "row", "place", "line"]
abbrev p_crossing : List Str := ["lines", "row"]
theorem sc_crossing : FnScope n_crossing p_crossing (defScope s_crossing) := ⟨rfl, rfl, rfl, by decide +kernel, rfl, by decide +kernel, by decide +kernel⟩
def sp_crossing (K : PySem.W.Frag) : Sp := fun vs H Q _ => ∃ (a : Addr) (w : V) (lines : List Vec) (row : Vec) (n b : Nat), vs = [.ref a, w] ∧ LsR K (rTI K) H a lines ∧ rTI K H w row ∧ (∀ l ∈ lines, l.length = n ∧ Bd b l) ∧ row.length = n ∧ n ≤ 1000 ∧ Bd b row ∧ b ≤ 33554432 ∧
  ∀ H', SB S0 H H' → (crossP lines row = none → Q .non H') ∧ ∀ p, crossP lines row = some p → Q (.int p) H'
theorem ok_crossing {f : Addr} {fd : FuncData} {k : Nat} (F : Fun K "crossing" "crossing" s_crossing f fd) (c_product : Cal P w K mg base k "product" p_product (sp_product K)) (m_enumerate : mg "enumerate" = none) : FnOk P w K mg base CX0 (k + 1) f fd p_crossing (sp_crossing K) := by
  refine F.ok sc_crossing (fun vs H Q E h => ?_) (fun cdv A outer s H vs Q E hr h => ?_)
  · obtain ⟨a, w, lines, row, n, b, rfl, _⟩ := h
    rfl
  · obtain ⟨a, w, lines, row, n, b, rfl, ⟨us, ha, pu⟩, hw, hl, lr, hn, br, hb, q⟩ := h
    have lu : us.length = lines.length := Paired.length pu
    refine ⟨_, (pss_cons (ps_for PassesOwn.never rfl (pi_enumS (by rfl) m_enumerate (pa_cons (pv 0) pa_nil)) (pg_tup rfl (pgs_cons (pg_name (i := 2) sc_crossing.nd rfl (.inl rfl)) (pgs_cons (pg_name (i := 3) sc_crossing.nd rfl (.inl rfl)) pgs_nil)))
      (pss_one (ps_if (pt_cmpR op_ne (pe_callC c_product hr (by rfl) (pa_cons (pv 3) (pa_cons (pv 1) pa_nil))) pe_int (nomark _))
      (pss_one (ps_ret (pv 2))) pss_nil)))
      (pss_one (ps_ret pe_non))), ?_⟩
    refine tfor_walk (S := S0) (H := H) (wi_enL (fun R r => ⟨.ref a, rfl, r⟩) ha) (walks_enL (fun z => z) ha) (fun i σ H' => ∃ y2 y3, σ = [some (.ref a), some w, y2, y3] ∧ SB S0 H H' ∧ ∀ l ∈ lines.take i, dot l row = 0) ⟨none, none, rfl, SB.refl _, fun l hl => by rw [List.take_zero] at hl; exact nomatch hl⟩ (fun i σ H' _ ⟨_, _, _, s, _⟩ => s) ?_ ?_
    · rintro i t σ H1 H' hi ⟨y2, y3, rfl, s1, hz⟩ s2 ⟨T, u, rfl, hT, hu⟩
      obtain ⟨l, el, hl1⟩ := Paired.get pu hu
      have ml : l ∈ lines := List.mem_of_getElem? el
      have s12 := s1.trans s2
      refine ⟨T, [.int (i : Nat), u], rfl, hT, rfl, .int (i : Nat), [u], rfl, u, [], rfl, rfl, ?_⟩
      refine ⟨u, rfl, w, rfl, u, w, l, row, b, rfl, mono_TI _ _ _ _ s12.1 hl1, mono_TI _ _ _ _ s12.1 hw, by rw [(hl l ml).1, lr], by rw [(hl l ml).1]; exact hn, (hl l ml).2, br, hb, fun H2 s3 => ?_⟩
      have s13 := s12.trans s3
      refine ⟨rfl, _, rfl, ite2 (fun e => ?_) (fun e => ?_)⟩
      · rw [ne_dec] at e
        refine ⟨.int (i : Nat), rfl, (q H2 s13).2 i ?_⟩
        unfold crossP
        rw [List.findIdx?_eq_some_iff_getElem]
        have hlt : i < lines.length := by omega
        have eg : lines[i] = l := by
          rw [List.getElem?_eq_getElem hlt] at el
          exact Option.some.inj el
        refine ⟨hlt, by rw [eg]; exact e, fun j hj => ?_⟩
        have := hz lines[j] (List.mem_of_getElem? (i := j) (by rw [List.getElem?_take, if_pos hj, List.getElem?_eq_getElem]))
        simp [this]
      · rw [ne_dec] at e
        have e0 : dot l row = 0 := by simpa using e
        refine ⟨_, _, rfl, s13, fun x hx => ?_⟩
        rw [List.take_add_one, el, Option.toList_some] at hx
        rcases List.mem_append.mp hx with z | z
        · exact hz x z
        · rw [List.mem_singleton.mp z]; exact e0
    · rintro σ H' ⟨y2, y3, rfl, s1, hz⟩
      refine (q H' s1).1 ?_
      unfold crossP
      rw [List.findIdx?_eq_none_iff]
      intro l hl'
      have := hz l (by rw [lu, List.take_length]; exact hl')
      simp [this]
abbrev s_bits : Stmt := topS 15
abbrev n_bits : List Str := ["mask"]
abbrev p_bits : List Str := ["mask"]
theorem sc_bits : FnScope n_bits p_bits (defScope s_bits) := ⟨rfl, rfl, rfl, by decide +kernel, rfl, by decide +kernel, by decide +kernel⟩
def sp_bits (K : PySem.W.Frag) : Sp := fun vs H Q _ => ∃ (m : Nat), vs = [.int m] ∧ (bText m).length ≤ sizeLine ∧ Q (.int (ones m : Nat)) H
theorem ok_bits {f : Addr} {fd : FuncData} {k : Nat} (F : Fun K "bits" "bits" s_bits f fd) : FnOk P w K mg base CX0 (k + 1) f fd p_bits (sp_bits K) := by
  refine F.ok sc_bits (fun vs H Q E h => ?_) (fun cdv A outer s H vs Q E hr h => ?_)
  · obtain ⟨m, rfl, _⟩ := h
    rfl
  · obtain ⟨m, rfl, hz, q⟩ := h
    refine ⟨_, (pss_one (ps_ret (pe_m1 PySem.F.slot_str_count PySem.F.type_str_count mt_count (pe_joined1 (pe_fmtB (pv 0) (pe_joined1 pe_str))) pe_str))), ?_⟩
    refine ⟨.int m, rfl, m, rfl, hz, ?_⟩
    refine ⟨⟨_, rfl⟩, _, _, rfl, rfl, ?_⟩
    rw [count_ones]
    exact q
abbrev s_are_neighbours : Stmt := topS 16
abbrev n_are_neighbours : List Str := ["mask", "other", "masks", "fewest", "shared", "found", "held"]
abbrev p_are_neighbours : List Str := ["mask", "other", "masks", "fewest"]
theorem sc_are_neighbours : FnScope n_are_neighbours p_are_neighbours (defScope s_are_neighbours) := ⟨rfl, rfl, rfl, by decide +kernel, rfl, by decide +kernel, by decide +kernel⟩
def sp_are_neighbours (K : PySem.W.Frag) : Sp := fun vs H Q _ => ∃ (m o f : Int) (a : Addr) (ms : List Int) (k : Nat), vs = [.int m, .int o, .ref a, .int f] ∧ NbOk k f ms m o ∧ SqL K H a (ms.map V.int) ∧ ∀ H', SB S0 H H' → Q (.bl (nbs m o ms)) H'
theorem ok_are_neighbours {f : Addr} {fd : FuncData} {k : Nat} (F : Fun K "are_neighbours" "are_neighbours" s_are_neighbours f fd) (c_bits : Cal P w K mg base k "bits" p_bits (sp_bits K)) : FnOk P w K mg base CX0 (k + 1) f fd p_are_neighbours (sp_are_neighbours K) := by
  refine F.ok sc_are_neighbours (fun vs H Q E h => ?_) (fun cdv A outer s H vs Q E hr h => ?_)
  · obtain ⟨m, o, f, a, ms, k, rfl, _⟩ := h
    rfl
  · obtain ⟨m, o, f, a, ms, k, rfl, ⟨na, nb', ema, emb, lna, hk6, hfew⟩, ha, q⟩ := h
    refine ⟨_, (pss_cons (ps_set (i := 4) sc_are_neighbours.nd rfl (.inl rfl) (pe_op op_and (pv 0) (pv 1)))
      (pss_cons (ps_if (pt_cmpR op_lt (pe_callC c_bits hr (by rfl) (pa_cons (pv 4) pa_nil)) (pv 3) (nomark _))
      (pss_one (ps_ret pe_bl)) pss_nil)
      (pss_cons (ps_set (i := 5) sc_are_neighbours.nd rfl (.inl rfl) pe_int)
      (pss_cons (ps_for PassesOwn.never rfl (pi_seqK (K := K) rfl (pv 2)) (pg_name (i := 6) sc_are_neighbours.nd rfl (.inl rfl))
      (pss_one (ps_if (pt_cmpR op_eq (pe_op op_and (pv 6) (pv 4)) (pv 4) (nomark _))
      (pss_cons (ps_aug (i := 5) sc_are_neighbours.nd rfl (.inl rfl) pe_int ip_add)
      (pss_one (ps_if (pt_cmpR op_gt (pv 5) pe_int (nomark _))
      (pss_one (ps_ret pe_bl)) pss_nil))) pss_nil)))
      (pss_one (ps_ret pe_bl)))))), ?_⟩
    refine ⟨.int m, rfl, .int o, rfl, m, o, rfl, rfl, ?_⟩
    have ebn : band m o = ((na &&& nb' : Nat) : Int) := by rw [ema, emb, band_nat]
    have hzz : (bText (na &&& nb')).length ≤ sizeLine := by
      have h1 := bdigs_len k (na &&& nb') (and_lt lna)
      have h2 : (bText (na &&& nb')).length = (bdigs (na &&& nb')).length := by simp [bText, Str.length]
      have h3 : sizeLine = 16777216 := by decide
      omega
    refine ⟨.int (band m o), rfl, na &&& nb', by rw [ebn]; rfl, hzz, .int f, rfl, _, _, rfl, rfl, _, rfl, ite2 (fun e => ?_) (fun e => ?_)⟩
    · have lt : ((ones (na &&& nb') : Nat) : Int) < f := of_decide_eq_true e
      have nb : nbs m o ms = false := by
        cases hnb : nbs m o ms with
        | false => rfl
        | true => have := hfew hnb; omega
      rw [nb] at q
      exact q _ (SB.refl _)
    clear e
    dsimp only [gName, tSeq, tAsg, tC]
    have cnt : ∀ i h, ms[i]? = some h → ((ms.take (i + 1)).filter fun h => decide (band h (band m o) = band m o)).length = ((ms.take i).filter fun h => decide (band h (band m o) = band m o)).length + (if decide (band h (band m o) = band m o) = true then 1 else 0) := fun i h e => by
      rw [List.take_add_one, e, Option.toList_some, List.filter_append, List.length_append]
      congr 1
      by_cases hh : band h (band m o) = band m o
      · simp [hh]
      · simp [hh]
    refine tfor_walk (S := S0) (H := H) (wi_list (tVar_at rfl) ha) (walks_list (fun z => z) ha) (fun i σ H' => ∃ (y5 : Option V) (c : Nat), σ = [some (.int m), some (.int o), some (.ref a), some (.int f), some (.int (band m o)), some (.int c), y5] ∧ SB S0 H H' ∧ c = ((ms.take i).filter fun h => decide (band h (band m o) = band m o)).length ∧ c ≤ 2) ⟨none, 0, rfl, SB.refl _, by rw [List.take_zero]; rfl, by decide⟩ (fun i σ H' _ ⟨_, _, _, e, _⟩ => e) ?_ ?_
    · rintro i x σ H1 H' hi ⟨y5, c, rfl, s1, ec, c2⟩ s2 hx
      obtain ⟨h, eh, rfl⟩ := ints_get hx
      have hc := cnt i h eh
      refine ⟨.int h, rfl, .int (band m o), rfl, h, band m o, rfl, rfl, .int (band m o), rfl, rfl, _, rfl, ite2 (fun e => ?_) (fun e => ?_)⟩
      · have e1 : band h (band m o) = band m o := V.int.inj (of_decide_eq_true e)
        rw [if_pos (decide_eq_true e1)] at hc
        refine ⟨_, rfl, c, 1, rfl, rfl, ?_⟩
        refine ⟨_, rfl, _, 2, rfl, rfl, _, rfl, ite2 (fun e2 => ?_) (fun e2 => ?_)⟩
        · have e3 : (2 : Int) < c + 1 := of_decide_eq_true e2
          have nb : nbs m o ms = false := by
            unfold nbs
            refine decide_eq_false fun hle => ?_
            have hs : ((ms.take (i + 1)).filter fun h => decide (band h (band m o) = band m o)).Sublist (ms.filter fun h => decide (band h (band m o) = band m o)) := (List.take_sublist _ _).filter _
            have := hs.length_le
            omega
          rw [nb] at q
          exact q _ (s1.trans s2)
        · have e3 : ¬ (2 : Int) < c + 1 := fun z => e2 (decide_eq_true z)
          exact ⟨_, c + 1, rfl, s1.trans s2, by rw [hc, ec], by omega⟩
      · have e1 : ¬ band h (band m o) = band m o := fun z => e (decide_eq_true (congrArg V.int z))
        rw [if_neg (fun z => e1 (of_decide_eq_true z))] at hc
        exact ⟨_, c, rfl, s1.trans s2, by rw [hc, ec]; rfl, c2⟩
    · rintro σ H' ⟨y5, c, rfl, s1, ec, c2⟩
      rw [show ms.take (ms.map V.int).length = ms by rw [List.length_map, List.take_length]] at ec
      have nb : nbs m o ms = true := by
        unfold nbs
        exact decide_eq_true (by rw [← ec]; exact c2)
      rw [nb] at q
      exact q _ s1
abbrev s_common_divisor : Stmt := topS 1
abbrev n_common_divisor : List Str := ["numbers", "found", "number", "other"]
abbrev p_common_divisor : List Str := ["numbers"]
theorem sc_common_divisor : FnScope n_common_divisor p_common_divisor (defScope s_common_divisor) := ⟨rfl, rfl, rfl, by decide +kernel, rfl, by decide +kernel, by decide +kernel⟩
def sp_common_divisor (K : PySem.W.Frag) : Sp := fun vs H Q _ => ∃ (a : Addr) (xs : List Int), vs = [.ref a] ∧ SqA K H a (xs.map V.int) ∧ Q (.int (gl xs)) H
theorem ok_common_divisor {f : Addr} {fd : FuncData} {k : Nat} (F : Fun K "common_divisor" "common_divisor" s_common_divisor f fd) (m_abs : mg "abs" = none) : FnOk P w K mg base CX0 (k + 1) f fd p_common_divisor (sp_common_divisor K) := by
  refine F.ok sc_common_divisor (fun vs H Q E h => ?_) (fun cdv A outer s H vs Q E hr h => ?_)
  · obtain ⟨a, xs, rfl, _⟩ := h
    rfl
  · obtain ⟨a, xs, rfl, hS, q⟩ := h
    refine ⟨_, (pss_cons (ps_set (i := 1) sc_common_divisor.nd rfl (.inl rfl) pe_int)
      (pss_cons (ps_for PassesOwn.never rfl (pi_seqK (K := K) rfl (pv 0)) (pg_name (i := 2) sc_common_divisor.nd rfl (.inl rfl))
      (pss_cons (ps_set (i := 3) sc_common_divisor.nd rfl (.inl rfl) (pe_callB call_abs (by rfl) m_abs (by decide +kernel) (pa_cons (pv 2) pa_nil)))
      (pss_one (ps_while PassesOwn.never (pt_truth (pv 3) (by intro _; rfl))
      (pss_one (ps_par (i := 1) (j := 3) (by rfl) sc_common_divisor.nd rfl rfl (by decide) rfl rfl (pa_cons (pv 3) (pa_cons (pe_op op_mod (pv 1) (pv 3)) pa_nil)) (by rfl)))))))
      (pss_one (ps_ret (pv 1))))), ?_⟩
    refine ⟨.ref a, rfl, seq_for (S := S0) hS (fun z => z) (fun i σ H' => ∃ y2 y3, σ = [some (.ref a), some (.int (gl (xs.take i))), y2, y3] ∧ H' = H) ⟨none, none, rfl, rfl⟩ (fun i σ H' _ ⟨_, _, _, e⟩ => e ▸ SB.refl _) ?_ ?_⟩
    · rintro i x σ H' hx ⟨y2, y3, rfl, rfl⟩
      obtain ⟨n, hn, rfl⟩ := ints_get hx
      refine ⟨.int n, rfl, n, rfl, ?_⟩
      refine ⟨fun m σ H'' => ∃ f o : Nat, σ = [some (.ref a), some (.int f), some (.int n), some (.int o)] ∧ m = o ∧ Nat.gcd f o = gl (xs.take (i + 1)) ∧ H'' = H', ⟨n.natAbs, gl (xs.take i), n.natAbs, ?_, rfl, (gl_take hn).symm, rfl⟩, fun m σ H'' hW => ?_⟩
      · rw [abs_if]
        rfl
      · obtain ⟨f, o, rfl, rfl, hg, rfl⟩ := hW
        refine ⟨.int m, rfl, _, rfl, ite2 (fun e => ?_) (fun e => ?_)⟩
        · have ho : 0 < m := by
            have : (m : Int) ≠ 0 := bne_iff_ne.mp e
            omega
          refine ⟨fun σ' H' => ∃ f o : Nat, σ' = [some (.ref a), some (.int f), some (.int n), some (.int o)] ∧ o < m ∧ Nat.gcd f o = gl (xs.take (i + 1)) ∧ H' = H'', fun σ' H' hN => ?_, ?_⟩
          · obtain ⟨f', o', e1, e2, e3, e4⟩ := hN
            exact ⟨o', e2, f', o', e1, rfl, e3, e4⟩
          · refine ⟨.int m, rfl, .int f, rfl, .int m, rfl, f, m, rfl, rfl, (by omega), .int m, _, rfl, m, f % m, rfl, Nat.mod_lt _ ho, ?_, rfl⟩
            rw [gcd_turn, hg]
        · have ho : m = 0 := by
            have : ¬ (m : Int) ≠ 0 := fun z => e (bne_iff_ne.mpr z)
            omega
          subst ho
          rw [Nat.gcd_zero_right] at hg
          exact ⟨_, _, by rw [hg], rfl⟩
    · rintro σ H' ⟨y2, y3, rfl, rfl⟩
      rw [show xs.take (xs.map V.int).length = xs by rw [List.length_map, List.take_length]]
      exact ⟨_, rfl, q⟩
abbrev s_lowest : Stmt := topS 2
abbrev n_lowest : List Str := ["numbers", "common", "number"]
abbrev p_lowest : List Str := ["numbers"]
theorem sc_lowest : FnScope n_lowest p_lowest (defScope s_lowest) := ⟨rfl, rfl, rfl, by decide +kernel, rfl, by decide +kernel, by decide +kernel⟩
def sp_lowest (K : PySem.W.Frag) : Sp := fun vs H Q _ => ∃ (a : Addr) (xs : List Int), vs = [.ref a] ∧ SqA K H a (xs.map V.int) ∧ xs.length < sizeLine ∧ ∀ v H', SB S0 H H' → rTI K H' v (low xs) → Q v H'
theorem ok_lowest {f : Addr} {fd : FuncData} {k : Nat} (F : Fun K "lowest" "lowest" s_lowest f fd) (c_common_divisor : Cal P w K mg base k "common_divisor" p_common_divisor (sp_common_divisor K)) (m_tuple : mg "tuple" = none) (hP : Pyl P base) (hk : 40 ≤ k) : FnOk P w K mg base CX0 (k + 1) f fd p_lowest (sp_lowest K) := by
  refine F.ok sc_lowest (fun vs H Q E h => ?_) (fun cdv A outer s H vs Q E hr h => ?_)
  · obtain ⟨a, xs, rfl, _⟩ := h
    rfl
  · obtain ⟨a, xs, rfl, hS, hz, q⟩ := h
    refine ⟨_, (pss_cons (ps_set (i := 1) sc_lowest.nd rfl (.inr rfl) (pe_callC c_common_divisor hr (by rfl) (pa_cons (pv 0) pa_nil)))
      (pss_cons (ps_if (pt_cmpR op_lt (pv 1) pe_int (nomark _))
      (pss_one (ps_ret (pe_callTy (tuple_ofK (K := K) rfl) (by rfl) m_tuple (by decide +kernel) (pa_cons (pv 0) pa_nil)))) pss_nil)
      (pss_one (ps_ret (pe_callTy (tuple_ofK (K := K) rfl) (by rfl) m_tuple (by decide +kernel) (pa_cons (pe_lc (own := [("number", 2)]) (g := gName 2) (by rfl) sc_lowest.nd (pi_seqK (K := K) rfl (pv 0)) (blkOk_by (N := n_lowest) (sc := defScope s_lowest) (own := [("number", 2)]) (by decide +kernel)) (fun _ _ _ _ _ => (pg_name (i := 2) sc_lowest.nd rfl (.inl rfl))) (fun _ _ _ _ _ => pts_nil) (fun _ _ _ _ _ => (pe_op (op_fdivP hP rfl rfl rfl rfl rfl (hr.mono hk)) (pv 2) (pv 1)))) pa_nil)))))), ?_⟩
    refine ⟨.ref a, rfl, a, xs, rfl, hS, ?_⟩
    refine ⟨.int (gl xs), rfl, _, _, rfl, rfl, _, rfl, ite2 (fun e => ?_) (fun e => ?_)⟩
    · have h2 : (gl xs : Int) < 2 := of_decide_eq_true e
      have el : low xs = xs := if_pos (by omega)
      refine ⟨.ref a, rfl, a, xs.map V.int, rfl, ?_⟩
      rcases hS with hS | hS
      · exact .inl ⟨hS, fun l hl => q _ _ (SB.new hl) ⟨l, rfl, by rw [el]; exact .inl (.inl upd_same)⟩⟩
      · exact .inr ⟨hS, q _ _ (SB.refl _) ⟨a, rfl, by rw [el]; exact hS⟩⟩
    · have h2 : ¬ (gl xs : Int) < 2 := fun z => e (decide_eq_true z)
      have el : low xs = xs.map (fun x => x / (gl xs : Int)) := if_neg (by omega)
      dsimp only [tNext, tRet, tCB, tCons]
      refine tlc_map (S := S0) (tVar_at rfl) hS (fun z => z) (by rw [List.length_map]; exact hz) CH.rI (xs.map fun x => x / (gl xs : Int)) (by rw [List.length_map, List.length_map]) mono_I (fun _ _ z => z) ?_ gName_mono ?_
      · intro i x y H' QY hx hy s h
        obtain ⟨n, hn, rfl⟩ := ints_get hx
        rw [List.getElem?_map, hn] at hy
        cases hy
        refine ⟨rfl, .int n, rfl, .int (gl xs), rfl, n, gl xs, rfl, rfl, (by show (0 : Int) < gl xs; omega), ?_⟩
        exact h _ _ (SB.refl _) rfl
      · intro D Hf us hD s h p
        rw [paired_ints p] at h
        refine ⟨D, _, rfl, .inl ⟨.inl (.inl h), fun l hl => q _ _ (s.trans (SB.new hl)) ⟨l, rfl, by rw [el]; exact .inl (.inl upd_same)⟩⟩⟩
abbrev s_blended : Stmt := topS 5
abbrev n_blended : List Str := ["one", "times", "other", "other_times", "here", "there"]
abbrev p_blended : List Str := ["one", "times", "other", "other_times"]
theorem sc_blended : FnScope n_blended p_blended (defScope s_blended) := ⟨rfl, rfl, rfl, by decide +kernel, rfl, by decide +kernel, by decide +kernel⟩
def sp_blended (K : PySem.W.Frag) : Sp := fun vs H Q _ => ∃ (v w : V) (a b : Int) (x y : Vec) (c : Nat), vs = [v, .int a, w, .int b] ∧ rTI K H v x ∧ rTI K H w y ∧ x.length = y.length ∧ x.length < sizeLine ∧
  Bd c x ∧ Bd c y ∧ a.natAbs < 2 ^ c ∧ b.natAbs < 2 ^ c ∧ c ≤ 33554432 ∧ ∀ u H', SB S0 H H' → rTI K H' u (blend x a y b) → Q u H'
theorem ok_blended {f : Addr} {fd : FuncData} {k : Nat} (F : Fun K "blended" "blended" s_blended f fd) (c_lowest : Cal P w K mg base k "lowest" p_lowest (sp_lowest K)) (m_zip : mg "zip" = none) : FnOk P w K mg base CX0 (k + 1) f fd p_blended (sp_blended K) := by
  refine F.ok sc_blended (fun vs H Q E h => ?_) (fun cdv A outer s H vs Q E hr h => ?_)
  · obtain ⟨v, w, a, b, x, y, c, rfl, _⟩ := h
    rfl
  · obtain ⟨v, w, a, b, x, y, c, rfl, ⟨p, rfl, hp⟩, ⟨r, rfl, hr'⟩, hl, hz, bx, bY, ba, bb, hc, q⟩ := h
    refine ⟨_, (pss_one (ps_ret (pe_callC c_lowest hr (by rfl) (pa_cons (pe_lc (own := [("here", 4), ("there", 5)]) (g := gTup K 2 (gCons (gName 4) (gCons (gName 5) gNil))) (by rfl) sc_blended.nd (RZ.pi_zipA (by rfl) m_zip (pa_cons (pv 0) (pa_cons (pv 2) pa_nil))) (blkOk_by (N := n_blended) (sc := defScope s_blended) (own := [("here", 4), ("there", 5)]) (by decide +kernel)) (fun _ _ _ _ _ => (pg_tup rfl (pgs_cons (pg_name (i := 4) sc_blended.nd rfl (.inl rfl)) (pgs_cons (pg_name (i := 5) sc_blended.nd rfl (.inl rfl)) pgs_nil)))) (fun _ _ _ _ _ => pts_nil) (fun _ _ _ _ _ => (pe_op op_add (pe_op op_mulK (pv 1) (pv 4)) (pe_op op_mulK (pv 3) (pv 5))))) pa_nil)))), ?_⟩
    dsimp only [tRet, tCall, tCons]
    refine tlc_walk (S := S0) (H := H) (n := x.length) (wi_zipT (fun R r => ⟨.ref p, rfl, .ref _, rfl, r⟩) hp hr') (fun D hD => by
      have := walks_zipT (S := fun b => S0 b ∨ b = D) hp hr' (by rw [List.length_map, List.length_map, hl])
      rw [List.length_map] at this
      exact this) hz (fun _ => CH.rI) (fun i => (lin a x b y)[i]?) (fun _ _ _ _ _ _ _ h => h) (fun _ _ z => z) ?_ ?_
    · rintro D i t H' QY QN hD hi sb _ ⟨T, u1, u2, rfl, hT, h1, h2⟩ hY hN
      obtain ⟨n1, e1, rfl⟩ := ints_get h1
      obtain ⟨n2, e2, rfl⟩ := ints_get h2
      refine ⟨T, [.int n1, .int n2], rfl, hT, rfl, .int n1, [.int n2], rfl, .int n2, [], rfl, rfl, rfl, tyes ?_⟩
      have m1 : n1 ∈ x := List.mem_of_getElem? e1
      have m2 : n2 ∈ y := List.mem_of_getElem? e2
      refine ⟨.int a, rfl, .int n1, rfl, a, n1, rfl, rfl, mulK_bits ba (bx _ m1) (by omega), .int b, rfl, .int n2, rfl, b, n2, rfl, rfl, mulK_bits bb (bY _ m2) (by omega), _, _, rfl, rfl, ?_⟩
      refine hY _ _ (a * n1 + b * n2) ?_ (SB.refl _) rfl
      show (List.zipWith _ x y)[i]? = _
      rw [List.getElem?_zipWith, e1, e2]
    · intro D Hf us hD sb h p'
      rw [show x.length = (lin a x b y).length from (lin_length hl).symm, range_get] at p'
      rw [paired_ints p'] at h
      refine ⟨D, lin a x b y, rfl, .inl (.inl (.inl h)), by rw [lin_length hl]; exact hz, fun u H' sb' hu => q u H' (sb.trans sb') hu⟩
abbrev s_levelled : Stmt := topS 13
abbrev n_levelled : List Str := ["numbers", "ray", "row"]
abbrev p_levelled : List Str := ["numbers", "ray", "row"]
theorem sc_levelled : FnScope n_levelled p_levelled (defScope s_levelled) := ⟨rfl, rfl, rfl, by decide +kernel, rfl, by decide +kernel, by decide +kernel⟩
def sp_levelled (K : PySem.W.Frag) : Sp := fun vs H Q _ => ∃ (v w u : V) (x ray row : Vec) (n b c : Nat), vs = [v, w, u] ∧ rTI K H v x ∧ rTI K H w ray ∧ rTI K H u row ∧ x.length = n ∧ ray.length = n ∧ row.length = n ∧ n ≤ 8 ∧ Bd b x ∧ Bd b ray ∧ Bd c row ∧ 2 * b + c + 4 ≤ 33554432 ∧
  ∀ z H', SB S0 H H' → rTI K H' z (lev x ray row) → Q z H'
theorem ok_levelled {f : Addr} {fd : FuncData} {k : Nat} (F : Fun K "levelled" "levelled" s_levelled f fd) (c_blended : Cal P w K mg base k "blended" p_blended (sp_blended K)) (c_product : Cal P w K mg base k "product" p_product (sp_product K)) : FnOk P w K mg base CX0 (k + 1) f fd p_levelled (sp_levelled K) := by
  refine F.ok sc_levelled (fun vs H Q E h => ?_) (fun cdv A outer s H vs Q E hr h => ?_)
  · obtain ⟨v, w, u, x, ray, row, n, b, c, rfl, _⟩ := h
    rfl
  · obtain ⟨v, w, u, x, ray, row, n, b, c, rfl, hv, hw, hu, lx, lr, lo, hn, bx, br, bo, hb, q⟩ := h
    refine ⟨_, (pss_one (ps_ret (pe_callC c_blended hr (by rfl) (pa_cons (pv 0) (pa_cons (pe_callC c_product hr (by rfl) (pa_cons (pv 1) (pa_cons (pv 2) pa_nil))) (pa_cons (pv 1) (pa_cons (pe_un un_neg (pe_callC c_product hr (by rfl) (pa_cons (pv 0) (pa_cons (pv 2) pa_nil)))) pa_nil))))))), ?_⟩
    refine ⟨v, rfl, w, rfl, u, rfl, w, u, ray, row, b + c, rfl, hw, hu, by rw [lr, lo], by omega, br.mono (by omega), bo.mono (by omega), by omega, fun H1 s1 => ?_⟩
    refine ⟨w, rfl, v, rfl, u, rfl, v, u, x, row, b + c, rfl, mono_TI _ _ _ _ s1.1 hv, mono_TI _ _ _ _ s1.1 hu, by rw [lx, lo], by omega, bx.mono (by omega), bo.mono (by omega), by omega, fun H2 s2 => ?_⟩
    have s12 := s1.trans s2
    refine ⟨_, rfl, v, w, _, _, x, ray, b + c + 3, rfl, mono_TI _ _ _ _ s12.1 hv, mono_TI _ _ _ _ s12.1 hw, by rw [lx, lr], by rw [lx]; exact small1000 (by omega), bx.mono (by omega), br.mono (by omega), dot_bits (by omega) br bo, by rw [Int.natAbs_neg]; exact dot_bits (by omega) bx bo, by omega, fun z H3 s3 hz => ?_⟩
    exact q z H3 (s12.trans s3) hz
abbrev s_crossed : Stmt := topS 17
abbrev n_crossed : List Str := ["above", "below", "masked", "row", "bit", "fewest", "masks", "found", "high", "high_mask", "low", "low_mask", "ray", "mask"]
abbrev p_crossed : List Str := ["above", "below", "masked", "row", "bit", "fewest"]
theorem sc_crossed : FnScope n_crossed p_crossed (defScope s_crossed) := ⟨rfl, rfl, rfl, by decide +kernel, rfl, by decide +kernel, by decide +kernel⟩
theorem take_flat {α β : Type} {f : α → List β} {l : List α} {i : Nat} {x : α} (h : l[i]? = some x) : (l.take (i + 1)).flatMap f = (l.take i).flatMap f ++ f x := by
  rw [List.take_add_one, h, Option.toList_some, List.flatMap_append]
  simp
theorem take_fmap {α β : Type} {f : α → Option β} {l : List α} {i : Nat} {x : α} (h : l[i]? = some x) : (l.take (i + 1)).filterMap f = (l.take i).filterMap f ++ (f x).toList := by
  rw [List.take_add_one, h, Option.toList_some, List.filterMap_append]
  congr 1
def sp_crossed (K : PySem.W.Frag) : Sp := fun vs H Q _ => ∃ (a b m : Addr) (w : V) (bit : Int) (above below masked : List Ray) (row : Vec) (n c d : Nat) (fw : Int) (kb' : Nat), vs = [.ref a, .ref b, .ref m, w, .int bit, .int fw] ∧ (∀ h ∈ above, ∀ l ∈ below, NbOk kb' fw (masked.map (·.2)) h.2 l.2) ∧ LsR K (rRay K) H a above ∧ LsR K (rRay K) H b below ∧ LsR K (rRay K) H m masked ∧ rTI K H w row ∧
  (∀ q ∈ above, q.1.length = n ∧ Bd c q.1) ∧ (∀ q ∈ below, q.1.length = n ∧ Bd c q.1) ∧ row.length = n ∧ Bd d row ∧ n ≤ 8 ∧ 2 * c + d + 4 ≤ 33554432 ∧ (crossedR above below (masked.map (·.2)) row bit).length < sizeLine ∧ masked.length < sizeLine ∧
  ∀ p H', H p = none → SB S0 H H' → LsT (rRay K) H' p (crossedR above below (masked.map (·.2)) row bit) → Q (.ref p) H'
theorem crossed1_len (h : Ray) (below : List Ray) (ms : List Int) (row : Vec) (bit : Int) : (crossed1 h below ms row bit).length ≤ below.length := List.length_filterMap_le _ _
theorem flat_sub {α β : Type} {f : α → List β} {l l' : List α} (h : l.Sublist l') : (l.flatMap f).Sublist (l'.flatMap f) := by
  induction h with
  | slnil => exact List.Sublist.refl _
  | cons a _ ih => rw [List.flatMap_cons]; exact ih.trans (List.sublist_append_right _ _)
  | cons_cons a _ ih => rw [List.flatMap_cons, List.flatMap_cons]; exact (List.Sublist.refl _).append ih
theorem flat_len {α β : Type} {f : α → List β} {k : Nat} : ∀ (l : List α), (∀ x ∈ l, (f x).length ≤ k) → (l.flatMap f).length ≤ l.length * k
  | [], _ => by simp
  | x :: l, h => by
    have ih := flat_len l fun y hy => h y (List.mem_cons_of_mem _ hy)
    have h1 := h x List.mem_cons_self
    rw [List.flatMap_cons, List.length_append, List.length_cons, Nat.succ_mul]
    omega
theorem ok_crossed {f : Addr} {fd : FuncData} {k : Nat} (F : Fun K "crossed" "crossed" s_crossed f fd) (c_are_neighbours : Cal P w K mg base k "are_neighbours" p_are_neighbours (sp_are_neighbours K)) (c_levelled : Cal P w K mg base k "levelled" p_levelled (sp_levelled K)) : FnOk P w K mg base CX0 (k + 1) f fd p_crossed (sp_crossed K) := by
  refine F.ok sc_crossed (fun vs H Q E h => ?_) (fun cdv A outer s H vs Q E hr h => ?_)
  · obtain ⟨a, b, m, w, bit, above, below, masked, row, n, c, d, fw, kb', rfl, _⟩ := h
    rfl
  · obtain ⟨a, b, m, w, bit, above, below, masked, row, n, c, d, fw, kb', rfl, hnbk, ⟨ua, ha, pa⟩, ⟨ub, hb, pb⟩, ⟨um, hm, pm⟩, hw, la, lb, lr, br, hn, hsz, kab, km, q⟩ := h
    have lua : ua.length = above.length := Paired.length pa
    have lub : ub.length = below.length := Paired.length pb
    have lum : um.length = masked.length := Paired.length pm
    refine ⟨_, (pss_cons (ps_setLc (i := 6) (own := [("ray", 12), ("mask", 13)]) (g := gTup K 2 (gCons (gName 12) (gCons (gName 13) gNil))) (by rfl) sc_crossed.nd rfl rfl (sw_true rfl rfl rfl (by decide +kernel)) (pi_seqK (K := K) rfl (pv 2)) (blkOk_by (N := n_crossed) (sc := defScope s_crossed) (own := [("ray", 12), ("mask", 13)]) (by decide +kernel)) (fun _ _ _ _ _ => (pg_tup rfl (pgs_cons (pg_name (i := 12) sc_crossed.nd rfl (.inl rfl)) (pgs_cons (pg_name (i := 13) sc_crossed.nd rfl (.inl rfl)) pgs_nil)))) (fun _ _ _ _ _ => pts_nil) (fun _ _ _ _ _ => (pv 13)))
      (pss_cons (ps_set (i := 7) sc_crossed.nd rfl (.inl rfl) (pe_lst pa_nil))
      (pss_cons (ps_for PassesOwn.never rfl (pi_seqK (K := K) rfl (pv 0)) (pg_tup rfl (pgs_cons (pg_name (i := 8) sc_crossed.nd rfl (.inl rfl)) (pgs_cons (pg_name (i := 9) sc_crossed.nd rfl (.inl rfl)) pgs_nil)))
      (pss_one (ps_for PassesOwn.never rfl (pi_seqK (K := K) rfl (pv 1)) (pg_tup rfl (pgs_cons (pg_name (i := 10) sc_crossed.nd rfl (.inl rfl)) (pgs_cons (pg_name (i := 11) sc_crossed.nd rfl (.inl rfl)) pgs_nil)))
      (pss_one (ps_if (pt_val (pe_callC c_are_neighbours hr (by rfl) (pa_cons (pv 9) (pa_cons (pv 11) (pa_cons (pv 6) (pa_cons (pv 5) pa_nil))))))
      (pss_one (ps_expr (pe_bm PySem.F.plainAttrs_list PySem.F.slot_list_append PySem.F.type_list_append mt_append (pv 7) (pa_cons (pe_tup (pa_cons (pe_callC c_levelled hr (by rfl) (pa_cons (pv 10) (pa_cons (pv 8) (pa_cons (pv 3) pa_nil)))) (pa_cons (pe_op op_or (pe_op op_and (pv 9) (pv 11)) (pv 4)) pa_nil))) pa_nil)))) pss_nil)))))
      (pss_one (ps_ret (pv 7)))))), ?_⟩
    -- the masks
    refine tSeq_i (tAsg_i (tlc_walk (S := S0) (H := H) (wi_list (tVar_at rfl) hm) (walksL_new hm) (by rw [lum]; exact km) (fun _ => CH.rI) (fun i => (masked.map (·.2))[i]?) (fun _ _ _ _ _ _ _ h => h) (fun _ _ z => z) ?_ ?_))
    · rintro D i t H' QY QN hD hi sb _ ht hY hN
      obtain ⟨qd, eq, aq, w1, w2, rfl, hT, hw1, hw2⟩ := Paired.get pm ht
      obtain rfl : w2 = .int qd.2 := hw2
      refine ⟨aq, [w1, .int qd.2], rfl, sb.sqT hT, rfl, w1, [.int qd.2], rfl, .int qd.2, [], rfl, rfl, rfl, tyes ?_⟩
      refine ⟨.int qd.2, rfl, hY _ _ qd.2 ?_ (SB.refl _) rfl⟩
      show (masked.map (·.2))[i]? = _
      rw [List.getElem?_map, eq]
      rfl
    · intro M H1 vs1 hM s1 hMl pM
      rw [lum, show masked.length = (masked.map (·.2)).length from (List.length_map _).symm, range_get] at pM
      rw [paired_ints pM] at hMl
      generalize hms : masked.map (·.2) = ms at *
      -- what is found
      refine ⟨Nat.zero_le _, fun R hR => ?_⟩
      have s2 : SB S0 H1 (upd H1 R (.lst [])) := SB.new hR
      have s12 := s1.trans s2
      have HR : H R = none := by
        cases hh : H R with
        | none => rfl
        | some o =>
          have := s1.2 _ _ (fun z => z) hh
          rw [hR] at this
          cases this
      generalize hG : upd H1 R (.lst []) = G at *
      have Rl : G R = some (.lst []) := by rw [← hG]; exact upd_same
      have nR : ∀ x o, H1 x = some o → x ≠ R := fun x o h => ne_of_none h hR
      have naR : ∀ {x : Addr} {us : List V}, SqL K H x us → ∀ G', SB (Sd R) G G' → SqL K G' x us := fun {x us} h G' sg => by
        rcases h with (h | ⟨o, h⟩) | h
        · exact .inl (.inl (sg.2 _ _ (ne_of_none h HR) (s12.2 _ _ (fun z => z) h)))
        · exact .inl (.inr ⟨o, sg.1.2 _ _ _ (s12.1.2 _ _ _ h)⟩)
        · exact .inr h
      dsimp only [gName]
      have W1 : Walks (Sd R) (Itl K a) G ua.length (fun i x _ => ua[i]? = some x) := ⟨fun i G' hi sg => ⟨ua, ua[i], naR ha G' sg, List.getElem?_eq_getElem hi⟩, fun i G' x G2 hi sg y => by
        obtain ⟨e, y⟩ := y
        subst e
        exact ⟨SB.refl _, y ua (naR ha _ sg)⟩, fun G' sg => ⟨ua, naR ha G' sg, Nat.le_refl _⟩⟩
      refine tSeq_i (tfor_walk (S := Sd R) (H := G) (wi_list (tVar_at rfl) (naR ha G (SB.refl _))) W1 (fun i σ H' => ∃ y7 y8 y9 y10 us, σ = [some (.ref a), some (.ref b), some (.ref m), some w, some (.int bit), some (.int fw), some (.ref M), some (.ref R), y7, y8, y9, y10, none, none] ∧ SB (Sd R) G H' ∧ H' R = some (.lst us) ∧ Paired (rRay K H') us ((above.take i).flatMap fun h => crossed1 h below ms row bit)) ⟨none, none, none, none, [], rfl, SB.refl _, Rl, by rw [List.take_zero]; exact .nil⟩ (fun i σ H' _ ⟨_, _, _, _, _, _, s, _⟩ => s) ?_ ?_)
      · rintro i t σ H3 H4 hi ⟨y7, y8, y9, y10, us, rfl, s3, R3, p3⟩ s4 ht
        obtain ⟨hi1, eh, ah, wh1, wh2, rfl, hTh, hwh1, hwh2⟩ := Paired.get pa ht
        obtain rfl : wh2 = .int hi1.2 := hwh2
        have mh : hi1 ∈ above := List.mem_of_getElem? eh
        have s34 : SB (Sd R) G H4 := s3.trans s4.any
        have tG : Tst H H4 := s12.1.trans s34.1
        have R4 := s4.2 _ _ (fun z => z) R3
        refine ⟨ah, [wh1, .int hi1.2], rfl, tG.sqT hTh, rfl, wh1, [.int hi1.2], rfl, .int hi1.2, [], rfl, rfl, ?_⟩
        have W2 : Walks (Sd R) (Itl K b) H4 ub.length (fun i x _ => ub[i]? = some x) := ⟨fun i G' hi sg => ⟨ub, ub[i], naR hb G' (s34.trans sg), List.getElem?_eq_getElem hi⟩, fun i G' x G2 hi sg y => by
          obtain ⟨e, y⟩ := y
          subst e
          exact ⟨SB.refl _, y ub (naR hb _ (s34.trans sg))⟩, fun G' sg => ⟨ub, naR hb G' (s34.trans sg), Nat.le_refl _⟩⟩
        have pre := pairs_keep mono_Ray s4.1 p3
        refine tfor_walk (S := Sd R) (H := H4) (wi_list (tVar_at rfl) (naR hb H4 s34)) W2 (fun j σ H' => ∃ y9 y10 us, σ = [some (.ref a), some (.ref b), some (.ref m), some w, some (.int bit), some (.int fw), some (.ref M), some (.ref R), some wh1, some (.int hi1.2), y9, y10, none, none] ∧ SB (Sd R) H4 H' ∧ H' R = some (.lst us) ∧ Paired (rRay K H') us (((above.take i).flatMap fun h => crossed1 h below ms row bit) ++ crossed1 hi1 (below.take j) ms row bit)) ⟨y9, y10, us, rfl, SB.refl _, R4, by rw [List.take_zero]; show Paired _ us (_ ++ []); rw [List.append_nil]; exact pre⟩ (fun i σ H' _ ⟨_, _, _, _, s, _⟩ => s) ?_ ?_
        · rintro j t2 σ H5 H6 hj ⟨y9', y10', us5, rfl, s5, R5, p5⟩ s6 ht2
          obtain ⟨lo, el, al, wl1, wl2, rfl, hTl, hwl1, hwl2⟩ := Paired.get pb ht2
          obtain rfl : wl2 = .int lo.2 := hwl2
          have ml : lo ∈ below := List.mem_of_getElem? el
          have s56 : SB (Sd R) G H6 := (s34.trans s5).trans s6.any
          have tG6 : Tst H H6 := s12.1.trans s56.1
          have R6 := s6.2 _ _ (fun z => z) R5
          have M6 : H6 M = some (.lst (ms.map V.int)) := s56.2 _ _ (nR _ _ hMl) (s2.2 _ _ (fun z => z) hMl)
          refine ⟨al, [wl1, .int lo.2], rfl, tG6.sqT hTl, rfl, wl1, [.int lo.2], rfl, .int lo.2, [], rfl, rfl, ?_⟩
          refine ⟨.int hi1.2, rfl, .int lo.2, rfl, .ref M, rfl, .int fw, rfl, hi1.2, lo.2, fw, M, ms, kb', rfl, hnbk hi1 mh lo ml, SqL.of M6, fun H7 s7 => ?_⟩
          have R7 := s7.2 _ _ (fun z => z) R6
          have s57 : SB (Sd R) H4 H7 := (s5.trans s6.any).trans s7.any
          have p7 := pairs_keep mono_Ray (s6.trans s7).1 p5
          have tG7 : Tst H H7 := tG6.trans s7.1
          have e1 : crossed1 hi1 (below.take (j + 1)) ms row bit = crossed1 hi1 (below.take j) ms row bit ++ (if nbs hi1.2 lo.2 ms = true then some (lev lo.1 hi1.1 row, bor (band hi1.2 lo.2) bit) else none).toList := take_fmap el
          have lus5 : us5.length < sizeLine := by
            have h1 : us5.length = _ := Paired.length p5
            rw [h1]
            refine Nat.lt_of_le_of_lt (List.Sublist.length_le ?_) kab
            have s1 : (crossed1 hi1 (below.take j) ms row bit).Sublist (crossed1 hi1 below ms row bit) := (List.take_sublist j below).filterMap _
            have s2 : (((above.take i).flatMap fun h => crossed1 h below ms row bit) ++ crossed1 hi1 below ms row bit).Sublist (crossedR above below ms row bit) := by
              rw [← take_flat (f := fun h => crossed1 h below ms row bit) eh]
              exact flat_sub (List.take_sublist _ _)
            exact (List.Sublist.append (List.Sublist.refl _) s1).trans s2
          refine ⟨_, rfl, ?_⟩
          cases hnb : nbs hi1.2 lo.2 ms with
          | true =>
            rw [if_pos hnb] at e1
            refine iteT ⟨.ref R, rfl, .inl ⟨rfl, _, SqL.of R7⟩, wl1, rfl, wh1, rfl, w, rfl, wl1, wh1, w, lo.1, hi1.1, row, n, c, d, rfl, mono_TI _ _ _ _ tG7 hwl1, mono_TI _ _ _ _ tG7 hwh1, mono_TI _ _ _ _ tG7 hw, (lb lo ml).1, (la hi1 mh).1, lr, hn, (lb lo ml).2, (la hi1 mh).2, br, hsz, fun z H8 s8 hz => ?_⟩
            refine ⟨.int hi1.2, rfl, .int lo.2, rfl, _, _, rfl, rfl, .int bit, rfl, _, _, rfl, rfl, by show 2 ≤ sizeLine; decide, fun T hT => ?_⟩
            have s9 : SB S0 H8 (upd H8 T (.tup [z, .int (bor (band hi1.2 lo.2) bit)])) := SB.new hT
            have R9 := (s8.trans s9).2 _ _ (fun z => z) R7
            refine ⟨R, us5, _, rfl, rfl, R9, lus5, ?_⟩
            have sp : SB (Sd R) (upd H8 T (.tup [z, .int (bor (band hi1.2 lo.2) bit)])) (upd (upd H8 T (.tup [z, .int (bor (band hi1.2 lo.2) bit)])) R (.lst (us5 ++ [.ref T]))) := SB.put R9 (.inl ⟨_, rfl⟩) rfl
            have TR : T ≠ R := fun e => by
              rw [e] at hT
              have := s8.2 _ _ (fun z => z) R7
              rw [hT] at this
              cases this
            refine ⟨_, _, us5 ++ [.ref T], rfl, (s57.trans (s8.trans s9).any).trans sp, upd_same, ?_⟩
            rw [e1, Option.toList_some, ← List.append_assoc]
            refine Paired.app (pairs_keep mono_Ray ((s8.trans s9).1.trans sp.1) p7) (.cons ⟨T, z, _, rfl, .inl (.inl ?_), mono_TI _ _ _ _ (s9.1.trans sp.1) hz, rfl⟩ .nil)
            rw [upd_ne TR]
            exact upd_same
          | false =>
            rw [if_neg (by rw [hnb]; exact Bool.false_ne_true)] at e1
            refine iteF ⟨_, _, us5, rfl, s57, R7, ?_⟩
            rw [e1, Option.toList_none, List.append_nil]
            exact p7
        · rintro σ H5 ⟨y9', y10', us5, rfl, s5, R5, p5⟩
          rw [show below.take ub.length = below by rw [lub, List.take_length], ← take_flat (f := fun h => crossed1 h below ms row bit) eh] at p5
          exact ⟨_, _, _, _, us5, rfl, s34.trans s5, R5, p5⟩
      · rintro σ H3 ⟨y7, y8, y9, y10, us, rfl, s3, R3, p3⟩
        rw [show above.take ua.length = above by rw [lua, List.take_length]] at p3
        refine ⟨.ref R, rfl, q R H3 HR ?_ ⟨us, R3, p3⟩⟩
        exact (s12.any.trans s3).less fun x hx => .inr (by rw [show x = R from hx]; exact HR)
abbrev s_halved : Stmt := topS 18
abbrev n_halved : List Str := ["masked", "row", "bit", "fewest", "above", "level", "below", "ray", "mask"]
abbrev p_halved : List Str := ["masked", "row", "bit", "fewest"]
theorem sc_halved : FnScope n_halved p_halved (defScope s_halved) := ⟨rfl, rfl, rfl, by decide +kernel, rfl, by decide +kernel, by decide +kernel⟩
theorem fmap_range {β γ : Type} (f : β → Option γ) : ∀ xs : List β, (List.range xs.length).filterMap (fun i => (xs[i]?).bind f) = xs.filterMap f
  | [] => rfl
  | x :: xs => by
    rw [List.length_cons, List.range_succ_eq_map, List.filterMap_cons, List.filterMap_map, List.filterMap_cons]
    have e : ((fun i => ((x :: xs)[i]?).bind f) ∘ Nat.succ) = fun i => (xs[i]?).bind f := by
      funext i
      rfl
    rw [e, fmap_range f xs]
    rfl
theorem filter_fmap {β : Type} (p : β → Bool) : ∀ xs : List β, xs.filterMap (fun x => if p x = true then some x else none) = xs.filter p
  | [] => rfl
  | x :: xs => by
    rw [List.filterMap_cons, filter_fmap p xs]
    by_cases h : p x = true
    · rw [if_pos h, List.filter_cons_of_pos h]
    · rw [if_neg h, List.filter_cons_of_neg h]
theorem filterMap_fmap {β γ : Type} (p : β → Bool) (g : β → γ) : ∀ xs : List β, xs.filterMap (fun x => if p x = true then some (g x) else none) = (xs.filter p).map g
  | [] => rfl
  | x :: xs => by
    rw [List.filterMap_cons, filterMap_fmap p g xs]
    by_cases h : p x = true
    · rw [if_pos h, List.filter_cons_of_pos h]
      rfl
    · rw [if_neg h, List.filter_cons_of_neg h]
def sp_halved (K : PySem.W.Frag) : Sp := fun vs H Q _ => ∃ (m : Addr) (w : V) (bit : Int) (masked : List Ray) (row : Vec) (n c d : Nat) (fw : Int) (kb' : Nat), vs = [.ref m, w, .int bit, .int fw] ∧ (∀ h ∈ masked, ∀ l ∈ masked, h ≠ l → NbOk kb' fw (masked.map (·.2)) h.2 l.2) ∧ LsR K (rRay K) H m masked ∧ rTI K H w row ∧ (∀ q ∈ masked, q.1.length = n ∧ Bd c q.1) ∧ row.length = n ∧ Bd d row ∧ n ≤ 8 ∧ 2 * c + d + 4 ≤ 33554432 ∧ masked.length < sizeLine ∧ (halvedR masked row bit).length < sizeLine ∧
  ∀ p H', H p = none → SB S0 H H' → LsT (rRay K) H' p (halvedR masked row bit) → Q (.ref p) H'
theorem ok_halved {f : Addr} {fd : FuncData} {k : Nat} (F : Fun K "halved" "halved" s_halved f fd) (c_product : Cal P w K mg base k "product" p_product (sp_product K)) (c_crossed : Cal P w K mg base k "crossed" p_crossed (sp_crossed K)) : FnOk P w K mg base CX0 (k + 1) f fd p_halved (sp_halved K) := by
  refine F.ok sc_halved (fun vs H Q E h => ?_) (fun cdv A outer s H vs Q E hr h => ?_)
  · obtain ⟨m, w, bit, masked, row, n, c, d, fw, kb', rfl, _⟩ := h
    rfl
  · obtain ⟨m, w, bit, masked, row, n, c, d, fw, kb', rfl, hnbk, ⟨um, hm, pm⟩, hw, lm, lr, br, hn, hsz, km, kh, q⟩ := h
    have lum : um.length = masked.length := Paired.length pm
    have kz : um.length < sizeLine := by
      rw [lum]
      exact km
    refine ⟨_, (pss_cons (ps_setLc (i := 4) (own := [("ray", 7), ("mask", 8)]) (g := gTup K 2 (gCons (gName 7) (gCons (gName 8) gNil))) (by rfl) sc_halved.nd rfl rfl (sw_true rfl rfl rfl (by decide +kernel)) (pi_seqK (K := K) rfl (pv 0)) (blkOk_by (N := n_halved) (sc := defScope s_halved) (own := [("ray", 7), ("mask", 8)]) (by decide +kernel)) (fun _ _ _ _ _ => (pg_tup rfl (pgs_cons (pg_name (i := 7) sc_halved.nd rfl (.inl rfl)) (pgs_cons (pg_name (i := 8) sc_halved.nd rfl (.inl rfl)) pgs_nil)))) (fun _ _ _ _ _ => pts_one (pt_cmpR op_gt (pe_callC c_product hr (by rfl) (pa_cons (pv 7) (pa_cons (pv 1) pa_nil))) pe_int (nomark _))) (fun _ _ _ _ _ => (pe_tup (pa_cons (pv 7) (pa_cons (pv 8) pa_nil)))))
      (pss_cons (ps_setLc (i := 5) (own := [("ray", 7), ("mask", 8)]) (g := gTup K 2 (gCons (gName 7) (gCons (gName 8) gNil))) (by rfl) sc_halved.nd rfl rfl (sw_true rfl rfl rfl (by decide +kernel)) (pi_seqK (K := K) rfl (pv 0)) (blkOk_by (N := n_halved) (sc := defScope s_halved) (own := [("ray", 7), ("mask", 8)]) (by decide +kernel)) (fun _ _ _ _ _ => (pg_tup rfl (pgs_cons (pg_name (i := 7) sc_halved.nd rfl (.inl rfl)) (pgs_cons (pg_name (i := 8) sc_halved.nd rfl (.inl rfl)) pgs_nil)))) (fun _ _ _ _ _ => pts_one (pt_cmpR op_eq (pe_callC c_product hr (by rfl) (pa_cons (pv 7) (pa_cons (pv 1) pa_nil))) pe_int (nomark _))) (fun _ _ _ _ _ => (pe_tup (pa_cons (pv 7) (pa_cons (pe_op op_or (pv 8) (pv 2)) pa_nil)))))
      (pss_cons (ps_setLc (i := 6) (own := [("ray", 7), ("mask", 8)]) (g := gTup K 2 (gCons (gName 7) (gCons (gName 8) gNil))) (by rfl) sc_halved.nd rfl rfl (sw_true rfl rfl rfl (by decide +kernel)) (pi_seqK (K := K) rfl (pv 0)) (blkOk_by (N := n_halved) (sc := defScope s_halved) (own := [("ray", 7), ("mask", 8)]) (by decide +kernel)) (fun _ _ _ _ _ => (pg_tup rfl (pgs_cons (pg_name (i := 7) sc_halved.nd rfl (.inl rfl)) (pgs_cons (pg_name (i := 8) sc_halved.nd rfl (.inl rfl)) pgs_nil)))) (fun _ _ _ _ _ => pts_one (pt_cmpR op_lt (pe_callC c_product hr (by rfl) (pa_cons (pv 7) (pa_cons (pv 1) pa_nil))) pe_int (nomark _))) (fun _ _ _ _ _ => (pe_tup (pa_cons (pv 7) (pa_cons (pv 8) pa_nil)))))
      (pss_one (ps_ret (pe_op op_cat (pe_op op_cat (pv 4) (pv 5)) (pe_callC c_crossed hr (by rfl) (pa_cons (pv 4) (pa_cons (pv 6) (pa_cons (pv 0) (pa_cons (pv 1) (pa_cons (pv 2) (pa_cons (pv 3) pa_nil))))))))))))), ?_⟩
    -- inside
    refine tSeq_i (tAsg_i (tlc_walk (S := S0) (H := H) (wi_list (tVar_at rfl) hm) (walksL_new hm) kz (fun _ => rRay K) (fun i => (masked[i]?).bind fun q => if decide (0 < dot q.1 row) = true then some q else none) (fun _ _ _ _ _ _ s h => mono_Ray _ _ _ _ s.1 h) (fun _ _ z => z) ?_ ?_))
    · rintro D i t H' QY QN hD hi sb _ ht hY hN
      obtain ⟨qd, eq, aq, w1, w2, rfl, hT, hw1, hw2⟩ := Paired.get pm ht
      obtain rfl : w2 = .int qd.2 := hw2
      obtain ⟨l1, b1⟩ := lm qd (List.mem_of_getElem? eq)
      have hw1' := mono_TI _ _ _ _ sb.1 hw1
      refine ⟨aq, [w1, .int qd.2], rfl, sb.sqT hT, rfl, w1, [.int qd.2], rfl, .int qd.2, [], rfl, rfl, rfl, ?_⟩
      refine ⟨w1, rfl, w, rfl, w1, w, qd.1, row, c + d, rfl, hw1', mono_TI _ _ _ _ sb.1 hw, by rw [l1, lr], by omega, b1.mono (by omega), br.mono (by omega), by omega, fun H2 s2 => ?_⟩
      refine ⟨_, 0, rfl, rfl, _, rfl, ite2 (fun e => ?_) (fun e => ?_)⟩
      · refine ⟨w1, rfl, .int qd.2, rfl, by show 2 ≤ sizeLine; decide, fun T hT2 => ?_⟩
        have s3 : SB S0 H2 (upd H2 T (.tup [w1, .int qd.2])) := SB.new hT2
        refine hY _ _ qd ?_ (s2.trans s3) ⟨T, w1, .int qd.2, rfl, .inl (.inl upd_same), mono_TI _ _ _ _ (s2.trans s3).1 hw1', rfl⟩
        show (masked[i]?).bind _ = _
        rw [eq]
        show (if decide (0 < dot qd.1 row) = true then some qd else none) = some qd
        rw [if_pos e]
      · refine hN _ ?_ s2
        show (masked[i]?).bind _ = _
        rw [eq]
        show (if decide (0 < dot qd.1 row) = true then some qd else none) = none
        rw [if_neg e]
    intro A1 H1 va hA1 s1 hA1l pA
    rw [lum, fmap_range (fun q : Ray => if decide (0 < dot q.1 row) = true then some q else none) masked, filter_fmap (fun q : Ray => decide (0 < dot q.1 row)) masked] at pA
    -- at the bound
    dsimp only [gName]
    have hm1 := s1.sqL (fun z => z) hm
    have pm1 := pairs_keep mono_Ray s1.1 pm
    have hw_1 := mono_TI _ _ _ _ s1.1 hw
    refine tSeq_i (tAsg_i (tlc_walk (S := S0) (H := H1) (wi_list (tVar_at rfl) hm1) (walksL_new hm1) kz (fun _ => rRay K) (fun i => (masked[i]?).bind fun q => if decide (dot q.1 row = 0) = true then some (q.1, bor q.2 bit) else none) (fun _ _ _ _ _ _ s h => mono_Ray _ _ _ _ s.1 h) (fun _ _ z => z) ?_ ?_))
    · rintro D i t H' QY QN hD hi sb _ ht hY hN
      obtain ⟨qd, eq, aq, w1, w2, rfl, hT, hw1, hw2⟩ := Paired.get pm1 ht
      obtain rfl : w2 = .int qd.2 := hw2
      obtain ⟨l1, b1⟩ := lm qd (List.mem_of_getElem? eq)
      have hw1' := mono_TI _ _ _ _ sb.1 hw1
      refine ⟨aq, [w1, .int qd.2], rfl, sb.sqT hT, rfl, w1, [.int qd.2], rfl, .int qd.2, [], rfl, rfl, rfl, ?_⟩
      refine ⟨w1, rfl, w, rfl, w1, w, qd.1, row, c + d, rfl, hw1', mono_TI _ _ _ _ sb.1 hw_1, by rw [l1, lr], by omega, b1.mono (by omega), br.mono (by omega), by omega, fun H2 s2 => ?_⟩
      refine ⟨rfl, _, rfl, ite2 (fun e => ?_) (fun e => ?_)⟩
      · have e0 : dot qd.1 row = 0 := V.int.inj (of_decide_eq_true e)
        refine ⟨w1, rfl, .int qd.2, rfl, .int bit, rfl, qd.2, bit, rfl, rfl, by show 2 ≤ sizeLine; decide, fun T hT2 => ?_⟩
        have s3 : SB S0 H2 (upd H2 T (.tup [w1, .int (bor qd.2 bit)])) := SB.new hT2
        refine hY _ _ (qd.1, bor qd.2 bit) ?_ (s2.trans s3) ⟨T, w1, .int (bor qd.2 bit), rfl, .inl (.inl upd_same), mono_TI _ _ _ _ (s2.trans s3).1 hw1', rfl⟩
        show (masked[i]?).bind _ = _
        rw [eq]
        show (if decide (dot qd.1 row = 0) = true then some (qd.1, bor qd.2 bit) else none) = _
        rw [if_pos (decide_eq_true e0)]
      · have e0 : ¬ dot qd.1 row = 0 := fun z => e (decide_eq_true (by rw [z]))
        refine hN _ ?_ s2
        show (masked[i]?).bind _ = _
        rw [eq]
        show (if decide (dot qd.1 row = 0) = true then some (qd.1, bor qd.2 bit) else none) = none
        rw [if_neg (fun z => e0 (of_decide_eq_true z))]
    intro B1 H2 vb hB1 s2 hB1l pB
    rw [lum, fmap_range (fun q : Ray => if decide (dot q.1 row = 0) = true then some (q.1, bor q.2 bit) else none) masked, filterMap_fmap (fun q : Ray => decide (dot q.1 row = 0)) (fun q : Ray => (q.1, bor q.2 bit)) masked] at pB
    -- outside
    dsimp only [gName]
    have hm2 := s2.sqL (fun z => z) hm1
    have pm2 := pairs_keep mono_Ray s2.1 pm1
    have hw_2 := mono_TI _ _ _ _ s2.1 hw_1
    refine tSeq_i (tAsg_i (tlc_walk (S := S0) (H := H2) (wi_list (tVar_at rfl) hm2) (walksL_new hm2) kz (fun _ => rRay K) (fun i => (masked[i]?).bind fun q => if decide (dot q.1 row < 0) = true then some q else none) (fun _ _ _ _ _ _ s h => mono_Ray _ _ _ _ s.1 h) (fun _ _ z => z) ?_ ?_))
    · rintro D i t H' QY QN hD hi sb _ ht hY hN
      obtain ⟨qd, eq, aq, w1, w2, rfl, hT, hw1, hw2⟩ := Paired.get pm2 ht
      obtain rfl : w2 = .int qd.2 := hw2
      obtain ⟨l1, b1⟩ := lm qd (List.mem_of_getElem? eq)
      have hw1' := mono_TI _ _ _ _ sb.1 hw1
      refine ⟨aq, [w1, .int qd.2], rfl, sb.sqT hT, rfl, w1, [.int qd.2], rfl, .int qd.2, [], rfl, rfl, rfl, ?_⟩
      refine ⟨w1, rfl, w, rfl, w1, w, qd.1, row, c + d, rfl, hw1', mono_TI _ _ _ _ sb.1 hw_2, by rw [l1, lr], by omega, b1.mono (by omega), br.mono (by omega), by omega, fun H3 s3 => ?_⟩
      refine ⟨_, 0, rfl, rfl, _, rfl, ite2 (fun e => ?_) (fun e => ?_)⟩
      · refine ⟨w1, rfl, .int qd.2, rfl, by show 2 ≤ sizeLine; decide, fun T hT2 => ?_⟩
        have s4 : SB S0 H3 (upd H3 T (.tup [w1, .int qd.2])) := SB.new hT2
        refine hY _ _ qd ?_ (s3.trans s4) ⟨T, w1, .int qd.2, rfl, .inl (.inl upd_same), mono_TI _ _ _ _ (s3.trans s4).1 hw1', rfl⟩
        show (masked[i]?).bind _ = _
        rw [eq]
        show (if decide (dot qd.1 row < 0) = true then some qd else none) = some qd
        rw [if_pos e]
      · refine hN _ ?_ s3
        show (masked[i]?).bind _ = _
        rw [eq]
        show (if decide (dot qd.1 row < 0) = true then some qd else none) = none
        rw [if_neg e]
    intro C1 H3 vc hC1 s3 hC1l pC
    rw [lum, fmap_range (fun q : Ray => if decide (dot q.1 row < 0) = true then some q else none) masked, filter_fmap (fun q : Ray => decide (dot q.1 row < 0)) masked] at pC
    have hA3 := (s2.trans s3).2 _ _ (fun z => z) hA1l
    have hB3 := s3.2 _ _ (fun z => z) hB1l
    have pA3 := pairs_keep mono_Ray (s2.trans s3).1 pA
    have pB3 := pairs_keep mono_Ray s3.1 pB
    have ea : aboveR masked row = masked.filter fun q => decide (0 < dot q.1 row) := rfl
    have eb : levelR masked row bit = (masked.filter fun q => decide (dot q.1 row = 0)).map fun q => (q.1, bor q.2 bit) := rfl
    have ec : belowR masked row = masked.filter fun q => decide (dot q.1 row < 0) := rfl
    rw [← ea] at pA3
    rw [← eb] at pB3
    rw [← ec] at pC
    have la : (aboveR masked row).length ≤ masked.length := List.length_filter_le _ _
    have lb : (levelR masked row bit).length ≤ masked.length := by
      rw [eb, List.length_map]
      exact List.length_filter_le _ _
    have lc : (belowR masked row).length ≤ masked.length := List.length_filter_le _ _
    have lva : va.length = (aboveR masked row).length := Paired.length pA3
    have lvb : vb.length = (levelR masked row bit).length := Paired.length pB3
    refine ⟨.ref A1, rfl, .ref B1, rfl, A1, B1, va, vb, rfl, rfl, hA3, hB3, ?_, fun U hU => ?_⟩
    · have e0 : (halvedR masked row bit).length = (aboveR masked row).length + (levelR masked row bit).length + (crossedR (aboveR masked row) (belowR masked row) (masked.map (·.2)) row bit).length := by
        unfold halvedR
        rw [List.length_append, List.length_append]
      have : va.length + vb.length < sizeLine := by omega
      exact Nat.le_of_lt this
    have sU : SB S0 H3 (upd H3 U (.lst (va ++ vb))) := SB.new hU
    have s13 := (s1.trans s2).trans s3
    have s1U := s13.trans sU
    refine ⟨.ref A1, rfl, .ref C1, rfl, .ref m, rfl, w, rfl, .int bit, rfl, .int fw, rfl, A1, C1, m, w, bit, aboveR masked row, belowR masked row, masked, row, n, c, d, fw, kb', rfl, fun h hh l hl => hnbk h (List.mem_filter.mp hh).1 l (List.mem_filter.mp hl).1 (fun e => by have h1 := of_decide_eq_true (List.mem_filter.mp hh).2; have h2 := of_decide_eq_true (List.mem_filter.mp hl).2; rw [e] at h1; omega), ⟨va, SqL.of (sU.2 _ _ (fun z => z) hA3), pairs_keep mono_Ray sU.1 pA3⟩, ⟨vc, SqL.of (sU.2 _ _ (fun z => z) hC1l), pairs_keep mono_Ray sU.1 pC⟩, ⟨um, s1U.sqL (fun z => z) hm, pairs_keep mono_Ray s1U.1 pm⟩, mono_TI _ _ _ _ s1U.1 hw, fun q hq => lm q (List.mem_filter.mp hq).1, fun q hq => lm q (List.mem_filter.mp hq).1, lr, br, hn, hsz, ?_, km, fun P H4 hP s4 hPl => ?_⟩
    · exact Nat.lt_of_le_of_lt (by unfold halvedR; rw [List.length_append]; exact Nat.le_add_left _ _) kh
    obtain ⟨vd, hvd, pD⟩ := hPl
    have lvd : vd.length = (crossedR (aboveR masked row) (belowR masked row) (masked.map (·.2)) row bit).length := Paired.length pD
    have hU4 : H4 U = some (.lst (va ++ vb)) := s4.2 _ _ (fun z => z) upd_same
    refine ⟨U, P, _, vd, rfl, rfl, hU4, hvd, ?_, fun Z hZ => ?_⟩
    · have e0 : (halvedR masked row bit).length = (aboveR masked row).length + (levelR masked row bit).length + (crossedR (aboveR masked row) (belowR masked row) (masked.map (·.2)) row bit).length := by
        unfold halvedR
        rw [List.length_append, List.length_append]
      rw [List.length_append, lvd]
      omega
    · have sZ : SB S0 H4 (upd H4 Z (.lst (va ++ vb ++ vd))) := SB.new hZ
      have sAll := (s1U.trans s4).trans sZ
      refine q Z _ ?_ sAll ⟨_, upd_same, ?_⟩
      · cases hh : H Z with
        | none => rfl
        | some o =>
          have := (s1U.trans s4).2 _ _ (fun z => z) hh
          rw [hZ] at this
          cases this
      · exact Paired.app (Paired.app (pairs_keep mono_Ray ((sU.trans s4).trans sZ).1 pA3) (pairs_keep mono_Ray ((sU.trans s4).trans sZ).1 pB3)) (pairs_keep mono_Ray sZ.1 pD)
abbrev s_opposite : Stmt := topS 4
abbrev n_opposite : List Str := ["numbers", "number"]
abbrev p_opposite : List Str := ["numbers"]
theorem sc_opposite : FnScope n_opposite p_opposite (defScope s_opposite) := ⟨rfl, rfl, rfl, by decide +kernel, rfl, by decide +kernel, by decide +kernel⟩
def sp_opposite (K : PySem.W.Frag) : Sp := fun vs H Q _ => ∃ (v : V) (x : Vec), vs = [v] ∧ rTI K H v x ∧ x.length < sizeLine ∧ ∀ u H', SB S0 H H' → rTI K H' u (neg x) → Q u H'
theorem ok_opposite {f : Addr} {fd : FuncData} {k : Nat} (F : Fun K "opposite" "opposite" s_opposite f fd) (m_tuple : mg "tuple" = none) : FnOk P w K mg base CX0 (k + 1) f fd p_opposite (sp_opposite K) := by
  refine F.ok sc_opposite (fun vs H Q E h => ?_) (fun cdv A outer s H vs Q E hr h => ?_)
  · obtain ⟨v, x, rfl, _⟩ := h
    rfl
  · obtain ⟨v, x, rfl, ⟨a, rfl, ha⟩, hz, q⟩ := h
    refine ⟨_, (pss_one (ps_ret (pe_callTy (tuple_ofK (K := K) rfl) (by rfl) m_tuple (by decide +kernel) (pa_cons (pe_lc (own := [("number", 1)]) (g := gName 1) (by rfl) sc_opposite.nd (pi_seqK (K := K) rfl (pv 0)) (blkOk_by (N := n_opposite) (sc := defScope s_opposite) (own := [("number", 1)]) (by decide +kernel)) (fun _ _ _ _ _ => (pg_name (i := 1) sc_opposite.nd rfl (.inl rfl))) (fun _ _ _ _ _ => pts_nil) (fun _ _ _ _ _ => (pe_un un_neg (pv 1)))) pa_nil)))), ?_⟩
    dsimp only [tRet, tCB, tCons]
    refine tlc_map (S := S0) (tVar_at rfl) (.inr ha) (fun z => z) (by rw [List.length_map]; exact hz) CH.rI (neg x) (by rw [List.length_map, neg_length]) mono_I (fun _ _ z => z) ?_ gName_mono ?_
    · intro i t y H' QY hx hy s h
      obtain ⟨n, hn, rfl⟩ := ints_get hx
      unfold neg at hy
      rw [List.getElem?_map, hn] at hy
      cases hy
      exact ⟨rfl, .int n, rfl, n, rfl, h _ _ (SB.refl _) rfl⟩
    · intro D Hf us hD s h p
      rw [paired_ints p] at h
      exact ⟨D, _, rfl, .inl ⟨.inl (.inl h), fun l hl => q _ _ (s.trans (SB.new hl)) ⟨l, rfl, .inl (.inl upd_same)⟩⟩⟩
abbrev s_bent : Stmt := topS 14
abbrev n_bent : List Str := ["lines", "place", "masked", "row", "bit", "line", "ray", "others", "kept", "moved", "other", "mask"]
abbrev p_bent : List Str := ["lines", "place", "masked", "row", "bit"]
theorem sc_bent : FnScope n_bent p_bent (defScope s_bent) := ⟨rfl, rfl, rfl, by decide +kernel, rfl, by decide +kernel, by decide +kernel⟩
theorem cut_to {xs : List V} {p : Nat} (h : p ≤ xs.length) : cutV xs none (some (p : Int)) = xs.take p := by
  have e1 : HT.sIx xs.length 0 none = 0 := HT.sIx_none ..
  have e2 : HT.sIx xs.length xs.length (some (p : Int)) = min p xs.length := HT.sIx_nat xs.length xs.length p
  unfold cutV
  rw [e1, e2, List.drop_zero, Nat.sub_zero, Nat.min_eq_left h]
theorem cut_from {xs : List V} {p : Nat} (h : p ≤ xs.length) : cutV xs (some (p : Int)) none = xs.drop p := by
  have e1 : HT.sIx xs.length 0 (some (p : Int)) = min p xs.length := HT.sIx_nat xs.length 0 p
  have e2 : HT.sIx xs.length xs.length none = xs.length := HT.sIx_none ..
  unfold cutV
  rw [e1, e2, Nat.min_eq_left h]
  exact List.take_of_length_le (by rw [List.length_drop]; exact Nat.le_refl _)
theorem pair_take {α β : Type} {F : α → β → Prop} : ∀ {l₁ : List α} {l₂ : List β} (n : Nat), Paired F l₁ l₂ → Paired F (l₁.take n) (l₂.take n)
  | _, _, 0, _ => .nil
  | _, _, _ + 1, .nil => .nil
  | _, _, n + 1, .cons r t => .cons r (pair_take n t)
theorem pair_dropn {α β : Type} {F : α → β → Prop} : ∀ {l₁ : List α} {l₂ : List β} (n : Nat), Paired F l₁ l₂ → Paired F (l₁.drop n) (l₂.drop n)
  | _, _, 0, h => h
  | _, _, _ + 1, .nil => .nil
  | _, _, n + 1, .cons _ t => pair_dropn n t
def sp_bent (K : PySem.W.Frag) : Sp := fun vs H Q _ => ∃ (a m : Addr) (p : Nat) (w : V) (bit : Int) (lines : List Vec) (masked : List Ray) (row : Vec) (n c d : Nat), vs = [.ref a, .int p, .ref m, w, .int bit] ∧ LsR K (rTI K) H a lines ∧ LsR K (rRay K) H m masked ∧ rTI K H w row ∧
  (∀ l ∈ lines, l.length = n ∧ Bd c l) ∧ (∀ q ∈ masked, q.1.length = n ∧ Bd c q.1) ∧ row.length = n ∧ Bd d row ∧ n ≤ 8 ∧ 2 * c + d + 4 ≤ 33554432 ∧ crossP lines row = some p ∧ lines.length ≤ 1000 ∧ masked.length < sizeLine ∧
  ∀ t kl ml H', SB S0 H H' → SqT K H' t [.ref kl, .ref ml] → LsT (rTI K) H' kl (bentL lines p row) → LsT (rRay K) H' ml (bentR lines p masked row bit) → Q (.ref t) H'
theorem ok_bent {f : Addr} {fd : FuncData} {k : Nat} (F : Fun K "bent" "bent" s_bent f fd) (c_product : Cal P w K mg base k "product" p_product (sp_product K)) (c_opposite : Cal P w K mg base k "opposite" p_opposite (sp_opposite K)) (c_levelled : Cal P w K mg base k "levelled" p_levelled (sp_levelled K)) : FnOk P w K mg base CX0 (k + 1) f fd p_bent (sp_bent K) := by
  refine F.ok sc_bent (fun vs H Q E h => ?_) (fun cdv A outer s H vs Q E hr h => ?_)
  · obtain ⟨a, m, p, w, bit, lines, masked, row, n, c, d, rfl, _⟩ := h
    rfl
  · obtain ⟨a, m, p, w, bit, lines, masked, row, n, c, d, rfl, ⟨ul, ha, pl⟩, ⟨um, hm, pm⟩, hw, ll, lm, lr, br, hn, hsz, hcr, kl, km, q⟩ := h
    have lul : ul.length = lines.length := Paired.length pl
    have lum : um.length = masked.length := Paired.length pm
    obtain ⟨l, el, ed, ml, nz⟩ := crossP_some hcr
    have hp : p < lines.length := (List.getElem?_eq_some_iff.mp el).1
    obtain ⟨vl, evl, hvl⟩ := Paired.get2 pl el
    obtain ⟨l1, b1⟩ := ll l ml
    refine ⟨_, (pss_cons (ps_set (i := 5) sc_bent.nd rfl (.inl rfl) (pe_ix (ix_listK (K := K) rfl) (pv 0) (pv 1) (fun _ _ => rfl)))
      (pss_cons (ps_set (i := 6) sc_bent.nd rfl (.inr rfl) (pe_ifExp (pt_cmpR op_gt (pe_callC c_product hr (by rfl) (pa_cons (pv 5) (pa_cons (pv 3) pa_nil))) pe_int (nomark _)) (pv 5) (pe_callC c_opposite hr (by rfl) (pa_cons (pv 5) pa_nil))))
      (pss_cons (ps_set (i := 7) sc_bent.nd rfl (.inl rfl) (pe_op op_cat (pe_slice (sl_listK (K := K) rfl) (pv 0) po_none (po_some (pv 1))) (pe_slice (sl_listK (K := K) rfl) (pv 0) (po_some (pe_op op_add (pv 1) pe_int)) po_none)))
      (pss_cons (ps_setLc (i := 8) (own := [("other", 10)]) (g := gName 10) (by rfl) sc_bent.nd rfl rfl (sw_true rfl rfl rfl (by decide +kernel)) (pi_seqK (K := K) rfl (pv 7)) (blkOk_by (N := n_bent) (sc := defScope s_bent) (own := [("other", 10)]) (by decide +kernel)) (fun _ _ _ _ _ => (pg_name (i := 10) sc_bent.nd rfl (.inl rfl))) (fun _ _ _ _ _ => pts_nil) (fun _ _ _ _ _ => (pe_callC c_levelled hr (by rfl) (pa_cons (pv 10) (pa_cons (pv 6) (pa_cons (pv 3) pa_nil))))))
      (pss_cons (ps_setLc (i := 9) (own := [("other", 10), ("mask", 11)]) (g := gTup K 2 (gCons (gName 10) (gCons (gName 11) gNil))) (by rfl) sc_bent.nd rfl rfl (sw_true rfl rfl rfl (by decide +kernel)) (pi_seqK (K := K) rfl (pv 2)) (blkOk_by (N := n_bent) (sc := defScope s_bent) (own := [("other", 10), ("mask", 11)]) (by decide +kernel)) (fun _ _ _ _ _ => (pg_tup rfl (pgs_cons (pg_name (i := 10) sc_bent.nd rfl (.inl rfl)) (pgs_cons (pg_name (i := 11) sc_bent.nd rfl (.inl rfl)) pgs_nil)))) (fun _ _ _ _ _ => pts_nil) (fun _ _ _ _ _ => (pe_tup (pa_cons (pe_callC c_levelled hr (by rfl) (pa_cons (pv 10) (pa_cons (pv 6) (pa_cons (pv 3) pa_nil)))) (pa_cons (pe_op op_or (pv 11) (pv 4)) pa_nil)))))
      (pss_cons (ps_expr (pe_bm PySem.F.plainAttrs_list PySem.F.slot_list_append PySem.F.type_list_append mt_append (pv 9) (pa_cons (pe_tup (pa_cons (pv 6) (pa_cons (pe_op op_sub (pv 4) pe_int) pa_nil))) pa_nil)))
      (pss_one (ps_ret (pe_tup (pa_cons (pv 8) (pa_cons (pv 9) pa_nil))))))))))), ?_⟩
    refine ⟨.ref a, rfl, .int p, rfl, a, ul, _, vl, rfl, rfl, ha, atI_nat evl, ?_⟩
    -- the line upwards
    dsimp only [gName]
    refine seqcut (fun σ H' => ∃ u, σ = [some (.ref a), some (.int p), some (.ref m), some w, some (.int bit), some vl, some u, none, none, none, none, none] ∧ SB S0 H H' ∧ rTI K H' u (upw l row)) (fun U hU => ?_) (fun σ H1 hM => ?_)
    · refine ⟨vl, rfl, w, rfl, vl, w, l, row, c + d, rfl, hvl, hw, by rw [l1, lr], by omega, b1.mono (by omega), br.mono (by omega), by omega, fun H1 s1 => ?_⟩
      refine ⟨_, 0, rfl, rfl, _, rfl, ite2 (fun e => ?_) (fun e => ?_)⟩
      · refine ⟨vl, rfl, hU _ _ ⟨vl, rfl, s1, ?_⟩⟩
        rw [show upw l row = l from if_pos (of_decide_eq_true e)]
        exact mono_TI _ _ _ _ s1.1 hvl
      · refine ⟨vl, rfl, vl, l, rfl, mono_TI _ _ _ _ s1.1 hvl, by rw [l1]; exact small1000 (by omega), fun u H2 s2 hu => hU _ _ ⟨u, rfl, s1.trans s2, ?_⟩⟩
        rw [show upw l row = neg l from if_neg (fun z => e (decide_eq_true z))]
        exact hu
    · obtain ⟨u, rfl, s1, hu⟩ := hM
      have lu : (upw l row).length = n := by rw [upw_length, l1]
      have bu : Bd c (upw l row) := b1.upw
      -- the other lines
      have ha1 := s1.sqL (fun z => z) ha
      refine ⟨.ref a, rfl, .int p, rfl, p, rfl, a, ul, rfl, ha1, fun A1 hA1 => ?_⟩
      rw [cut_to (by omega)]
      have s2 : SB S0 H1 (upd H1 A1 (.lst (ul.take p))) := SB.new hA1
      have ha2 := s2.sqL (fun z => z) ha1
      refine ⟨.ref a, rfl, .int p, rfl, p, 1, rfl, rfl, _, rfl, a, ul, rfl, ha2, fun A2 hA2 => ?_⟩
      rw [show ((p : Int) + 1) = ((p + 1 : Nat) : Int) by omega, cut_from (by omega)]
      have s3 : SB S0 (upd H1 A1 (.lst (ul.take p))) (upd (upd H1 A1 (.lst (ul.take p))) A2 (.lst (ul.drop (p + 1)))) := SB.new hA2
      refine ⟨A1, A2, _, _, rfl, rfl, s3.2 _ _ (fun z => z) upd_same, upd_same, ?_, fun A3 hA3 => ?_⟩
      · have : (ul.take p).length + (ul.drop (p + 1)).length ≤ 1000 := by
          rw [List.length_take, List.length_drop]
          omega
        exact Nat.le_of_lt (small1000 this)
      generalize hG3 : upd (upd H1 A1 (.lst (ul.take p))) A2 (.lst (ul.drop (p + 1))) = G3 at *
      have s4 : SB S0 G3 (upd G3 A3 (.lst (ul.take p ++ ul.drop (p + 1)))) := SB.new hA3
      have s14 := ((s1.trans s2).trans s3).trans s4
      have s24 := (s2.trans s3).trans s4
      have A3l : (upd G3 A3 (.lst (ul.take p ++ ul.drop (p + 1)))) A3 = some (.lst (ul.take p ++ ul.drop (p + 1))) := upd_same
      generalize hG4 : upd G3 A3 (.lst (ul.take p ++ ul.drop (p + 1))) = G4 at *
      have pw : Paired (rTI K G4) (ul.take p ++ ul.drop (p + 1)) (without lines p) := pairs_keep mono_TI s14.1 (Paired.app (pair_take p pl) (pair_dropn (p + 1) pl))
      have lwo : (ul.take p ++ ul.drop (p + 1)).length = (without lines p).length := Paired.length pw
      have kwo : (without lines p).length ≤ 1000 := by
        have := without_length hp
        omega
      have hu4 := mono_TI _ _ _ _ s24.1 hu
      have hw4 := mono_TI _ _ _ _ s14.1 hw
      -- moved to the bound
      dsimp only [gName]
      refine tSeq_i (tAsg_i (tlc_walk (S := S0) (H := G4) (wi_list (tVar_at rfl) (SqL.of A3l)) (walks_lst (fun z => z) A3l) (by rw [lwo]; exact small1000 kwo) (fun _ => rTI K) (fun i => (bentL lines p row)[i]?) (fun _ _ _ _ _ _ s h => mono_TI _ _ _ _ s.1 h) (fun _ _ z => z) ?_ ?_))
      · rintro D i t H' QY QN hD hi sb _ ht hY hN
        obtain ⟨o, eo, ho⟩ := Paired.get pw ht
        obtain ⟨lo, bo⟩ := ll o (mem_without (List.mem_of_getElem? eo))
        refine ⟨rfl, tyes ?_⟩
        refine ⟨t, rfl, u, rfl, w, rfl, t, u, w, o, upw l row, row, n, c, d, rfl, mono_TI _ _ _ _ sb.1 ho, mono_TI _ _ _ _ sb.1 hu4, mono_TI _ _ _ _ sb.1 hw4, lo, lu, lr, hn, bo, bu, br, hsz, fun z H2 s2' hz => ?_⟩
        refine hY _ _ (lev o (upw l row) row) ?_ s2' hz
        show (bentL lines p row)[i]? = _
        unfold bentL
        rw [List.getElem?_map, eo, ed]
        rfl
      intro D1 H5 v5 hD1 s5 hD1l p5
      rw [lwo, show (without lines p).length = (bentL lines p row).length from (List.length_map _).symm, range_get] at p5
      have s15 := s14.trans s5
      have hm5 := s15.sqL (fun z => z) hm
      have pm5 := pairs_keep mono_Ray s15.1 pm
      have hu5 := mono_TI _ _ _ _ s5.1 hu4
      have hw5 := mono_TI _ _ _ _ s5.1 hw4
      dsimp only [gName]
      refine tSeq_i (tAsg_i (tlc_walk (S := S0) (H := H5) (wi_list (tVar_at rfl) hm5) (walksL_new hm5) (by rw [lum]; exact km) (fun _ => rRay K) (fun i => (masked.map fun q => (lev q.1 (upw l row) row, bor q.2 bit))[i]?) (fun _ _ _ _ _ _ s h => mono_Ray _ _ _ _ s.1 h) (fun _ _ z => z) ?_ ?_))
      · rintro D i t H' QY QN hD hi sb _ ht hY hN
        obtain ⟨qd, eq, aq, w1, w2, rfl, hT, hw1, hw2⟩ := Paired.get pm5 ht
        obtain rfl : w2 = .int qd.2 := hw2
        obtain ⟨lq, bq⟩ := lm qd (List.mem_of_getElem? eq)
        refine ⟨aq, [w1, .int qd.2], rfl, sb.sqT hT, rfl, w1, [.int qd.2], rfl, .int qd.2, [], rfl, rfl, rfl, tyes ?_⟩
        refine ⟨w1, rfl, u, rfl, w, rfl, w1, u, w, qd.1, upw l row, row, n, c, d, rfl, mono_TI _ _ _ _ sb.1 hw1, mono_TI _ _ _ _ sb.1 hu5, mono_TI _ _ _ _ sb.1 hw5, lq, lu, lr, hn, bq, bu, br, hsz, fun z H2 s2' hz => ?_⟩
        refine ⟨.int qd.2, rfl, .int bit, rfl, qd.2, bit, rfl, rfl, by show 2 ≤ sizeLine; decide, fun T hT2 => ?_⟩
        have s3' : SB S0 H2 (upd H2 T (.tup [z, .int (bor qd.2 bit)])) := SB.new hT2
        refine hY _ _ (lev qd.1 (upw l row) row, bor qd.2 bit) ?_ (s2'.trans s3') ⟨T, z, _, rfl, .inl (.inl upd_same), mono_TI _ _ _ _ s3'.1 hz, rfl⟩
        show (masked.map fun q => (lev q.1 (upw l row) row, bor q.2 bit))[i]? = _
        rw [List.getElem?_map, eq]
        rfl
      intro D2 H6 v6 hD2 s6 hD2l p6
      rw [lum, show masked.length = (masked.map fun q => (lev q.1 (upw l row) row, bor q.2 bit)).length from (List.length_map _).symm, range_get] at p6
      have lv6 : v6.length = masked.length := by
        have := Paired.length p6
        rw [List.length_map] at this
        exact this
      have hu6 := mono_TI _ _ _ _ s6.1 hu5
      have nD : D1 ≠ D2 := ne_of_none hD1l hD2
      -- the ray itself
      refine ⟨.ref D2, rfl, .inl ⟨rfl, _, SqL.of hD2l⟩, u, rfl, .int bit, rfl, bit, 1, rfl, rfl, by show 2 ≤ sizeLine; decide, fun T hT => ?_⟩
      have s7 : SB S0 H6 (upd H6 T (.tup [u, .int (bit - 1)])) := SB.new hT
      have hD27 := s7.2 _ _ (fun z => z) hD2l
      refine ⟨D2, v6, _, rfl, rfl, hD27, by rw [lv6]; exact km, ?_⟩
      have sp : SB (Sd D2) (upd H6 T (.tup [u, .int (bit - 1)])) (upd (upd H6 T (.tup [u, .int (bit - 1)])) D2 (.lst (v6 ++ [.ref T]))) := SB.put hD27 (.inl ⟨_, rfl⟩) rfl
      have TD : T ≠ D2 := fun e => by
        rw [e, hD2l] at hT
        cases hT
      have s17 : SB S0 H (upd (upd H6 T (.tup [u, .int (bit - 1)])) D2 (.lst (v6 ++ [.ref T]))) := by
        have h1 : SB (Sd D2) H (upd (upd H6 T (.tup [u, .int (bit - 1)])) D2 (.lst (v6 ++ [.ref T]))) := (((s15.trans s6).trans s7).any).trans sp
        refine h1.less fun b hb => .inr ?_
        rw [show b = D2 from hb]
        cases hh : H D2 with
        | none => rfl
        | some o =>
          have := s15.2 _ _ (fun z => z) hh
          rw [hD2] at this
          cases this
      refine ⟨.ref D1, rfl, .ref D2, rfl, by show 2 ≤ sizeLine; decide, fun t ht => ?_⟩
      have s8 : SB S0 (upd (upd H6 T (.tup [u, .int (bit - 1)])) D2 (.lst (v6 ++ [.ref T]))) (upd (upd (upd H6 T (.tup [u, .int (bit - 1)])) D2 (.lst (v6 ++ [.ref T]))) t (.tup [.ref D1, .ref D2])) := SB.new ht
      refine q t D1 D2 _ (s17.trans s8) (.inl (.inl upd_same)) ⟨v5, ?_, ?_⟩ ⟨v6 ++ [.ref T], s8.2 _ _ (fun z => z) upd_same, ?_⟩
      · refine s8.2 _ _ (fun z => z) ?_
        rw [upd_ne nD]
        exact (s6.trans s7).2 _ _ (fun z => z) hD1l
      · exact pairs_keep mono_TI ((((s6.trans s7).1.trans sp.1)).trans s8.1) p5
      · unfold bentR
        rw [ed]
        refine Paired.app (pairs_keep mono_Ray ((s7.1.trans sp.1).trans s8.1) p6) (.cons ⟨T, u, _, rfl, .inl (.inl (s8.2 _ _ (fun z => z) ?_)), mono_TI _ _ _ _ ((s7.1.trans sp.1).trans s8.1) hu6, rfl⟩ .nil)
        rw [upd_ne TD]
        exact upd_same
abbrev s_cleared : Stmt := topS 7
abbrev n_cleared : List Str := ["numbers", "place", "lead"]
abbrev p_cleared : List Str := ["numbers", "place", "lead"]
theorem sc_cleared : FnScope n_cleared p_cleared (defScope s_cleared) := ⟨rfl, rfl, rfl, by decide +kernel, rfl, by decide +kernel, by decide +kernel⟩
def sp_cleared (K : PySem.W.Frag) : Sp := fun vs H Q _ => ∃ (v w : V) (p : Nat) (x l : Vec) (c : Nat), vs = [v, .int p, w] ∧ rTI K H v x ∧ rTI K H w l ∧ x.length = l.length ∧ p < x.length ∧ x.length < sizeLine ∧
  Bd c x ∧ Bd c l ∧ c ≤ 33554432 ∧ ∀ u H', SB S0 H H' → rTI K H' u (clear x p l) → Q u H'
theorem ok_cleared {f : Addr} {fd : FuncData} {k : Nat} (F : Fun K "cleared" "cleared" s_cleared f fd) (c_blended : Cal P w K mg base k "blended" p_blended (sp_blended K)) : FnOk P w K mg base CX0 (k + 1) f fd p_cleared (sp_cleared K) := by
  refine F.ok sc_cleared (fun vs H Q E h => ?_) (fun cdv A outer s H vs Q E hr h => ?_)
  · obtain ⟨v, w, p, x, l, c, rfl, _⟩ := h
    rfl
  · obtain ⟨v, w, p, x, l, c, rfl, ⟨a, rfl, ha⟩, ⟨b, rfl, hb⟩, hl, hp, hz, bx, bl, hc, q⟩ := h
    refine ⟨_, (pss_cons (ps_if (pt_cmpR op_eq (pe_ix (ix_tupK (K := K) rfl) (pv 0) (pv 1) (fun _ _ => rfl)) pe_int (nomark _))
      (pss_one (ps_ret (pv 0))) pss_nil)
      (pss_one (ps_ret (pe_callC c_blended hr (by rfl) (pa_cons (pv 0) (pa_cons (pe_ix (ix_tupK (K := K) rfl) (pv 2) (pv 1) (fun _ _ => rfl)) (pa_cons (pv 2) (pa_cons (pe_un un_neg (pe_ix (ix_tupK (K := K) rfl) (pv 0) (pv 1) (fun _ _ => rfl))) pa_nil)))))))), ?_⟩
    refine ⟨.ref a, rfl, .int p, rfl, a, _, _, _, rfl, rfl, ha, at_TI hp, rfl, _, rfl, ite2 (fun e => ?_) (fun e => ?_)⟩
    · have e0 : at0 x p = 0 := V.int.inj (of_decide_eq_true e)
      refine ⟨.ref a, rfl, q _ _ (SB.refl _) ⟨a, rfl, ?_⟩⟩
      rw [show clear x p l = x from if_pos e0]
      exact ha
    · have e0 : at0 x p ≠ 0 := fun z => e (decide_eq_true (by rw [z]))
      refine ⟨.ref a, rfl, .ref b, rfl, .int p, rfl, b, _, _, _, rfl, rfl, hb, at_TI (hl ▸ hp), .ref b, rfl, .ref a, rfl, .int p, rfl, a, _, _, _, rfl, rfl, ha, at_TI hp, _, rfl, ?_⟩
      refine ⟨.ref a, .ref b, _, _, x, l, c, rfl, ⟨a, rfl, ha⟩, ⟨b, rfl, hb⟩, hl, hz, bx, bl, bl.at p, by rw [Int.natAbs_neg]; exact bx.at p, hc, fun u H' sb hu => ?_⟩
      rw [show blend x (at0 l p) l (-(at0 x p)) = clear x p l from (if_neg e0).symm] at hu
      exact q u H' sb hu
abbrev s_reduced : Stmt := topS 8
abbrev n_reduced : List Str := ["numbers", "leads", "rest", "place", "lead"]
abbrev p_reduced : List Str := ["numbers", "leads"]
theorem sc_reduced : FnScope n_reduced p_reduced (defScope s_reduced) := ⟨rfl, rfl, rfl, by decide +kernel, rfl, by decide +kernel, by decide +kernel⟩
theorem clear_length {x l : Vec} {p : Nat} (h : x.length = l.length) : (clear x p l).length = x.length := by
  unfold clear
  split
  · rfl
  · exact blend_length h
theorem bd_redu0 {c : Nat} : ∀ {L : List Lead} {x : Vec} {b : Nat}, (∀ q ∈ L, q.2.length = x.length) → Bd b x → (∀ q ∈ L, Bd c q.2) → (redu x L).length = x.length ∧ Bd (b + L.length * (c + 1)) (redu x L)
  | [], x, b, _, hx, _ => ⟨rfl, hx.mono (by omega)⟩
  | q :: L, x, b, h, hx, hL => by
    have hq : x.length = q.2.length := (h q List.mem_cons_self).symm
    have len : (clear x q.1 q.2).length = x.length := clear_length hq
    have := bd_redu0 (L := L) (x := clear x q.1 q.2) (b := b + c + 1) (fun r hr => by rw [len]; exact h r (List.mem_cons_of_mem _ hr)) (Bd.clear hq hx (hL q List.mem_cons_self)) fun r hr => hL r (List.mem_cons_of_mem _ hr)
    refine ⟨this.1.trans len, this.2.mono ?_⟩
    rw [List.length_cons, Nat.succ_mul]
    omega
theorem redu_take {L : List Lead} {x : Vec} {i : Nat} {q : Lead} (h : L[i]? = some q) : redu x (L.take (i + 1)) = clear (redu x (L.take i)) q.1 q.2 := by
  unfold redu
  rw [List.take_add_one, h, Option.toList_some, List.foldl_append]
  rfl
def sp_reduced (K : PySem.W.Frag) : Sp := fun vs H Q _ => ∃ (v : V) (a : Addr) (x : Vec) (L : List Lead) (b c : Nat), vs = [v, .ref a] ∧ rTI K H v x ∧ LsR K (rLead K) H a L ∧ (∀ q ∈ L, q.2.length = x.length ∧ q.1 < x.length) ∧ x.length < sizeLine ∧
  Bd b x ∧ (∀ q ∈ L, Bd c q.2) ∧ b + L.length * (c + 1) ≤ 33554432 ∧ c ≤ 33554432 ∧ ∀ u H', SB S0 H H' → rTI K H' u (redu x L) → Q u H'
theorem ok_reduced {f : Addr} {fd : FuncData} {k : Nat} (F : Fun K "reduced" "reduced" s_reduced f fd) (c_cleared : Cal P w K mg base k "cleared" p_cleared (sp_cleared K)) : FnOk P w K mg base CX0 (k + 1) f fd p_reduced (sp_reduced K) := by
  refine F.ok sc_reduced (fun vs H Q E h => ?_) (fun cdv A outer s H vs Q E hr h => ?_)
  · obtain ⟨v, a, x, L, b, c, rfl, _⟩ := h
    rfl
  · obtain ⟨v, a, x, L, b, c, rfl, hv, ⟨vs, ha, hp⟩, hL, hz, bx, bL, hbc, hc, q⟩ := h
    have lv : vs.length = L.length := Paired.length hp
    refine ⟨_, (pss_cons (ps_set (i := 2) sc_reduced.nd rfl (.inl rfl) (pv 0))
      (pss_cons (ps_for PassesOwn.never rfl (pi_seqK (K := K) rfl (pv 1)) (pg_tup rfl (pgs_cons (pg_name (i := 3) sc_reduced.nd rfl (.inl rfl)) (pgs_cons (pg_name (i := 4) sc_reduced.nd rfl (.inl rfl)) pgs_nil)))
      (pss_one (ps_set (i := 2) sc_reduced.nd rfl (.inl rfl) (pe_callC c_cleared hr (by rfl) (pa_cons (pv 2) (pa_cons (pv 3) (pa_cons (pv 4) pa_nil)))))))
      (pss_one (ps_ret (pv 2))))), ?_⟩
    refine ⟨v, rfl, ?_⟩
    dsimp only [gName, tSeq]
    refine tfor_walk (S := S0) (H := H) (wi_list (tVar_at rfl) ha) (walks_list (fun z => z) ha) (fun i σ H' => ∃ u y3 y4, σ = [some v, some (.ref a), some u, y3, y4] ∧ SB S0 H H' ∧ rTI K H' u (redu x (L.take i))) ⟨v, none, none, rfl, SB.refl _, hv⟩ (fun i σ H' _ ⟨_, _, _, _, s, _⟩ => s) ?_ ?_
    · rintro i t σ H1 H' hi ⟨u, y3, y4, rfl, s1, hu⟩ s2 ht
      obtain ⟨q', eq', a', w1, w2, rfl, hT, hw1, hw2⟩ := Paired.get hp ht
      obtain rfl : w1 = .int q'.1 := hw1
      have s12 := s1.trans s2
      have hu' := mono_TI _ _ _ _ s2.1 hu
      have hw2' := mono_TI _ _ _ _ s12.1 hw2
      have mq : q' ∈ L := List.mem_of_getElem? eq'
      have hT' : ∀ q ∈ L.take i, q.2.length = x.length := fun q hq => (hL q (List.mem_of_mem_take hq)).1
      obtain ⟨len, bd⟩ := bd_redu0 (L := L.take i) hT' bx fun q hq => bL q (List.mem_of_mem_take hq)
      have ti : (L.take i).length = i := by
        rw [List.length_take]
        omega
      rw [ti] at bd
      refine ⟨a', [.int q'.1, w2], rfl, s12.sqT hT, rfl, .int q'.1, [w2], rfl, w2, [], rfl, rfl, ?_⟩
      have hiL : (i + 1) * (c + 1) ≤ L.length * (c + 1) := Nat.mul_le_mul_right _ (by omega)
      rw [Nat.succ_mul] at hiL
      refine ⟨u, rfl, .int q'.1, rfl, w2, rfl, u, w2, q'.1, redu x (L.take i), q'.2, max (b + i * (c + 1)) c, rfl, hu', hw2', by rw [len, (hL q' mq).1], by rw [len]; exact (hL q' mq).2, by rw [len]; exact hz, bd.mono (Nat.le_max_left _ _), (bL q' mq).mono (Nat.le_max_right _ _), by omega, fun u2 H2 s3 hu2 => ?_⟩
      exact ⟨u2, _, _, rfl, s12.trans s3, by rw [redu_take eq']; exact hu2⟩
    · rintro σ H' ⟨u, y3, y4, rfl, s1, hu⟩
      rw [show L.take vs.length = L by rw [lv, List.take_length]] at hu
      exact ⟨u, rfl, q u H' s1 hu⟩
abbrev s_first_place : Stmt := topS 6
abbrev n_first_place : List Str := ["numbers", "place", "number"]
abbrev p_first_place : List Str := ["numbers"]
theorem sc_first_place : FnScope n_first_place p_first_place (defScope s_first_place) := ⟨rfl, rfl, rfl, by decide +kernel, rfl, by decide +kernel, by decide +kernel⟩
def sp_first_place (K : PySem.W.Frag) : Sp := fun vs H Q _ => ∃ (v : V) (x : Vec), vs = [v] ∧ rTI K H v x ∧ (∀ H', SB S0 H H' → (firstp x = none → Q .non H') ∧ ∀ p, firstp x = some p → Q (.int p) H')
theorem firstp_at {x : Vec} {i : Nat} (hi : i < x.length) (h : ∀ j, j < i → at0 x j = 0) (h0 : at0 x i ≠ 0) : firstp x = some i := by
  unfold firstp
  rw [List.findIdx?_eq_some_iff_getElem]
  refine ⟨hi, ?_, fun j hj => ?_⟩
  · rw [at0_get (List.getElem?_eq_getElem hi)] at h0
    simpa using h0
  · have := h j hj
    rw [at0_get (List.getElem?_eq_getElem (by omega : j < x.length))] at this
    simpa using this
theorem firstp_no {x : Vec} (h : ∀ j, j < x.length → at0 x j = 0) : firstp x = none := by
  unfold firstp
  rw [List.findIdx?_eq_none_iff]
  intro u hu
  obtain ⟨i, hi⟩ := List.getElem?_of_mem hu
  have := h i (List.getElem?_eq_some_iff.mp hi).1
  rw [at0_get hi] at this
  simpa using this
theorem ok_first_place {f : Addr} {fd : FuncData} {k : Nat} (F : Fun K "first_place" "first_place" s_first_place f fd) (m_enumerate : mg "enumerate" = none) : FnOk P w K mg base CX0 (k + 1) f fd p_first_place (sp_first_place K) := by
  refine F.ok sc_first_place (fun vs H Q E h => ?_) (fun cdv A outer s H vs Q E hr h => ?_)
  · obtain ⟨v, x, rfl, _⟩ := h
    rfl
  · obtain ⟨v, x, rfl, ⟨a, rfl, ha⟩, q⟩ := h
    refine ⟨_, (pss_cons (ps_for PassesOwn.never rfl (pi_enumS (by rfl) m_enumerate (pa_cons (pv 0) pa_nil)) (pg_tup rfl (pgs_cons (pg_name (i := 1) sc_first_place.nd rfl (.inl rfl)) (pgs_cons (pg_name (i := 2) sc_first_place.nd rfl (.inl rfl)) pgs_nil)))
      (pss_one (ps_if (pt_cmpR op_ne (pv 2) pe_int (nomark _))
      (pss_one (ps_ret (pv 1))) pss_nil)))
      (pss_one (ps_ret pe_non))), ?_⟩
    have lx : (x.map V.int).length = x.length := List.length_map _
    refine tfor_walk (S := S0) (H := H) (wi_enT (fun R r => ⟨.ref a, rfl, r⟩) ha) (walks_enT ha) (fun i σ H' => ∃ y1 y2, σ = [some (.ref a), y1, y2] ∧ SB S0 H H' ∧ ∀ j, j < i → at0 x j = 0) ⟨none, none, rfl, SB.refl _, fun j hj => absurd hj (Nat.not_lt_zero _)⟩ (fun i σ H' _ ⟨_, _, _, s, _⟩ => s) ?_ ?_
    · rintro i t σ H1 H' hi ⟨y1, y2, rfl, s1, hz⟩ s2 ⟨T, u, rfl, hT, hu⟩
      obtain ⟨n, hn, rfl⟩ := ints_get hu
      have en := at0_get hn
      refine ⟨T, [.int (i : Nat), .int n], rfl, hT, rfl, .int (i : Nat), [.int n], rfl, .int n, [], rfl, rfl, ?_⟩
      refine ⟨.int n, rfl, rfl, _, rfl, ite2 (fun e => ?_) (fun e => ?_)⟩
      · have n0 : n ≠ 0 := fun z => by
          subst z
          exact absurd e (by decide)
        refine ⟨.int (i : Nat), rfl, (q H' (s1.trans s2)).2 i (firstp_at (by omega) hz (by rw [en]; exact n0))⟩
      · have n0 : n = 0 := by
          have h1 : V.int n = V.int 0 := by simpa using e
          exact V.int.inj h1
        refine ⟨_, _, rfl, s1.trans s2, fun j hj => ?_⟩
        rcases Nat.lt_succ_iff_lt_or_eq.mp hj with z | z
        · exact hz j z
        · rw [z, en, n0]
    · rintro σ H' ⟨y1, y2, rfl, s1, hz⟩
      exact (q H' s1).1 (firstp_no fun j hj => hz j (by rw [lx]; exact hj))
abbrev s_echelon : Stmt := topS 9
abbrev n_echelon : List Str := ["rows", "leads", "row", "rest", "place", "spot", "lead"]
abbrev p_echelon : List Str := ["rows"]
theorem sc_echelon : FnScope n_echelon p_echelon (defScope s_echelon) := ⟨rfl, rfl, rfl, by decide +kernel, rfl, by decide +kernel, by decide +kernel⟩
def sp_echelon (K : PySem.W.Frag) : Sp := fun vs H Q _ => ∃ (a : Addr) (rows : List Vec) (n b : Nat), vs = [.ref a] ∧ LsR K (rTI K) H a rows ∧ (∀ r ∈ rows, r.length = n ∧ Bd b r) ∧ n < sizeLine ∧ rows.length ≤ 1000 ∧ LB b rows.length ≤ 33554432 ∧
  ∀ p H', H p = none → SB S0 H H' → LsT (rLead K) H' p (ech rows) → Q (.ref p) H'
theorem ok_echelon {f : Addr} {fd : FuncData} {k : Nat} (F : Fun K "echelon" "echelon" s_echelon f fd) (c_lowest : Cal P w K mg base k "lowest" p_lowest (sp_lowest K)) (c_reduced : Cal P w K mg base k "reduced" p_reduced (sp_reduced K)) (c_first_place : Cal P w K mg base k "first_place" p_first_place (sp_first_place K)) (c_opposite : Cal P w K mg base k "opposite" p_opposite (sp_opposite K)) (c_cleared : Cal P w K mg base k "cleared" p_cleared (sp_cleared K)) : FnOk P w K mg base CX0 (k + 1) f fd p_echelon (sp_echelon K) := by
  refine F.ok sc_echelon (fun vs H Q E h => ?_) (fun cdv A outer s H vs Q E hr h => ?_)
  · obtain ⟨a, rows, n, b, rfl, _⟩ := h
    rfl
  · obtain ⟨a, rows, n, b, rfl, ⟨vs, ha, hp⟩, hrows, hz, hlr, hLB, q⟩ := h
    have lv : vs.length = rows.length := Paired.length hp
    refine ⟨_, (pss_cons (ps_set (i := 1) sc_echelon.nd rfl (.inl rfl) (pe_lst pa_nil))
      (pss_cons (ps_for PassesOwn.never rfl (pi_seqK (K := K) rfl (pv 0)) (pg_name (i := 2) sc_echelon.nd rfl (.inl rfl))
      (pss_cons (ps_set (i := 3) sc_echelon.nd rfl (.inr rfl) (pe_callC c_lowest hr (by rfl) (pa_cons (pe_callC c_reduced hr (by rfl) (pa_cons (pv 2) (pa_cons (pv 1) pa_nil))) pa_nil)))
      (pss_cons (ps_set (i := 4) sc_echelon.nd rfl (.inr rfl) (pe_callC c_first_place hr (by rfl) (pa_cons (pv 3) pa_nil)))
      (pss_cons (ps_if (pt_cmpR op_isN (pv 4) pe_non (nomark _))
      (pss_one ps_continue) pss_nil)
      (pss_cons (ps_if (pt_cmpR op_lt (pe_ix (ix_tupK (K := K) rfl) (pv 3) (pv 4) (fun _ _ => rfl)) pe_int (nomark _))
      (pss_one (ps_set (i := 3) sc_echelon.nd rfl (.inr rfl) (pe_callC c_opposite hr (by rfl) (pa_cons (pv 3) pa_nil)))) pss_nil)
      (pss_cons (ps_setLc (i := 1) (own := [("spot", 5), ("lead", 6)]) (g := gTup K 2 (gCons (gName 5) (gCons (gName 6) gNil))) (by rfl) sc_echelon.nd rfl rfl (sw_true rfl rfl rfl (by decide +kernel)) (pi_seqK (K := K) rfl (pv 1)) (blkOk_by (N := n_echelon) (sc := defScope s_echelon) (own := [("spot", 5), ("lead", 6)]) (by decide +kernel)) (fun _ _ _ _ _ => (pg_tup rfl (pgs_cons (pg_name (i := 5) sc_echelon.nd rfl (.inl rfl)) (pgs_cons (pg_name (i := 6) sc_echelon.nd rfl (.inl rfl)) pgs_nil)))) (fun _ _ _ _ _ => pts_nil) (fun _ _ _ _ _ => (pe_tup (pa_cons (pv 5) (pa_cons (pe_callC c_cleared hr (by rfl) (pa_cons (pv 6) (pa_cons (pv 4) (pa_cons (pv 3) pa_nil)))) pa_nil)))))
      (pss_one (ps_expr (pe_bm PySem.F.plainAttrs_list PySem.F.slot_list_append PySem.F.type_list_append mt_append (pv 1) (pa_cons (pe_tup (pa_cons (pv 4) (pa_cons (pv 3) pa_nil))) pa_nil))))))))))
      (pss_one (ps_ret (pv 1))))), ?_⟩
    refine ⟨Nat.zero_le _, fun l0 hl0 => ?_⟩
    have s0 : SB S0 H (upd H l0 (.lst [])) := SB.new hl0
    have ha0 := s0.sqL (fun z => z) ha
    dsimp only [gName, tSeq]
    refine tfor_walk (S := S0) (H := upd H l0 (.lst [])) (wi_list (tVar_at rfl) ha0) (walks_list (fun z => z) ha0) (fun i σ H' => ∃ l us y2 y3 y4 y5 y6, σ = [some (.ref a), some (.ref l), y2, y3, y4, y5, y6] ∧ H l = none ∧ SB S0 H H' ∧ H' l = some (.lst us) ∧ Paired (rLead K H') us (ech (rows.take i)) ∧ SB S0 (upd H l0 (.lst [])) H') ⟨l0, [], none, none, none, none, none, rfl, hl0, s0, upd_same, .nil, SB.refl _⟩ (fun i σ H' _ ⟨_, _, _, _, _, _, _, _, _, _, _, _, s⟩ => s) ?_ ?_
    · rintro i t σ H1 H' hi ⟨l, us, y2, y3, y4, y5, y6, rfl, hl, s1, hlu, hpu, s01⟩ s2 ht
      obtain ⟨r, er, hr1⟩ := Paired.get hp ht
      have mr : r ∈ rows := List.mem_of_getElem? er
      have lr := (hrows r mr).1
      have E := ech_ok (n := n) (rows := rows.take i) fun v hv => (hrows v (List.mem_of_mem_take hv)).1
      have sz := ech_sizes (n := n) (b := b) (rows := rows) (fun r hr => (hrows r hr).1) (fun r hr => (hrows r hr).2) i
      have hlen := ech_len rows i
      have hlt : i < rows.length := (List.getElem?_eq_some_iff.mp er).1
      have hLBi : (i + 2) * (LB b i + 2) ≤ 33554432 := Nat.le_trans (LB_mono b (show i + 1 ≤ rows.length from hlt)) hLB
      have hLb := LB_le b i
      have hm : (ech (rows.take i)).length * (LB b i + 1) ≤ i * (LB b i + 1) := Nat.mul_le_mul_right _ hlen
      have e1 : (i + 2) * (LB b i + 2) = i * (LB b i + 1) + i + 2 * (LB b i) + 4 := by grind
      have tk := ech_take er
      generalize hL : ech (rows.take i) = L at *
      have hlu' := s2.2 _ _ (fun z => z) hlu
      have s12 := s1.trans s2
      have plc : ∀ q ∈ L, q.2.length = r.length ∧ q.1 < r.length := fun q hq => by
        refine ⟨by rw [E.len q hq, lr], ?_⟩
        have h0 := E.pos q hq
        refine Nat.lt_of_not_le fun z => ?_
        rw [at0_out (by rw [E.len q hq, ← lr]; exact z)] at h0
        omega
      have br : Bd (b + L.length * (LB b i + 1)) (redu r L) := Bd.redu E.toLeads lr (hrows r mr).2 sz
      have lred := redu_length E.toLeads lr
      have hzr : r.length < sizeLine := by rw [lr]; exact hz
      -- what is left of the row
      refine ⟨t, rfl, .ref l, rfl, t, l, r, L, b, LB b i, rfl, mono_TI _ _ _ _ s12.1 hr1, ⟨us, .inl (.inl hlu'), Paired.imp hpu fun a b h => mono_Lead _ _ _ _ s2.1 h⟩, plc, hzr, (hrows r mr).2, sz, by omega, by omega, fun u1 H2 s3 hu1 => ?_⟩
      obtain ⟨a1, rfl, ha1⟩ := hu1
      refine ⟨a1, redu r L, rfl, .inr ha1, by rw [lred]; exact hz, fun u2 H3 s4 hu2 => ?_⟩
      refine ⟨u2, rfl, u2, low (redu r L), rfl, hu2, fun H4 s5 => ⟨fun hf => ?_, fun p hf => ?_⟩⟩
      · -- nothing is left
        have s15 := (((s12.trans s3).trans s4).trans s5)
        refine ⟨.non, rfl, rfl, _, rfl, iteT ?_⟩
        refine ⟨l, us, _, _, _, _, _, rfl, hl, s15, ((s3.trans s4).trans s5).2 _ _ (fun z => z) hlu', ?_, (((s01.trans s2).trans s3).trans s4).trans s5⟩
        rw [tk]
        have e : echStep L r = L := by
          unfold echStep
          rw [hf]
        rw [e]
        exact Paired.imp hpu fun a b h => mono_Lead _ _ _ _ (((s2.trans s3).trans s4).trans s5).1 h
      · obtain ⟨hp1, p0, _⟩ := firstp_some hf
        have hu2' := mono_TI _ _ _ _ s5.1 hu2
        refine ⟨.int p, rfl, rfl, _, rfl, iteF ?_⟩
        dsimp only [tNext]
        refine seqcut (fun σ H' => ∃ u y5 y6, σ = [some (.ref a), some (.ref l), some t, some u, some (.int p), y5, y6] ∧ SB S0 H4 H' ∧ rTI K H' u (posed (low (redu r L)) p)) (fun U hU => ?_) (fun σ H5 hM => ?_)
        · obtain ⟨a2, rfl, ha2⟩ := hu2'
          refine ⟨.ref a2, rfl, .int p, rfl, a2, _, _, _, rfl, rfl, ha2, at_TI hp1, _, 0, rfl, rfl, _, rfl, ite2 (fun e => ?_) (fun e => ?_)⟩
          · have e0 : at0 (low (redu r L)) p < 0 := of_decide_eq_true e
            refine ⟨.ref a2, rfl, .ref a2, _, rfl, ⟨a2, rfl, ha2⟩, by rw [low_length, lred]; exact hz, fun u H5 s6 hu => ?_⟩
            refine hU _ _ ⟨u, _, _, rfl, s6, ?_⟩
            rw [show posed (low (redu r L)) p = neg (low (redu r L)) from if_pos e0]
            exact hu
          · have e0 : ¬ at0 (low (redu r L)) p < 0 := fun z => e (decide_eq_true z)
            refine hU _ _ ⟨.ref a2, _, _, rfl, SB.refl _, ?_⟩
            rw [show posed (low (redu r L)) p = low (redu r L) from if_neg e0]
            exact ⟨a2, rfl, ha2⟩
        · obtain ⟨u, y5', y6', rfl, s6, hu⟩ := hM
          have ll : (posed (low (redu r L)) p).length = n := by rw [posed_length, low_length, lred]
          have bl : Bd (b + L.length * (LB b i + 1)) (posed (low (redu r L)) p) := br.low.posed
          have hpn : p < n := by rw [low_length, lred] at hp1; exact hp1
          have es : echStep L r = L.map (fun q => (q.1, clear q.2 p (posed (low (redu r L)) p))) ++ [(p, posed (low (redu r L)) p)] := by
            unfold echStep
            rw [hf]
          generalize hnew : posed (low (redu r L)) p = nl at *
          have s26 := (((s2.trans s3).trans s4).trans s5).trans s6
          have hlu6 := ((((s3.trans s4).trans s5).trans s6)).2 _ _ (fun z => z) hlu'
          have hpu6 : Paired (rLead K H5) us L := Paired.imp hpu fun a b h => mono_Lead _ _ _ _ s26.1 h
          have lus : us.length = L.length := Paired.length hpu
          dsimp only [tSeq, tAsg]
          refine tlc_walk (S := S0) (H := H5) (wi_list (tVar_at rfl) (SqL.of hlu6)) (walks_lst (fun z => z) hlu6) (by rw [lus]; exact small1000 (by omega)) (fun _ => rLead K) (fun j => (L.map (fun q => (q.1, clear q.2 p nl)))[j]?) (fun _ _ _ _ _ _ s h => mono_Lead _ _ _ _ s.1 h) (fun _ _ z => z) ?_ ?_
          · rintro D j tq H6 QY QN hD hj s7 _ hq hY hN
            obtain ⟨qd, eq, hq2⟩ := Paired.get hpu6 hq
            obtain ⟨aq, w1, w2, rfl, hT, hw1, hw2⟩ := mono_Lead _ _ _ _ s7.1 hq2
            obtain rfl : w1 = .int qd.1 := hw1
            have mq : qd ∈ L := List.mem_of_getElem? eq
            refine ⟨aq, [.int qd.1, w2], rfl, hT, rfl, .int qd.1, [w2], rfl, w2, [], rfl, rfl, rfl, tyes ?_⟩
            refine ⟨.int qd.1, rfl, w2, rfl, .int p, rfl, u, rfl, w2, u, p, qd.2, nl, b + i * (LB b i + 1) + LB b i, rfl, hw2, mono_TI _ _ _ _ s7.1 hu, by rw [E.len qd mq, ll], by rw [E.len qd mq]; exact hpn, by rw [E.len qd mq]; exact hz, (sz qd mq).mono (by omega), bl.mono (by omega), by omega, fun u3 H7 s8 hu3 => ?_⟩
            refine ⟨by show 2 ≤ sizeLine; decide, fun T hT2 => ?_⟩
            have s9 : SB S0 H7 (upd H7 T (.tup [.int qd.1, u3])) := SB.new hT2
            refine hY _ _ (qd.1, clear qd.2 p nl) ?_ (s8.trans s9) ⟨T, .int qd.1, u3, rfl, .inl (.inl upd_same), rfl, mono_TI _ _ _ _ s9.1 hu3⟩
            show (L.map (fun q => (q.1, clear q.2 p nl)))[j]? = _
            rw [List.getElem?_map, eq]
            rfl
          · intro D Hf vs2 hD s7 hDl pD
            rw [show us.length = (L.map (fun q => (q.1, clear q.2 p nl))).length by rw [List.length_map, lus], range_get] at pD
            have lvs : vs2.length = L.length := by rw [Paired.length pD, List.length_map]
            refine ⟨.ref D, rfl, .inl ⟨rfl, _, .inl (.inl hDl)⟩, .int p, rfl, u, rfl, by show 2 ≤ sizeLine; decide, fun T hT => ?_⟩
            have s8 : SB S0 Hf (upd Hf T (.tup [.int p, u])) := SB.new hT
            have hDl8 := s8.2 _ _ (fun z => z) hDl
            refine ⟨D, _, _, rfl, rfl, hDl8, by rw [lvs]; exact small1000 (by omega), ?_⟩
            have HD : H D = none := by
              cases hh : H D with
              | none => rfl
              | some o =>
                have := (((((s12.trans s3).trans s4).trans s5).trans s6)).2 _ _ (fun z => z) hh
                rw [hD] at this
                cases this
            have HD0 : (upd H l0 (.lst [])) D = none := by
              cases hh : (upd H l0 (.lst [])) D with
              | none => rfl
              | some o =>
                have := ((s01.trans s26)).2 _ _ (fun z => z) hh
                rw [hD] at this
                cases this
            have s18 : SB S0 H (upd Hf T (.tup [.int p, u])) := (((((s12.trans s3).trans s4).trans s5).trans s6).trans s7).trans s8
            have s018 : SB S0 (upd H l0 (.lst [])) (upd Hf T (.tup [.int p, u])) := ((s01.trans s26).trans s7).trans s8
            have put : ∀ {G : Hp} {z : HO}, SB S0 G (upd Hf T (.tup [.int p, u])) → G D = none → SB S0 G (upd (upd Hf T (.tup [.int p, u])) D z) := fun {G z} sg gD => by
              have : SB (fun b => b = D) (upd Hf T (.tup [.int p, u])) (upd (upd Hf T (.tup [.int p, u])) D z) := SB.put hDl8 (.inl ⟨_, rfl⟩) rfl
              exact (sg.any.trans this).less fun b hb => .inr (by rw [hb]; exact gD)
            have tp : Tst Hf (upd (upd Hf T (.tup [.int p, u])) D (.lst (vs2 ++ [.ref T]))) := by
              have : SB (fun b => b = D) (upd Hf T (.tup [.int p, u])) (upd (upd Hf T (.tup [.int p, u])) D (.lst (vs2 ++ [.ref T]))) := SB.put hDl8 (.inl ⟨_, rfl⟩) rfl
              exact s8.1.trans this.1
            refine ⟨D, vs2 ++ [.ref T], _, _, _, _, _, rfl, HD, put s18 HD, upd_same, ?_, put s018 HD0⟩
            rw [tk, es]
            refine Paired.app (Paired.imp pD fun a b h => mono_Lead _ _ _ _ tp h) (.cons ⟨T, .int p, u, rfl, ?_, rfl, mono_TI _ _ _ _ (s7.1.trans tp) hu⟩ .nil)
            refine .inl (.inl ?_)
            rw [upd_ne (fun z => by rw [z, hDl] at hT; cases hT), upd_same]
    · rintro σ H' ⟨l, us, y2, y3, y4, y5, y6, rfl, hl, s1, hlu, hpu, s01⟩
      rw [show rows.take vs.length = rows by rw [lv, List.take_length]] at hpu
      exact ⟨.ref l, rfl, q l H' hl s1 ⟨us, hlu, hpu⟩⟩
abbrev s_cone : Stmt := topS 19
abbrev n_cone : List Str := ["rows", "size", "lines", "masked", "bit", "row", "place", "leads", "rays", "ray", "mask", "lead"]
abbrev p_cone : List Str := ["rows", "size"]
theorem sc_cone : FnScope n_cone p_cone (defScope s_cone) := ⟨rfl, rfl, rfl, by decide +kernel, rfl, by decide +kernel, by decide +kernel⟩
def sp_cone (K : PySem.W.Frag) : Sp := fun vs H Q _ => ∃ (a : Addr) (n c B : Nat) (rows : List Vec), vs = [.ref a, .int n] ∧ LsR K (rTI K) H a rows ∧ (∀ r ∈ rows, r.length = n ∧ Bd c r) ∧ 1 ≤ n ∧ n ≤ 8 ∧ RunFits n c B rows ∧
  ∀ t kl kr H' ls rs, SB S0 H H' → SqT K H' t [.ref kl, .ref kr] → LsT (rTI K) H' kl ls → LsT (rTI K) H' kr rs → ls.Perm ((coneL rows n).map (·.2)) → ls.Pairwise (fun x y => lexI y x = false) → rs.Perm (coneR rows n) → rs.Pairwise (fun x y => lexI y x = false) → Q (.ref t) H'
theorem ok_cone {f : Addr} {fd : FuncData} {k : Nat} (F : Fun K "cone" "cone" s_cone f fd) (c_unit : Cal P w K mg base k "unit" p_unit (sp_unit K)) (c_crossing : Cal P w K mg base k "crossing" p_crossing (sp_crossing K)) (c_halved : Cal P w K mg base k "halved" p_halved (sp_halved K)) (c_bent : Cal P w K mg base k "bent" p_bent (sp_bent K)) (c_echelon : Cal P w K mg base k "echelon" p_echelon (sp_echelon K)) (c_reduced : Cal P w K mg base k "reduced" p_reduced (sp_reduced K)) (m_range : mg "range" = none) (m_len : mg "len" = none) (m_sorted : mg "sorted" = none) : FnOk P w K mg base CX0 (k + 1) f fd p_cone (sp_cone K) := by
  refine F.ok sc_cone (fun vs H Q E h => ?_) (fun cdv A outer s H vs Q E hr h => ?_)
  · obtain ⟨a, n, c, B, rows, rfl, _⟩ := h
    rfl
  · obtain ⟨a, n, c, B, rows, rfl, ⟨ur, ha, pr⟩, hrows, n1, n8, RF, q⟩ := h
    have lur : ur.length = rows.length := Paired.length pr
    refine ⟨_, (pss_cons (ps_setLc (i := 2) (own := [("place", 6)]) (g := gName 6) (by rfl) sc_cone.nd rfl rfl (sw_true rfl rfl rfl (by decide +kernel)) (pi_range1 (by rfl) m_range (pa_cons (pv 1) pa_nil)) (blkOk_by (N := n_cone) (sc := defScope s_cone) (own := [("place", 6)]) (by decide +kernel)) (fun _ _ _ _ _ => (pg_name (i := 6) sc_cone.nd rfl (.inl rfl))) (fun _ _ _ _ _ => pts_nil) (fun _ _ _ _ _ => (pe_callC c_unit hr (by rfl) (pa_cons (pv 1) (pa_cons (pv 6) pa_nil)))))
      (pss_cons (ps_set (i := 3) sc_cone.nd rfl (.inl rfl) (pe_lst pa_nil))
      (pss_cons (ps_set (i := 4) sc_cone.nd rfl (.inl rfl) pe_int)
      (pss_cons (ps_for PassesOwn.never rfl (pi_seqK (K := K) rfl (pv 0)) (pg_name (i := 5) sc_cone.nd rfl (.inl rfl))
      (pss_cons (ps_set (i := 6) sc_cone.nd rfl (.inl rfl) (pe_callC c_crossing hr (by rfl) (pa_cons (pv 2) (pa_cons (pv 5) pa_nil))))
      (pss_cons (ps_if (pt_cmpR op_isN (pv 6) pe_non (nomark _))
      (pss_one (ps_set (i := 3) sc_cone.nd rfl (.inl rfl) (pe_callC c_halved hr (by rfl) (pa_cons (pv 3) (pa_cons (pv 5) (pa_cons (pv 4) (pa_cons (pe_op op_sub (pe_op op_sub (pv 1) (pe_callB (len_ofK (K := K) rfl) (by rfl) m_len PySem.boot_len (pa_cons (pv 2) pa_nil))) pe_int) pa_nil))))))) (pss_one (ps_asg (pe_callC c_bent hr (by rfl) (pa_cons (pv 2) (pa_cons (pv 6) (pa_cons (pv 3) (pa_cons (pv 5) (pa_cons (pv 4) pa_nil)))))) (pg_tup rfl (pgs_cons (pg_name (i := 2) sc_cone.nd rfl (.inl rfl)) (pgs_cons (pg_name (i := 3) sc_cone.nd rfl (.inl rfl)) pgs_nil))))))
      (pss_one (ps_set (i := 4) sc_cone.nd rfl (.inl rfl) (pe_op op_mulK (pv 4) pe_int))))))
      (pss_cons (ps_set (i := 7) sc_cone.nd rfl (.inr rfl) (pe_callC c_echelon hr (by rfl) (pa_cons (pv 2) pa_nil)))
      (pss_cons (ps_setLc (i := 8) (own := [("ray", 9), ("mask", 10)]) (g := gTup K 2 (gCons (gName 9) (gCons (gName 10) gNil))) (by rfl) sc_cone.nd rfl rfl (sw_true rfl rfl rfl (by decide +kernel)) (pi_seqK (K := K) rfl (pv 3)) (blkOk_by (N := n_cone) (sc := defScope s_cone) (own := [("ray", 9), ("mask", 10)]) (by decide +kernel)) (fun _ _ _ _ _ => (pg_tup rfl (pgs_cons (pg_name (i := 9) sc_cone.nd rfl (.inl rfl)) (pgs_cons (pg_name (i := 10) sc_cone.nd rfl (.inl rfl)) pgs_nil)))) (fun _ _ _ _ _ => pts_nil) (fun _ _ _ _ _ => (pe_callC c_reduced hr (by rfl) (pa_cons (pv 9) (pa_cons (pv 7) pa_nil)))))
      (pss_one (ps_ret (pe_tup (pa_cons (pe_callB (sort_ofK (K := K) rfl) (by rfl) m_sorted (by decide +kernel) (pa_cons (pe_lc (own := [("place", 6), ("lead", 11)]) (g := gTup K 2 (gCons (gName 6) (gCons (gName 11) gNil))) (by rfl) sc_cone.nd (pi_seqK (K := K) rfl (pv 7)) (blkOk_by (N := n_cone) (sc := defScope s_cone) (own := [("place", 6), ("lead", 11)]) (by decide +kernel)) (fun _ _ _ _ _ => (pg_tup rfl (pgs_cons (pg_name (i := 6) sc_cone.nd rfl (.inl rfl)) (pgs_cons (pg_name (i := 11) sc_cone.nd rfl (.inl rfl)) pgs_nil)))) (fun _ _ _ _ _ => pts_nil) (fun _ _ _ _ _ => (pv 11))) pa_nil)) (pa_cons (pe_callB (sort_ofK (K := K) rfl) (by rfl) m_sorted (by decide +kernel) (pa_cons (pv 8) pa_nil)) pa_nil))))))))))), ?_⟩
    -- lines along the axes
    refine tSeq_i (tAsg_i (tlc_walk (S := S0) (H := H) (wi_rng (n := (n : Int)) (fun R r => ⟨.int n, rfl, r⟩) (by omega) (by omega)) (fun _ _ => walks_range) (by rw [Int.toNat_natCast]; exact small1000 (by omega)) (fun _ => rTI K) (fun i => ((List.range n).map (unitv n))[i]?) (fun _ _ _ _ _ _ s h => mono_TI _ _ _ _ s.1 h) (fun _ _ z => z) ?_ ?_))
    · rintro D j x H' QY QN hD hj sb _ rfl hY hN
      rw [Int.toNat_natCast] at hj
      have e0 : ((0 : Int) + (j : Int)) = (j : Int) := by omega
      rw [e0]
      refine ⟨rfl, tyes ?_⟩
      refine ⟨.int n, rfl, .int j, rfl, n, j, rfl, by omega, fun u H2 s2 hu => ?_⟩
      refine hY _ _ (unitv n j) ?_ s2 hu
      show ((List.range n).map (unitv n))[j]? = _
      rw [List.getElem?_map, List.getElem?_range hj]
      rfl
    intro L0 H1 v1 hL0 s1 hL0l p1
    have er := range_get ((List.range n).map (unitv n))
    rw [List.length_map, List.length_range] at er
    rw [Int.toNat_natCast, er] at p1
    refine ⟨Nat.zero_le _, fun M0 hM0 => ?_⟩
    have s2 : SB S0 H1 (upd H1 M0 (.lst [])) := SB.new hM0
    have M0l : (upd H1 M0 (.lst [])) M0 = some (.lst []) := upd_same
    generalize hG : upd H1 M0 (.lst []) = G at *
    have s12 := s1.trans s2
    have haG := s12.sqL (fun z => z) ha
    have prG := pairs_keep mono_TI s12.1 pr
    dsimp only [gName]
    refine tSeq_i (tSeq_i (tfor_walk (S := S0) (H := G) (wi_list (tVar_at rfl) haG) (walks_list (fun z => z) haG) (fun i σ H' => ∃ (L M : Addr) (y5 y6 : Option V), σ = [some (.ref a), some (.int n), some (.ref L), some (.ref M), some (.int (coneRun (rows.take i) n).bit), y5, y6, none, none, none, none, none] ∧ SB S0 G H' ∧ LsT (rTI K) H' L (coneRun (rows.take i) n).lines ∧ LsT (rRay K) H' M (coneRun (rows.take i) n).masked) ⟨L0, M0, none, none, rfl, SB.refl _, ⟨v1, s2.2 _ _ (fun z => z) hL0l, pairs_keep mono_TI s2.1 p1⟩, ⟨[], M0l, .nil⟩⟩ (fun i σ H' _ ⟨_, _, _, _, _, s, _⟩ => s) ?_ ?_))
    · rintro i t σ H3 H4 hi ⟨L, M, y5, y6, rfl, s3, hL3, hM3⟩ s4 ht
      obtain ⟨r, er', hr1⟩ := Paired.get prG ht
      have mr : r ∈ rows := List.mem_of_getElem? er'
      obtain ⟨lr, br⟩ := hrows r mr
      have hlt : i < rows.length := (List.getElem?_eq_some_iff.mp er').1
      have lti : (rows.take i).length = i := by rw [List.length_take]; omega
      have et : rows.take (i + 1) = rows.take i ++ [r] := by rw [List.take_add_one, er', Option.toList_some]
      have hh := run_hold n (rows.take i)
      have hzr := RF.ray i (by omega)
      have hzl := RF.lin i (by omega)
      have hzc := RF.cnt i (by omega)
      have hzc1 := RF.cnt (i + 1) (by omega)
      have hln := run_lines_le n (rows.take i)
      have fit := RF.fit
      have ddm := run_ddm n (rows.take i)
      have hfew := fun (h : Ray) mh (l : Ray) ml ne => ddm.nbOk (hi := h) (lo := l) (fun r hr => (hrows r (List.mem_of_mem_take hr)).1) (by rw [lti]; have := RF.few; omega) mh ml ne
      have es : coneRun (rows.take (i + 1)) n = coneStep (coneRun (rows.take i) n) r := by rw [et, run_snoc]
      rw [es] at hzc1 ⊢
      clear ddm
      generalize hst : coneRun (rows.take i) n = st at *
      have s34 := s3.trans s4
      have hL4 := hL3.keep mono_TI s4
      have hM4 := hM3.keep mono_Ray s4
      have hr4 := mono_TI _ _ _ _ s34.1 hr1
      refine ⟨.ref L, rfl, t, rfl, L, t, st.lines, r, n, B + c, rfl, hL4.ls, hr4, fun l hl => ⟨(hh.ll l hl).1, (hzl l hl).mono (by omega)⟩, lr, by omega, br.mono (by omega), by omega, fun H5 s5 => ⟨fun hc => ?_, fun p hc => ?_⟩⟩
      · -- no line crosses
        have e1 : coneStep st r = ⟨st.lines, halvedR st.masked r st.bit, st.bit * 2⟩ := by
          unfold coneStep
          rw [hc]
        rw [e1] at hzc1 ⊢
        refine ⟨.non, rfl, rfl, _, rfl, iteT ?_⟩
        obtain ⟨ul, hul, pul⟩ := hL4.keep mono_TI s5
        have lul : ul.length = st.lines.length := Paired.length pul
        refine ⟨.ref M, rfl, t, rfl, .int st.bit, rfl, .int n, rfl, .ref L, rfl, L, ul, rfl, .inl (SqL.of hul), (n : Int), ul.length, rfl, rfl, (n : Int) - ul.length, 2, rfl, rfl, ?_⟩
        rw [lul]
        refine ⟨M, t, st.bit, st.masked, r, n, B, c, (n : Int) - st.lines.length - 2, (rows.take i).length, rfl, hfew, (hM4.keep mono_Ray s5).ls, mono_TI _ _ _ _ s5.1 hr4, fun q hq => ⟨(hh.rl q hq).1, hzr q hq⟩, lr, br, n8, by omega, hzc, hzc1, fun P H6 hP s6 hPl => ?_⟩
        refine ⟨.int st.bit, rfl, st.bit, 2, rfl, rfl, mulK_right (by decide) (by decide), ?_⟩
        exact ⟨L, P, _, _, rfl, (s34.trans s5).trans s6, (hL4.keep mono_TI s5).keep mono_TI s6, hPl⟩
      · have e1 : coneStep st r = ⟨bentL st.lines p r, bentR st.lines p st.masked r st.bit, st.bit * 2⟩ := by
          unfold coneStep
          rw [hc]
        rw [e1]
        refine ⟨.int p, rfl, rfl, _, rfl, iteF ?_⟩
        refine ⟨.ref L, rfl, .int p, rfl, .ref M, rfl, t, rfl, .int st.bit, rfl, L, M, p, t, st.bit, st.lines, st.masked, r, n, B, c, rfl, (hL4.keep mono_TI s5).ls, (hM4.keep mono_Ray s5).ls, mono_TI _ _ _ _ s5.1 hr4, fun l hl => ⟨(hh.ll l hl).1, hzl l hl⟩, fun q hq => ⟨(hh.rl q hq).1, hzr q hq⟩, lr, br, n8, by omega, hc, by omega, hzc, fun t2 kl ml H6 s6 hT hkl hml => ?_⟩
        refine ⟨t2, [.ref kl, .ref ml], rfl, hT, rfl, .ref kl, [.ref ml], rfl, .ref ml, [], rfl, rfl, ?_⟩
        refine ⟨.int st.bit, rfl, st.bit, 2, rfl, rfl, mulK_right (by decide) (by decide), ?_⟩
        exact ⟨kl, ml, _, _, rfl, (s34.trans s5).trans s6, hkl, hml⟩
    rintro σ H3 ⟨L, M, y5, y6, rfl, s3, hL3, hM3⟩
    rw [show rows.take ur.length = rows by rw [lur, List.take_length]] at hL3 hM3 ⊢
    have hh := run_hold n rows
    have hzr := RF.ray rows.length (Nat.le_refl _)
    have hzc := RF.cnt rows.length (Nat.le_refl _)
    rw [List.take_length] at hzr hzc
    have hln := run_lines_le n rows
    have fit := RF.fit
    obtain ⟨Lb, hzl, hLB0, fitE⟩ := RF.ech
    have E := ech_ok (n := n) (rows := (coneRun rows n).lines) fun l hl => (hh.ll l hl).1
    have eL : ech (coneRun rows n).lines = coneL rows n := rfl
    -- leads
    refine ⟨.ref L, rfl, L, (coneRun rows n).lines, n, Lb, rfl, hL3.ls, fun l hl => ⟨(hh.ll l hl).1, hzl l hl⟩, small1000 (by omega), by omega, by omega, fun P H4 hP s4 hPl => ?_⟩
    obtain ⟨vp, hvp, pP⟩ := hPl
    rw [eL] at pP
    have E' : Ech n (coneRun rows n).lines (coneL rows n) := E
    have lvp : vp.length = (coneL rows n).length := Paired.length pP
    have kL : (coneL rows n).length ≤ (coneRun rows n).lines.length := by
      have := ech_len (coneRun rows n).lines (coneRun rows n).lines.length
      rw [List.take_length] at this
      exact this
    have szL : ∀ q ∈ coneL rows n, Bd (LB Lb (coneRun rows n).lines.length) q.2 := fun q hq => by
      have := ech_sizes (n := n) (b := Lb) (rows := (coneRun rows n).lines) (fun l hl => (hh.ll l hl).1) hzl (coneRun rows n).lines.length
      rw [List.take_length] at this
      exact this q hq
    have plc : ∀ q ∈ coneL rows n, q.2.length = n ∧ q.1 < n := fun q hq => by
      refine ⟨E'.len q hq, ?_⟩
      have h0 := E'.pos q hq
      refine Nat.lt_of_not_le fun z => ?_
      rw [at0_out (by rw [E'.len q hq]; exact z)] at h0
      omega
    -- rays without the leads
    obtain ⟨vm, hvm, pM⟩ := hM3.keep mono_Ray s4
    have lvm : vm.length = (coneRun rows n).masked.length := Paired.length pM
    have kz : vm.length < sizeLine := by
      rw [lvm]
      exact hzc
    dsimp only [gName]
    refine tSeq_i (tAsg_i (tlc_walk (S := S0) (H := H4) (wi_list (tVar_at rfl) (SqL.of hvm)) (walks_lst (fun z => z) hvm) kz (fun _ => rTI K) (fun i => (coneR rows n)[i]?) (fun _ _ _ _ _ _ s h => mono_TI _ _ _ _ s.1 h) (fun _ _ z => z) ?_ ?_))
    · rintro D i t H' QY QN hD hi sb _ ht hY hN
      obtain ⟨qd, eq, aq, w1, w2, rfl, hT, hw1, hw2⟩ := Paired.get pM ht
      obtain rfl : w2 = .int qd.2 := hw2
      have mq : qd ∈ (coneRun rows n).masked := List.mem_of_getElem? eq
      have lq := (hh.rl qd mq).1
      refine ⟨aq, [w1, .int qd.2], rfl, sb.sqT hT, rfl, w1, [.int qd.2], rfl, .int qd.2, [], rfl, rfl, rfl, tyes ?_⟩
      have f3 : (coneL rows n).length * (LB Lb (coneRun rows n).lines.length + 1) ≤ (coneRun rows n).lines.length * (LB Lb (coneRun rows n).lines.length + 1) := Nat.mul_le_mul_right _ kL
      refine ⟨w1, rfl, .ref P, rfl, w1, P, qd.1, coneL rows n, B, LB Lb (coneRun rows n).lines.length, rfl, mono_TI _ _ _ _ sb.1 hw1, ⟨vp, SqL.of (sb.2 _ _ (fun z => z) hvp), pairs_keep mono_Lead sb.1 pP⟩, fun q hq => by rw [lq]; exact plc q hq, by rw [lq]; exact small1000 (by omega), hzr qd mq, szL, by omega, by omega, fun u H2 s2' hu => ?_⟩
      refine hY _ _ (redu qd.1 (coneL rows n)) ?_ s2' hu
      show (coneR rows n)[i]? = _
      unfold coneR
      rw [List.getElem?_map, eq]
      rfl
    intro R1 H5 v5 hR1 s5 hR1l p5
    have er2 := range_get (coneR rows n)
    rw [show (coneR rows n).length = (coneRun rows n).masked.length from List.length_map _] at er2
    rw [lvm, er2] at p5
    dsimp only [gName]
    -- the leads themselves, sorted
    have hvp5 := s5.2 _ _ (fun z => z) hvp
    have pP5 := pairs_keep mono_Lead s5.1 pP
    refine tRet_i (show tTup _ _ _ _ from tCons_i (tCB_i (tCons_i (tlc_walk (S := S0) (H := H5) (wi_list (tVar_at rfl) (SqL.of hvp5)) (walks_lst (fun z => z) hvp5) (by rw [lvp]; exact small1000 (by omega)) (fun _ => rTI K) (fun i => ((coneL rows n).map (·.2))[i]?) (fun _ _ _ _ _ _ s h => mono_TI _ _ _ _ s.1 h) (fun _ _ z => z) ?_ ?_))))
    · rintro D i t H' QY QN hD hi sb _ ht hY hN
      obtain ⟨qd, eq, aq, w1, w2, rfl, hT, hw1, hw2⟩ := Paired.get pP5 ht
      refine ⟨aq, [w1, w2], rfl, sb.sqT hT, rfl, w1, [w2], rfl, w2, [], rfl, rfl, rfl, tyes ?_⟩
      refine ⟨w2, rfl, hY _ _ qd.2 ?_ (SB.refl _) (mono_TI _ _ _ _ sb.1 hw2)⟩
      show ((coneL rows n).map (·.2))[i]? = _
      rw [List.getElem?_map, eq]
      rfl
    intro S1 H6 v6 hS1 s6 hS1l p6
    have er3 := range_get ((coneL rows n).map (·.2))
    rw [List.length_map] at er3
    rw [lvp, er3] at p6
    refine ⟨S1, v6, (coneL rows n).map (·.2), n, rfl, SqL.of hS1l, p6, n1, fun k hk => ?_, fun ys ks p7 hp7 py pmy so => ?_⟩
    · obtain ⟨q', hq', rfl⟩ := List.mem_map.mp hk
      exact E'.len q' hq'
    have s7 : SB S0 H6 (upd H6 p7 (.lst ys)) := SB.new hp7
    have hR7 := (s6.trans s7).2 _ _ (fun z => z) hR1l
    refine ⟨.ref R1, rfl, R1, v5, coneR rows n, n, rfl, SqL.of hR7, pairs_keep mono_TI (s6.trans s7).1 p5, n1, fun k hk => (cone_rays k hk).1, fun ys2 ks2 p8 hp8 py2 pmy2 so2 => ?_⟩
    have s8 : SB S0 (upd H6 p7 (.lst ys)) (upd (upd H6 p7 (.lst ys)) p8 (.lst ys2)) := SB.new hp8
    refine ⟨by show 2 ≤ sizeLine; decide, fun t ht => ?_⟩
    have s9 : SB S0 (upd (upd H6 p7 (.lst ys)) p8 (.lst ys2)) (upd (upd (upd H6 p7 (.lst ys)) p8 (.lst ys2)) t (.tup [.ref p7, .ref p8])) := SB.new ht
    have sAll : SB S0 H (upd (upd (upd H6 p7 (.lst ys)) p8 (.lst ys2)) t (.tup [.ref p7, .ref p8])) := ((((((s12.trans s3).trans s4).trans s5).trans s6).trans s7).trans s8).trans s9
    exact q t p7 p8 _ ks ks2 sAll (.inl (.inl upd_same)) ⟨ys, (s8.trans s9).2 _ _ (fun z => z) upd_same, pairs_keep mono_TI ((s7.trans s8).trans s9).1 py⟩ ⟨ys2, s9.2 _ _ (fun z => z) upd_same, pairs_keep mono_TI (s8.trans s9).1 py2⟩ pmy so pmy2 so2
abbrev s_law_is_low : Stmt := topS 28
abbrev n_law_is_low : List Str := ["_law_numbers_here", "_law_shared", "_law_number_here", "_law_one"]
abbrev p_law_is_low : List Str := ["_law_numbers_here"]
theorem sc_law_is_low : FnScope n_law_is_low p_law_is_low (defScope s_law_is_low) := ⟨rfl, rfl, rfl, by decide +kernel, rfl, by decide +kernel, by decide +kernel⟩
def sp_law_is_low (K : PySem.W.Frag) : Sp := fun vs H Q _ => ∃ (a : Addr) (xs : List Int), vs = [.ref a] ∧ SqA K H a (xs.map V.int) ∧ Q (.bl (decide (gl xs = 1))) H
theorem ok_law_is_low {f : Addr} {fd : FuncData} {k : Nat} (F : Fun K "_law_is_low" "_law_is_low" s_law_is_low f fd) (m_abs : mg "abs" = none) : FnOk P w K mg base CX0 (k + 1) f fd p_law_is_low (sp_law_is_low K) := by
  refine F.ok sc_law_is_low (fun vs H Q E h => ?_) (fun cdv A outer s H vs Q E hr h => ?_)
  · obtain ⟨a, xs, rfl, _⟩ := h
    rfl
  · obtain ⟨a, xs, rfl, hS, q⟩ := h
    refine ⟨_, (pss_cons (ps_set (i := 1) sc_law_is_low.nd rfl (.inl rfl) pe_int)
      (pss_cons (ps_for PassesOwn.never rfl (pi_seqK (K := K) rfl (pv 0)) (pg_name (i := 2) sc_law_is_low.nd rfl (.inl rfl))
      (pss_cons (ps_set (i := 3) sc_law_is_low.nd rfl (.inl rfl) (pe_callB call_abs (by rfl) m_abs (by decide +kernel) (pa_cons (pv 2) pa_nil)))
      (pss_one (ps_while PassesOwn.never (pt_cmpR op_ne (pv 3) pe_int (nomark _))
      (pss_one (ps_par (i := 1) (j := 3) (by rfl) sc_law_is_low.nd rfl rfl (by decide) rfl rfl (pa_cons (pv 3) (pa_cons (pe_op op_mod (pv 1) (pv 3)) pa_nil)) (by rfl)))))))
      (pss_one (ps_ret (pe_cmpR op_eq (pv 1) pe_int (nomark _)))))), ?_⟩
    refine ⟨.ref a, rfl, seq_for (S := S0) hS (fun z => z) (fun i σ H' => ∃ y2 y3, σ = [some (.ref a), some (.int (gl (xs.take i))), y2, y3] ∧ H' = H) ⟨none, none, rfl, rfl⟩ (fun i σ H' _ ⟨_, _, _, e⟩ => e ▸ SB.refl _) ?_ ?_⟩
    · rintro i x σ H' hx ⟨y2, y3, rfl, rfl⟩
      obtain ⟨n, hn, rfl⟩ := ints_get hx
      refine ⟨.int n, rfl, n, rfl, ?_⟩
      refine ⟨fun m σ H'' => ∃ f o : Nat, σ = [some (.ref a), some (.int f), some (.int n), some (.int o)] ∧ m = o ∧ Nat.gcd f o = gl (xs.take (i + 1)) ∧ H'' = H', ⟨n.natAbs, gl (xs.take i), n.natAbs, ?_, rfl, (gl_take hn).symm, rfl⟩, fun m σ H'' hW => ?_⟩
      · rw [abs_if]
        rfl
      · obtain ⟨f, o, rfl, rfl, hg, rfl⟩ := hW
        refine ⟨.int m, rfl, rfl, _, rfl, ite2 (fun e => ?_) (fun e => ?_)⟩
        · have ho : 0 < m := by
            rw [ne_dec] at e
            have : (m : Int) ≠ 0 := bne_iff_ne.mp e
            omega
          refine ⟨fun σ' H' => ∃ f o : Nat, σ' = [some (.ref a), some (.int f), some (.int n), some (.int o)] ∧ o < m ∧ Nat.gcd f o = gl (xs.take (i + 1)) ∧ H' = H'', fun σ' H' hN => ?_, ?_⟩
          · obtain ⟨f', o', e1, e2, e3, e4⟩ := hN
            exact ⟨o', e2, f', o', e1, rfl, e3, e4⟩
          · refine ⟨.int m, rfl, .int f, rfl, .int m, rfl, f, m, rfl, rfl, (by omega), .int m, _, rfl, m, f % m, rfl, Nat.mod_lt _ ho, ?_, rfl⟩
            rw [gcd_turn, hg]
        · have ho : m = 0 := by
            rw [ne_dec] at e
            have : ¬ (m : Int) ≠ 0 := fun z => e (bne_iff_ne.mpr z)
            omega
          subst ho
          rw [Nat.gcd_zero_right] at hg
          exact ⟨_, _, by rw [hg], rfl⟩
    · rintro σ H' ⟨y2, y3, rfl, rfl⟩
      rw [show xs.take (xs.map V.int).length = xs by rw [List.length_map, List.take_length]]
      refine ⟨_, rfl, rfl, ?_⟩
      have e : decide (V.int (gl xs) = V.int 1) = decide (gl xs = 1) := by
        by_cases h : gl xs = 1
        · rw [h]
          rfl
        · have h1 : ¬ V.int (gl xs) = V.int 1 := fun z => h (by have := V.int.inj z; omega)
          rw [decide_eq_false h1, decide_eq_false h]
      rw [e]
      exact q
abbrev s_law_whole : Stmt := topS 26
abbrev n_law_whole : List Str := ["_law_number_here"]
abbrev p_law_whole : List Str := ["_law_number_here"]
theorem sc_law_whole : FnScope n_law_whole p_law_whole (defScope s_law_whole) := ⟨rfl, rfl, rfl, by decide +kernel, rfl, by decide +kernel, by decide +kernel⟩
def sp_law_whole (K : PySem.W.Frag) : Sp := fun vs H Q _ => ∃ (i : Int), vs = [.int i] ∧ Q (.bl true) H
theorem ok_law_whole {f : Addr} {fd : FuncData} {k : Nat} (F : Fun K "_law_whole" "_law_whole" s_law_whole f fd) (m_isinstance : mg "isinstance" = none) (m_bool : mg "bool" = none) (m_int : mg "int" = none) : FnOk P w K mg base CX0 (k + 1) f fd p_law_whole (sp_law_whole K) := by
  refine F.ok sc_law_whole (fun vs H Q E h => ?_) (fun cdv A outer s H vs Q E hr h => ?_)
  · obtain ⟨i, rfl, _⟩ := h
    rfl
  · obtain ⟨i, rfl, q⟩ := h
    refine ⟨_, (pss_one (ps_ret (pe_and (pe_callB (isi_ofK (K := K) rfl) (by rfl) m_isinstance (by decide +kernel) (pa_cons (pv 0) (pa_cons (pe_bltn (v := .ty "int") (by rfl) m_int (by decide +kernel) rfl) pa_nil))) (pe_one (pe_not (pe_callB (isi_ofK (K := K) rfl) (by rfl) m_isinstance (by decide +kernel) (pa_cons (pv 0) (pa_cons (pe_bltn (v := .ty "bool") (by rfl) m_bool (by decide +kernel) rfl) pa_nil)))))))), ?_⟩
    refine ⟨.int i, rfl, _, _, _, _, true, rfl, .ty "int", .base (.int i), kit_ty (by decide +kernel), true, rfl, iteT ?_⟩
    refine ⟨.int i, rfl, _, _, _, _, false, rfl, .ty "bool", .base (.int i), kit_ty (by decide +kernel), false, rfl, ?_⟩
    exact q
abbrev s_law_is_numbers : Stmt := topS 27
abbrev n_law_is_numbers : List Str := ["_law_found", "_law_many", "_law_number_here"]
abbrev p_law_is_numbers : List Str := ["_law_found", "_law_many"]
theorem sc_law_is_numbers : FnScope n_law_is_numbers p_law_is_numbers (defScope s_law_is_numbers) := ⟨rfl, rfl, rfl, by decide +kernel, rfl, by decide +kernel, by decide +kernel⟩
def sp_law_is_numbers (K : PySem.W.Frag) : Sp := fun vs H Q _ => ∃ (v : V) (n : Int) (xs : List Int), vs = [v, .int n] ∧ rTI K H v xs ∧ (xs.length : Int) = n ∧ xs.length < sizeLine ∧ ∀ H', SB S0 H H' → Q (.bl true) H'
theorem ok_law_is_numbers {f : Addr} {fd : FuncData} {k : Nat} (F : Fun K "_law_is_numbers" "_law_is_numbers" s_law_is_numbers f fd) (c_law_whole : Cal P w K mg base k "_law_whole" p_law_whole (sp_law_whole K)) (m_all : mg "all" = none) (m_len : mg "len" = none) (m_isinstance : mg "isinstance" = none) (m_tuple : mg "tuple" = none) : FnOk P w K mg base CX0 (k + 1) f fd p_law_is_numbers (sp_law_is_numbers K) := by
  refine F.ok sc_law_is_numbers (fun vs H Q E h => ?_) (fun cdv A outer s H vs Q E hr h => ?_)
  · obtain ⟨v, n, xs, rfl, _⟩ := h
    rfl
  · obtain ⟨v, n, xs, rfl, ⟨a, rfl, hT⟩, hn, hz, q⟩ := h
    refine ⟨_, (pss_one (ps_ret (pe_and (pe_callB (isi_ofK (K := K) rfl) (by rfl) m_isinstance (by decide +kernel) (pa_cons (pv 0) (pa_cons (pe_bltn (v := .ty "tuple") (by rfl) m_tuple (by decide +kernel) rfl) pa_nil))) (pe_and (pe_cmpR op_eq (pe_callB (len_ofK (K := K) rfl) (by rfl) m_len PySem.boot_len (pa_cons (pv 0) pa_nil)) (pv 1) (nomark _)) (pe_one (pe_callB (all_ofK (K := K) rfl rfl) (by rfl) m_all (by decide +kernel) (pa_cons (pe_lc (own := [("_law_number_here", 2)]) (g := gName 2) (by rfl) sc_law_is_numbers.nd (pi_seqK (K := K) rfl (pv 0)) (blkOk_by (N := n_law_is_numbers) (sc := defScope s_law_is_numbers) (own := [("_law_number_here", 2)]) (by decide +kernel)) (fun _ _ _ _ _ => (pg_name (i := 2) sc_law_is_numbers.nd rfl (.inl rfl))) (fun _ _ _ _ _ => pts_nil) (fun _ _ _ _ _ => (pe_callC c_law_whole hr (by rfl) (pa_cons (pv 2) pa_nil)))) pa_nil))))))), ?_⟩
    refine ⟨.ref a, rfl, _, _, _, _, true, rfl, .ty "tuple", tyT hT, kit_ty (by decide +kernel), true, rfl, iteT ?_⟩
    refine ⟨.ref a, rfl, a, xs.map V.int, rfl, .inr hT, .int n, rfl, rfl, true, ?_, iteT ?_⟩
    · rw [List.length_map, hn]
      exact congrArg V.bl (decide_eq_true rfl)
    · dsimp only [tCB, tCons]
      refine tlc_map (S := S0) (tVar_at rfl) (.inr hT) (fun z => z) (by rw [List.length_map]; exact hz) rB (xs.map fun _ => true) (by rw [List.length_map, List.length_map]) mono_B (fun _ _ z => z) ?_ gName_mono ?_
      · intro i x y H' QY hx hy s h
        obtain ⟨m, hm, rfl⟩ := ints_get hx
        rw [List.getElem?_map, hm] at hy
        cases hy
        exact ⟨rfl, .int m, rfl, m, rfl, h _ _ (SB.refl _) rfl⟩
      · intro D Hf us hD s h p
        rw [paired_bools p] at h
        refine ⟨D, xs.map fun _ => true, rfl, .inl (.inl h), ?_⟩
        rw [show (xs.map fun _ => true).all id = true by simp]
        exact q _ s
abbrev s_law_dot : Stmt := topS 25
abbrev n_law_dot : List Str := ["_law_one", "_law_other", "_law_found", "_law_k"]
abbrev p_law_dot : List Str := ["_law_one", "_law_other"]
theorem sc_law_dot : FnScope n_law_dot p_law_dot (defScope s_law_dot) := ⟨rfl, rfl, rfl, by decide +kernel, rfl, by decide +kernel, by decide +kernel⟩
theorem dot_take : ∀ {x y : Vec} {k : Nat}, k < x.length → k < y.length → dot (x.take (k + 1)) (y.take (k + 1)) = dot (x.take k) (y.take k) + at0 x k * at0 y k
  | x :: xs, y :: ys, 0, _, _ => by
    show x * y + dot (xs.take 0) (ys.take 0) = 0 + x * y
    rw [List.take_zero]
    show x * y + 0 = 0 + x * y
    omega
  | x :: xs, y :: ys, k + 1, h1, h2 => by
    have ih := dot_take (x := xs) (y := ys) (k := k) (Nat.lt_of_succ_lt_succ h1) (Nat.lt_of_succ_lt_succ h2)
    show x * y + dot (xs.take (k + 1)) (ys.take (k + 1)) = x * y + dot (xs.take k) (ys.take k) + at0 xs k * at0 ys k
    rw [ih]
    omega
def sp_law_dot (K : PySem.W.Frag) : Sp := fun vs H Q _ => ∃ (v w : V) (x y : Vec) (b c : Nat), vs = [v, w] ∧ rTI K H v x ∧ rTI K H w y ∧ x.length = y.length ∧ x.length ≤ 1000 ∧ Bd b x ∧ Bd c y ∧ b + c ≤ 67108864 ∧ ∀ H', SB S0 H H' → Q (.int (dot x y)) H'
theorem ok_law_dot {f : Addr} {fd : FuncData} {k : Nat} (F : Fun K "_law_dot" "_law_dot" s_law_dot f fd) (m_range : mg "range" = none) (m_len : mg "len" = none) : FnOk P w K mg base CX0 (k + 1) f fd p_law_dot (sp_law_dot K) := by
  refine F.ok sc_law_dot (fun vs H Q E h => ?_) (fun cdv A outer s H vs Q E hr h => ?_)
  · obtain ⟨v, w, x, y, b, c, rfl, _⟩ := h
    rfl
  · obtain ⟨v, w, x, y, b, c, rfl, ⟨p, rfl, hp⟩, ⟨r, rfl, hr'⟩, hl, hx, bx, bY, hc, q⟩ := h
    refine ⟨_, (pss_cons (ps_set (i := 2) sc_law_dot.nd rfl (.inl rfl) pe_int)
      (pss_cons (ps_for PassesOwn.never rfl (pi_range1 (by rfl) m_range (pa_cons (pe_callB (len_ofK (K := K) rfl) (by rfl) m_len PySem.boot_len (pa_cons (pv 0) pa_nil)) pa_nil)) (pg_name (i := 3) sc_law_dot.nd rfl (.inl rfl))
      (pss_one (ps_set (i := 2) sc_law_dot.nd rfl (.inl rfl) (pe_op op_add (pv 2) (pe_op op_mulK (pe_ix (ix_tupK (K := K) rfl) (pv 0) (pv 3) (fun _ _ => rfl)) (pe_ix (ix_tupK (K := K) rfl) (pv 1) (pv 3) (fun _ _ => rfl)))))))
      (pss_one (ps_ret (pv 2))))), ?_⟩
    dsimp only [gName, tSeq, tAsg, tC]
    refine tfor_walk (S := S0) (H := H) (wi_rng (n := ((x.map V.int).length : Int)) (fun R r => ⟨.ref p, rfl, p, _, rfl, .inr hp, r⟩) (by omega) (by rw [List.length_map]; omega)) walks_range (fun i σ H' => ∃ y3, σ = [some (.ref p), some (.ref r), some (.int (dot (x.take i) (y.take i))), y3] ∧ SB S0 H H') ⟨none, rfl, SB.refl _⟩ (fun i σ H' _ ⟨_, _, s⟩ => s) ?_ ?_
    · rintro i t σ H1 H2 hi ⟨y3, rfl, s1⟩ s2 rfl
      rw [Int.toNat_natCast, List.length_map] at hi
      have e0 : ((0 : Int) + (i : Int)) = (i : Int) := by omega
      rw [e0]
      have s12 := s1.trans s2
      refine ⟨_, rfl, .ref p, rfl, .int i, rfl, p, _, _, _, rfl, rfl, s12.sqT hp, at_TI hi, .ref r, rfl, .int i, rfl, r, _, _, _, rfl, rfl, s12.sqT hr', at_TI (hl ▸ hi), _, _, rfl, rfl, mulK_bits (bx.at i) (bY.at i) hc, _, _, rfl, rfl, ?_⟩
      refine ⟨some (.int i), ?_, s12⟩
      rw [dot_take hi (hl ▸ hi)]
      rfl
    · rintro σ H1 ⟨y3, rfl, s1⟩
      rw [Int.toNat_natCast, List.length_map, List.take_length, hl, List.take_length]
      exact ⟨_, rfl, q _ s1⟩
abbrev s_law : Stmt := topS 30
abbrev n_law : List Str := ["_law_script", "_law_s", "_law_size", "_law_rows", "_law_found", "_law_told", "_law_line", "_law_ray", "_law_products", "_law_one", "_law_row", "_law_product"]
abbrev p_law : List Str := ["_law_script"]
theorem sc_law : FnScope n_law p_law (defScope s_law) := ⟨rfl, rfl, rfl, by decide +kernel, rfl, by decide +kernel, by decide +kernel⟩
def sp_law (K : PySem.W.Frag) : Sp := fun vs H Q _ => ∃ (a : Addr) (ns : List Int), vs = [.ref a] ∧ SqL K H a (ns.map V.int) ∧ ns.length ≤ 63 ∧ ∀ H', Q (.bl true) H'
theorem ok_law {f : Addr} {fd : FuncData} {k : Nat} (F : Fun K "law" "law" s_law f fd) (c_law_begun : Cal P w K mg base k "_law_begun" p_law_begun (sp_law_begun K)) (c_law_taken : Cal P w K mg base k "_law_taken" p_law_taken (sp_law_taken K)) (c_law_cone_rows : Cal P w K mg base k "_law_cone_rows" p_law_cone_rows (sp_law_cone_rows K)) (c_cone : Cal P w K mg base k "cone" p_cone (sp_cone K)) (c_law_is_low : Cal P w K mg base k "_law_is_low" p_law_is_low (sp_law_is_low K)) (c_law_is_numbers : Cal P w K mg base k "_law_is_numbers" p_law_is_numbers (sp_law_is_numbers K)) (c_law_dot : Cal P w K mg base k "_law_dot" p_law_dot (sp_law_dot K)) (m_list : mg "list" = none) (m_len : mg "len" = none) (m_isinstance : mg "isinstance" = none) (m_tuple : mg "tuple" = none) (m_all : mg "all" = none) (m_any : mg "any" = none) : FnOk P w K mg base CX0 (k + 1) f fd p_law (sp_law K) := by
  refine F.ok sc_law (fun vs H Q E h => ?_) (fun cdv A outer s H vs Q E hr h => ?_)
  · obtain ⟨a, ns, rfl, _⟩ := h
    rfl
  · obtain ⟨a, ns, rfl, hS, hlen, q⟩ := h
    refine ⟨_, (pss_cons (ps_set (i := 1) sc_law.nd rfl (.inl rfl) (pe_callC c_law_begun hr (by rfl) (pa_cons (pv 0) pa_nil)))
      (pss_cons (ps_set (i := 2) sc_law.nd rfl (.inr rfl) (pe_op op_add pe_int (pe_callC c_law_taken hr (by rfl) (pa_cons (pv 1) (pa_cons pe_int pa_nil)))))
      (pss_cons (ps_set (i := 3) sc_law.nd rfl (.inl rfl) (pe_callC c_law_cone_rows hr (by rfl) (pa_cons (pv 1) (pa_cons (pv 2) pa_nil))))
      (pss_cons (ps_set (i := 4) sc_law.nd rfl (.inl rfl) (pe_callC c_cone hr (by rfl) (pa_cons (pe_callTy (list_ofK (K := K) rfl) (by rfl) m_list (by decide +kernel) (pa_cons (pv 3) pa_nil)) (pa_cons (pv 2) pa_nil))))
      (pss_cons (ps_if (PW.pt (pw_or (pt_not (pt_val (pe_callB (isi_ofK (K := K) rfl) (by rfl) m_isinstance (by decide +kernel) (pa_cons (pv 4) (pa_cons (pe_bltn (v := .ty "tuple") (by rfl) m_tuple (by decide +kernel) rfl) pa_nil))))) (pw_or1 (pt_cmpR op_ne (pe_callB (len_ofK (K := K) rfl) (by rfl) m_len PySem.boot_len (pa_cons (pv 4) pa_nil)) pe_int (nomark _)))))
      (pss_one (ps_ret pe_bl)) pss_nil)
      (pss_cons (ps_for PassesOwn.never rfl (pi_seqK (K := K) rfl (pe_lst (pa_cons (pe_ix (ix_tupK (K := K) rfl) (pv 4) pe_int (fun _ _ => rfl)) (pa_cons (pe_ix (ix_tupK (K := K) rfl) (pv 4) pe_int (fun _ _ => rfl)) pa_nil)))) (pg_name (i := 5) sc_law.nd rfl (.inl rfl))
      (pss_cons (ps_if (pt_not (pt_val (pe_callB (isi_ofK (K := K) rfl) (by rfl) m_isinstance (by decide +kernel) (pa_cons (pv 5) (pa_cons (pe_bltn (v := .ty "list") (by rfl) m_list (by decide +kernel) rfl) pa_nil)))))
      (pss_one (ps_ret pe_bl)) pss_nil)
      (pss_one (ps_if (pt_not (pt_val (pe_callB (all_ofK (K := K) rfl rfl) (by rfl) m_all (by decide +kernel) (pa_cons (pe_lc (own := [("_law_one", 9)]) (g := gName 9) (by rfl) sc_law.nd (pi_seqK (K := K) rfl (pv 5)) (blkOk_by (N := n_law) (sc := defScope s_law) (own := [("_law_one", 9)]) (by decide +kernel)) (fun _ _ _ _ _ => (pg_name (i := 9) sc_law.nd rfl (.inl rfl))) (fun _ _ _ _ _ => pts_nil) (fun _ _ _ _ _ => (pe_and (pe_callC c_law_is_numbers hr (by rfl) (pa_cons (pv 9) (pa_cons (pv 2) pa_nil))) (pe_one (pe_callC c_law_is_low hr (by rfl) (pa_cons (pv 9) pa_nil)))))) pa_nil))))
      (pss_one (ps_ret pe_bl)) pss_nil))))
      (pss_cons (ps_for PassesOwn.never rfl (pi_seqK (K := K) rfl (pe_ix (ix_tupK (K := K) rfl) (pv 4) pe_int (fun _ _ => rfl))) (pg_name (i := 6) sc_law.nd rfl (.inr rfl))
      (pss_one (ps_if (pt_cmpR (op_neDK (K := K) rfl hr.units) (pe_lc (own := [("_law_row", 10)]) (g := gName 10) (by rfl) sc_law.nd (pi_seqK (K := K) rfl (pv 3)) (blkOk_by (N := n_law) (sc := defScope s_law) (own := [("_law_row", 10)]) (by decide +kernel)) (fun _ _ _ _ _ => (pg_name (i := 10) sc_law.nd rfl (.inl rfl))) (fun _ _ _ _ _ => pts_one (pt_cmpR op_ne (pe_callC c_law_dot hr (by rfl) (pa_cons (pv 10) (pa_cons (pv 6) pa_nil))) pe_int (nomark _))) (fun _ _ _ _ _ => pe_int)) (pe_lst pa_nil) (nomark _))
      (pss_one (ps_ret pe_bl)) pss_nil)))
      (pss_cons (ps_for PassesOwn.never rfl (pi_seqK (K := K) rfl (pe_ix (ix_tupK (K := K) rfl) (pv 4) pe_int (fun _ _ => rfl))) (pg_name (i := 7) sc_law.nd rfl (.inr rfl))
      (pss_cons (ps_setLc (i := 8) (own := [("_law_row", 10)]) (g := gName 10) (by rfl) sc_law.nd rfl rfl (sw_true rfl rfl rfl (by decide +kernel)) (pi_seqK (K := K) rfl (pv 3)) (blkOk_by (N := n_law) (sc := defScope s_law) (own := [("_law_row", 10)]) (by decide +kernel)) (fun _ _ _ _ _ => (pg_name (i := 10) sc_law.nd rfl (.inl rfl))) (fun _ _ _ _ _ => pts_nil) (fun _ _ _ _ _ => (pe_callC c_law_dot hr (by rfl) (pa_cons (pv 10) (pa_cons (pv 7) pa_nil)))))
      (pss_one (ps_if (PW.pt (pw_or (pt_not (pt_val (pe_callB (all_ofK (K := K) rfl rfl) (by rfl) m_all (by decide +kernel) (pa_cons (pe_lc (own := [("_law_product", 11)]) (g := gName 11) (by rfl) sc_law.nd (pi_seqK (K := K) rfl (pv 8)) (blkOk_by (N := n_law) (sc := defScope s_law) (own := [("_law_product", 11)]) (by decide +kernel)) (fun _ _ _ _ _ => (pg_name (i := 11) sc_law.nd rfl (.inl rfl))) (fun _ _ _ _ _ => pts_nil) (fun _ _ _ _ _ => (pe_cmpR op_ge (pv 11) pe_int (nomark _)))) pa_nil)))) (pw_or1 (pt_not (pt_val (pe_callB (any_ofK (K := K) rfl rfl) (by rfl) m_any (by decide +kernel) (pa_cons (pe_lc (own := [("_law_product", 11)]) (g := gName 11) (by rfl) sc_law.nd (pi_seqK (K := K) rfl (pv 8)) (blkOk_by (N := n_law) (sc := defScope s_law) (own := [("_law_product", 11)]) (by decide +kernel)) (fun _ _ _ _ _ => (pg_name (i := 11) sc_law.nd rfl (.inl rfl))) (fun _ _ _ _ _ => pts_nil) (fun _ _ _ _ _ => (pe_cmpR op_gt (pv 11) pe_int (nomark _)))) pa_nil)))))))
      (pss_one (ps_ret pe_bl)) pss_nil))))
      (pss_one (ps_ret pe_bl)))))))))), ?_⟩
    refine ⟨.ref a, rfl, a, ns, rfl, hS, fun d H1 hd sb1 D1 => ?_⟩
    refine ⟨.ref d, rfl, d, a, ns, 6, rfl, D1, by decide, by decide, fun r H2 r0 r1 sb2 D2 => ?_⟩
    refine ⟨1, r, rfl, rfl, ?_⟩
    obtain ⟨n, hn⟩ : ∃ n : Nat, 1 + r = n := ⟨(1 + r).toNat, by omega⟩
    have hn6 : n ≤ 6 := by omega
    have hz : n < sizeLine := small1000 (by omega)
    refine ⟨.ref d, rfl, .int n, by rw [← hn]; rfl, d, a, ns, n, rfl, D2, by omega, hn6, fun R H3 rows hR sb3 D3 hRl hrows k12 k6 => ?_⟩
    obtain ⟨us, Rl, pu⟩ := hRl
    have lus : us.length = rows.length := Paired.length pu
    refine ⟨.ref R, rfl, R, us, rfl, .inl (SqL.of Rl), fun P hP => ?_⟩
    have sP : SB S0 H3 (upd H3 P (.lst us)) := SB.new hP
    have F40 := fits40 hn6 k12
    refine ⟨.int n, by rw [← hn]; rfl, P, n, 40, _, rows, rfl, ⟨us, SqL.of upd_same, pairs_keep mono_TI sP.1 pu⟩, hrows, by omega, by omega, RunFits.of_few (by omega) (fun r hr => (hrows r hr).2) k12 F40, fun t kl kr H4 ls rs s4 hT hkl hkr pl _ pr _ => ?_⟩
    obtain ⟨zL, zR⟩ := cone_sizes (by omega) hrows F40
    have s34 := sP.trans s4
    have hR4 := s34.2 _ _ (fun z => z) Rl
    have pu4 := pairs_keep mono_TI s34.1 pu
    have fl : ∀ x ∈ ls, x.length = n ∧ gl x = 1 ∧ (∀ r ∈ rows, dot r x = 0) ∧ Bd 33554432 x := fun x hx => by
      obtain ⟨q', hq', rfl⟩ := List.mem_map.mp (pl.mem_iff.mp hx)
      obtain ⟨h1, h2, h3⟩ := cone_lines q' hq'
      exact ⟨h1, h2, fun r hr => by rw [dot_comm]; exact h3 r hr, zL q' hq'⟩
    have fr : ∀ x ∈ rs, x.length = n ∧ gl x = 1 ∧ (∀ r ∈ rows, 0 ≤ dot r x) ∧ (∃ r ∈ rows, 0 < dot r x) ∧ Bd 33554432 x := fun x hx => by
      have hx' := pr.mem_iff.mp hx
      obtain ⟨h1, h2, h3, r, hr, h4⟩ := cone_rays x hx'
      exact ⟨h1, h2, fun r hr => by rw [dot_comm]; exact h3 r hr, ⟨r, hr, by rw [dot_comm]; exact h4⟩, zR x hx'⟩
    have cl : ls.length ≤ 8 := by
      have := pl.length_eq
      rw [List.length_map] at this
      have := (cone_counts (n := n) (rows := rows) (by omega)).1
      omega
    have cr : rs.length ≤ 4096 := by
      have := pr.length_eq
      have h2 := (cone_counts (n := n) (rows := rows) (by omega)).2
      have h3 : 2 ^ rows.length ≤ 2 ^ 12 := Nat.pow_le_pow_right (by decide) k12
      omega
    clear pl pr zL zR
    obtain ⟨ul, hkl, pl⟩ := hkl
    obtain ⟨ur, hkr, pr⟩ := hkr
    have lul : ul.length = ls.length := Paired.length pl
    have lur : ur.length = rs.length := Paired.length pr
    have zl : ul.length < sizeLine := small1000 (by omega)
    have zr : ur.length < sizeLine := Nat.lt_of_le_of_lt (show ur.length ≤ 4096 by omega) (by decide)
    have zu : us.length < sizeLine := small1000 (by omega)
    refine ⟨.ref t, rfl, _, _, _, _, true, rfl, .ty "tuple", tyT hT, kit_ty (by decide +kernel), true, rfl, iteF ?_⟩
    refine ⟨.ref t, rfl, t, [.ref kl, .ref kr], rfl, .inr hT, rfl, false, congrArg V.bl (by rw [decide_eq_true (show V.int (([V.ref kl, V.ref kr].length : Nat) : Int) = V.int 2 from rfl)]; rfl), iteF ?_⟩
    -- both lists
    refine ⟨.ref t, rfl, t, [.ref kl, .ref kr], 0, .ref kl, rfl, rfl, hT, rfl, .ref t, rfl, t, [.ref kl, .ref kr], 1, .ref kr, rfl, rfl, hT, rfl, by show 2 ≤ sizeLine; decide, fun L hL => ?_⟩
    have sL : SB S0 H4 (upd H4 L (.lst [.ref kl, .ref kr])) := SB.new hL
    have hLl : (upd H4 L (.lst [.ref kl, .ref kr])) L = some (.lst [.ref kl, .ref kr]) := upd_same
    generalize upd H4 L (.lst [.ref kl, .ref kr]) = H5 at *
    have both : ∀ (i : Nat) x, [V.ref kl, V.ref kr][i]? = some x → ∃ ka uk ks, x = .ref ka ∧ H4 ka = some (.lst uk) ∧ Paired (rTI K H4) uk ks ∧ (∀ x ∈ ks, x.length = n ∧ gl x = 1) ∧ uk.length < sizeLine := fun i x hx => by
      match i, hx with
      | 0, hx => cases hx; exact ⟨kl, ul, ls, rfl, hkl, pl, fun x hx => ⟨(fl x hx).1, (fl x hx).2.1⟩, zl⟩
      | 1, hx => cases hx; exact ⟨kr, ur, rs, rfl, hkr, pr, fun x hx => ⟨(fr x hx).1, (fr x hx).2.1⟩, zr⟩
    refine seq_for (S := S0) (.inl (SqL.of hLl)) (fun z => z) (fun i σ H' => ∃ y5, σ = [some (.ref a), some (.ref d), some (.int n), some (.ref R), some (.ref t), y5, none, none, none, none, none, none] ∧ SB S0 H5 H') ⟨none, by rw [← hn]; rfl, SB.refl _⟩ (fun i σ H' _ ⟨_, _, s⟩ => s) ?_ ?_
    · rintro i x σ H6 hx ⟨y5, rfl, s6⟩
      obtain ⟨ka, uk, ks, rfl, hka, pk, fk, zk⟩ := both i x hx
      have s46 := sL.trans s6
      have hka6 := s46.2 _ _ (fun z => z) hka
      have pk6 := pairs_keep mono_TI s46.1 pk
      refine ⟨.ref ka, rfl, _, _, _, _, true, rfl, .ty "list", tyL (SqL.of hka6), kit_ty (by decide +kernel), true, rfl, iteF ?_⟩
      dsimp only [tNext, gName]
      refine tIfS_i (tNot_i (tB_i (tCB_i (tCons_i (tlc_map (S := S0) (H := H6) (tVar_at rfl) (.inl (SqL.of hka6)) (fun z => z) zk rB (ks.map fun _ => true) (by rw [List.length_map]; exact (Paired.length pk).symm) mono_B (fun _ _ z => z) ?_ gName_mono ?_)))))
      · intro j x y H' QY hx hy s h
        obtain ⟨k', ek, hk'⟩ := Paired.get pk6 hx
        rw [List.getElem?_map, ek] at hy
        cases hy
        obtain ⟨l1, g1⟩ := fk k' (List.mem_of_getElem? ek)
        have hk2 := mono_TI _ _ _ _ s.1 hk'
        refine ⟨rfl, x, rfl, .int n, rfl, x, n, k', rfl, hk2, by rw [l1], by rw [l1]; exact hz, fun H7 s7 => ?_⟩
        obtain ⟨ax, rfl, hax⟩ := mono_TI _ _ _ _ s7.1 hk2
        refine ⟨true, rfl, iteT ?_⟩
        refine ⟨.ref ax, rfl, ax, k', rfl, .inr hax, ?_⟩
        rw [decide_eq_true g1]
        exact h _ _ s7 rfl
      · intro D Hf vs hD s h p
        rw [paired_bools p] at h
        refine ⟨D, ks.map fun _ => true, rfl, .inl (.inl h), true, ?_, iteF ?_⟩
        · rw [show (ks.map fun _ => true).all id = true by simp]
        · exact ⟨_, rfl, s6.trans s⟩
    -- lines
    rintro σ H6 ⟨y5, rfl, s6⟩
    have s46 := sL.trans s6
    have hkl6 := s46.2 _ _ (fun z => z) hkl
    have pl6 := pairs_keep mono_TI s46.1 pl
    have hR6 := s46.2 _ _ (fun z => z) hR4
    have pu6 := pairs_keep mono_TI s46.1 pu4
    dsimp only
    refine tSeq_i (tfor_walk (S := S0) (H := H6) (wi_list (fun R' r' => ⟨.ref t, rfl, t, [.ref kl, .ref kr], 0, .ref kl, rfl, rfl, s46.sqT hT, rfl, r'⟩) (SqL.of hkl6)) (walks_list (fun z => z) (SqL.of hkl6)) (fun i σ H' => ∃ y5 y6, σ = [some (.ref a), some (.ref d), some (.int n), some (.ref R), some (.ref t), y5, y6, none, none, none, none, none] ∧ SB S0 H6 H') ⟨y5, none, rfl, SB.refl _⟩ (fun i σ H' _ ⟨_, _, _, s⟩ => s) ?_ ?_)
    · rintro i x σ H7 H8 hi ⟨y5', y6, rfl, s7⟩ s8 hx
      obtain ⟨l, el, hl⟩ := Paired.get pl6 hx
      obtain ⟨l1, _, l0, lb⟩ := fl l (List.mem_of_getElem? el)
      have s78 := s7.trans s8
      have hl8 := mono_TI _ _ _ _ s78.1 hl
      have hR8 := s78.2 _ _ (fun z => z) hR6
      have pu8 := pairs_keep mono_TI s78.1 pu6
      dsimp only [tIfS]
      refine tTest_i (tOp_i (tlc_walk (S := S0) (H := H8) (wi_list (tVar_at rfl) (SqL.of hR8)) (walks_lst (fun z => z) hR8) zu (fun _ => CH.rI) (fun _ => none) (fun _ _ _ _ _ _ _ h => h) (fun _ _ z => z) ?_ ?_))
      · rintro D j v H9 QY QN hD hj s9 _ hv hY hN
        obtain ⟨r, er, hr1⟩ := Paired.get pu8 hv
        have mr := List.mem_of_getElem? er
        obtain ⟨lr, br⟩ := hrows r mr
        refine ⟨rfl, v, rfl, x, rfl, v, x, r, l, 40, 33554432, rfl, mono_TI _ _ _ _ s9.1 hr1, mono_TI _ _ _ _ s9.1 hl8, by rw [lr, l1], by omega, br, lb, by decide, fun H10 s10 => ?_⟩
        rw [l0 r mr]
        refine ⟨rfl, false, rfl, iteF ?_⟩
        exact hN _ rfl s10
      · intro D Hf vs hD sf h p
        have e0 : (List.range us.length).filterMap (fun _ => (none : Option Int)) = [] := by simp
        rw [e0] at p
        have ev : vs = [] := by cases p; rfl
        subst ev
        refine ⟨Nat.zero_le _, fun E hE => ?_⟩
        have s2 : SB S0 Hf (upd Hf E (.lst [])) := SB.new hE
        refine ⟨.list [], .list [], .lst (.inl (.inl (s2.2 _ _ (fun z => z) h))) .nil, .lst (.inl (.inl upd_same)) .nil, (gd_lst (n := 1) (ds := []) (fun _ h => by cases h)).shaped, (gd_lst (n := 1) (ds := []) (fun _ h => by cases h)).shaped, false, congrArg V.bl (congrArg not (eqv_ints_nil [])), iteF ?_⟩
        exact ⟨_, _, rfl, (s78.trans sf).trans s2⟩
    -- rays
    rintro σ H7 ⟨y5', y6, rfl, s7⟩
    have s47 := s46.trans s7
    have hkr7 := s47.2 _ _ (fun z => z) hkr
    have pr7 := pairs_keep mono_TI s47.1 pr
    have hR7 := s47.2 _ _ (fun z => z) hR4
    have pu7 := pairs_keep mono_TI s47.1 pu4
    dsimp only
    refine tSeq_i (tfor_walk (S := S0) (H := H7) (wi_list (fun R' r' => ⟨.ref t, rfl, t, [.ref kl, .ref kr], 1, .ref kr, rfl, rfl, s47.sqT hT, rfl, r'⟩) (SqL.of hkr7)) (walks_list (fun z => z) (SqL.of hkr7)) (fun i σ H' => ∃ y5 y6 y7 y8, σ = [some (.ref a), some (.ref d), some (.int n), some (.ref R), some (.ref t), y5, y6, y7, y8, none, none, none] ∧ SB S0 H7 H') ⟨_, _, none, none, rfl, SB.refl _⟩ (fun i σ H' _ ⟨_, _, _, _, _, s⟩ => s) ?_ ?_)
    · rintro i x σ H8 H9 hi ⟨z5, z6, z7, z8, rfl, s8⟩ s9 hx
      obtain ⟨l, el, hl⟩ := Paired.get pr7 hx
      obtain ⟨l1, _, l0, ⟨r1, mr1, lp⟩, lb⟩ := fr l (List.mem_of_getElem? el)
      have s79 := s8.trans s9
      have hl9 := mono_TI _ _ _ _ s79.1 hl
      have hR9 := s79.2 _ _ (fun z => z) hR7
      have pu9 := pairs_keep mono_TI s79.1 pu7
      refine tSeq_i (tAsg_i (tlc_map (S := S0) (H := H9) (tVar_at rfl) (.inl (SqL.of hR9)) (fun z => z) zu CH.rI (rows.map fun r => dot r l) (by rw [List.length_map]; exact lus.symm) mono_I (fun _ _ z => z) ?_ gName_mono ?_))
      · intro j v y H10 QY hv hy s10 h
        obtain ⟨r, er, hr1⟩ := Paired.get pu9 hv
        have mr := List.mem_of_getElem? er
        obtain ⟨lr, br⟩ := hrows r mr
        rw [List.getElem?_map, er] at hy
        cases hy
        exact ⟨rfl, v, rfl, x, rfl, v, x, r, l, 40, 33554432, rfl, mono_TI _ _ _ _ s10.1 hr1, mono_TI _ _ _ _ s10.1 hl9, by rw [lr, l1], by omega, br, lb, by decide, fun H11 s11 => h _ _ s11 rfl⟩
      · intro D H10 vs hD s10 hDl p
        rw [paired_ints p] at hDl
        have zD : ((rows.map fun r => dot r l).map V.int).length < sizeLine := by rw [List.length_map, List.length_map]; exact small1000 (by omega)
        dsimp only [tNext, gName]
        refine tIfS_i (tOr_i (tNot_i (tB_i (tCB_i (tCons_i (tlc_map (S := S0) (H := H10) (tVar_at rfl) (.inl (SqL.of hDl)) (fun z => z) zD rB ((rows.map fun r => dot r l).map fun p => decide (0 ≤ p)) (by simp) mono_B (fun _ _ z => z) ?_ gName_mono ?_))))))
        · intro j v y H11 QY hv hy s11 h
          obtain ⟨m, hm, rfl⟩ := ints_get hv
          rw [List.getElem?_map, hm] at hy
          cases hy
          exact ⟨rfl, .int m, rfl, m, 0, rfl, rfl, h _ _ (SB.refl _) rfl⟩
        · intro D2 H11 vs2 hD2 s11 hD2l p2
          rw [paired_bools p2] at hD2l
          refine ⟨D2, _, rfl, .inl (.inl hD2l), true, ?_, iteF ?_⟩
          · congr 1
            refine List.all_eq_true.mpr fun b hb => ?_
            obtain ⟨m, hm, rfl⟩ := List.mem_map.mp hb
            obtain ⟨r, mr, rfl⟩ := List.mem_map.mp hm
            exact decide_eq_true (l0 r mr)
          have hD3 := s11.2 _ _ (fun z => z) hDl
          refine tNot_i (tB_i (tCB_i (tCons_i (tlc_map (S := S0) (H := H11) (tVar_at rfl) (.inl (SqL.of hD3)) (fun z => z) zD rB ((rows.map fun r => dot r l).map fun p => decide (0 < p)) (by simp) mono_B (fun _ _ z => z) ?_ gName_mono ?_))))
          · intro j v y H12 QY hv hy s12 h
            obtain ⟨m, hm, rfl⟩ := ints_get hv
            rw [List.getElem?_map, hm] at hy
            cases hy
            exact ⟨rfl, .int m, rfl, m, 0, rfl, rfl, h _ _ (SB.refl _) rfl⟩
          · intro D4 H12 vs4 hD4 s12 hD4l p4
            rw [paired_bools p4] at hD4l
            refine ⟨D4, _, rfl, .inl (.inl hD4l), true, ?_, iteF ?_⟩
            · congr 1
              refine List.any_eq_true.mpr ⟨true, List.mem_map.mpr ⟨_, List.mem_map.mpr ⟨r1, mr1, rfl⟩, decide_eq_true lp⟩, rfl⟩
            · exact ⟨_, _, _, _, rfl, ((s79.trans s10).trans s11).trans s12⟩
    · rintro σ H8 ⟨z5, z6, z7, z8, rfl, s8⟩
      exact q _
end
/-! ### the end -/
theorem all_mk {l : PySem.W.OpenLaw} {w : World} {K : PySem.W.Frag} {h : Heap} {mg : Str → Option Value} {fa : Addr} (X : K.In h) (G : h.Ns mainGlobals mg) (hfa : mg "law" = some (.ref fa))
    {f1 : Addr} {od1 an1 : Option Addr} {sl1 : Array (Option Value)} {oc1 kV1 dc1 pm1 cd1 ct1 : Value}
    (a1 : PySem.W.nsIn K mainGlobals "_law_begun" = some (some (.ref f1))) (l1 : K.lookup f1 = some ⟨oc1, od1, .func (PySem.W.fnOf "_law_begun" "_law_begun" (defArgs s_law_begun) (defBody s_law_begun) (defScope s_law_begun) .none kV1 dc1 pm1 an1 cd1 ct1), sl1⟩) (e1 : PySem.W.codeIn K cd1 "_law_begun" = true) (k1 : PySem.W.keepIn K (.ref f1) = true)
    {f2 : Addr} {od2 an2 : Option Addr} {sl2 : Array (Option Value)} {oc2 kV2 dc2 pm2 cd2 ct2 : Value}
    (a2 : PySem.W.nsIn K mainGlobals "_law_taken" = some (some (.ref f2))) (l2 : K.lookup f2 = some ⟨oc2, od2, .func (PySem.W.fnOf "_law_taken" "_law_taken" (defArgs s_law_taken) (defBody s_law_taken) (defScope s_law_taken) .none kV2 dc2 pm2 an2 cd2 ct2), sl2⟩) (e2 : PySem.W.codeIn K cd2 "_law_taken" = true) (k2 : PySem.W.keepIn K (.ref f2) = true)
    {f3 : Addr} {od3 an3 : Option Addr} {sl3 : Array (Option Value)} {oc3 kV3 dc3 pm3 cd3 ct3 : Value}
    (a3 : PySem.W.nsIn K mainGlobals "_law_number" = some (some (.ref f3))) (l3 : K.lookup f3 = some ⟨oc3, od3, .func (PySem.W.fnOf "_law_number" "_law_number" (defArgs s_law_number) (defBody s_law_number) (defScope s_law_number) .none kV3 dc3 pm3 an3 cd3 ct3), sl3⟩) (e3 : PySem.W.codeIn K cd3 "_law_number" = true) (k3 : PySem.W.keepIn K (.ref f3) = true)
    {f4 : Addr} {od4 an4 : Option Addr} {sl4 : Array (Option Value)} {oc4 kV4 dc4 pm4 cd4 ct4 : Value}
    (a4 : PySem.W.nsIn K mainGlobals "_law_numbers" = some (some (.ref f4))) (l4 : K.lookup f4 = some ⟨oc4, od4, .func (PySem.W.fnOf "_law_numbers" "_law_numbers" (defArgs s_law_numbers) (defBody s_law_numbers) (defScope s_law_numbers) .none kV4 dc4 pm4 an4 cd4 ct4), sl4⟩) (e4 : PySem.W.codeIn K cd4 "_law_numbers" = true) (k4 : PySem.W.keepIn K (.ref f4) = true)
    {f5 : Addr} {od5 an5 : Option Addr} {sl5 : Array (Option Value)} {oc5 kV5 dc5 pm5 cd5 ct5 : Value}
    (a5 : PySem.W.nsIn K mainGlobals "_law_cone_rows" = some (some (.ref f5))) (l5 : K.lookup f5 = some ⟨oc5, od5, .func (PySem.W.fnOf "_law_cone_rows" "_law_cone_rows" (defArgs s_law_cone_rows) (defBody s_law_cone_rows) (defScope s_law_cone_rows) .none kV5 dc5 pm5 an5 cd5 ct5), sl5⟩) (e5 : PySem.W.codeIn K cd5 "_law_cone_rows" = true) (k5 : PySem.W.keepIn K (.ref f5) = true)
    {f6 : Addr} {od6 an6 : Option Addr} {sl6 : Array (Option Value)} {oc6 kV6 dc6 pm6 cd6 ct6 : Value}
    (a6 : PySem.W.nsIn K mainGlobals "unit" = some (some (.ref f6))) (l6 : K.lookup f6 = some ⟨oc6, od6, .func (PySem.W.fnOf "unit" "unit" (defArgs s_unit) (defBody s_unit) (defScope s_unit) .none kV6 dc6 pm6 an6 cd6 ct6), sl6⟩) (e6 : PySem.W.codeIn K cd6 "unit" = true) (k6 : PySem.W.keepIn K (.ref f6) = true)
    {f7 : Addr} {od7 an7 : Option Addr} {sl7 : Array (Option Value)} {oc7 kV7 dc7 pm7 cd7 ct7 : Value}
    (a7 : PySem.W.nsIn K mainGlobals "product" = some (some (.ref f7))) (l7 : K.lookup f7 = some ⟨oc7, od7, .func (PySem.W.fnOf "product" "product" (defArgs s_product) (defBody s_product) (defScope s_product) .none kV7 dc7 pm7 an7 cd7 ct7), sl7⟩) (e7 : PySem.W.codeIn K cd7 "product" = true) (k7 : PySem.W.keepIn K (.ref f7) = true)
    {f8 : Addr} {od8 an8 : Option Addr} {sl8 : Array (Option Value)} {oc8 kV8 dc8 pm8 cd8 ct8 : Value}
    (a8 : PySem.W.nsIn K mainGlobals "crossing" = some (some (.ref f8))) (l8 : K.lookup f8 = some ⟨oc8, od8, .func (PySem.W.fnOf "crossing" "crossing" (defArgs s_crossing) (defBody s_crossing) (defScope s_crossing) .none kV8 dc8 pm8 an8 cd8 ct8), sl8⟩) (e8 : PySem.W.codeIn K cd8 "crossing" = true) (k8 : PySem.W.keepIn K (.ref f8) = true)
    {f9 : Addr} {od9 an9 : Option Addr} {sl9 : Array (Option Value)} {oc9 kV9 dc9 pm9 cd9 ct9 : Value}
    (a9 : PySem.W.nsIn K mainGlobals "bits" = some (some (.ref f9))) (l9 : K.lookup f9 = some ⟨oc9, od9, .func (PySem.W.fnOf "bits" "bits" (defArgs s_bits) (defBody s_bits) (defScope s_bits) .none kV9 dc9 pm9 an9 cd9 ct9), sl9⟩) (e9 : PySem.W.codeIn K cd9 "bits" = true) (k9 : PySem.W.keepIn K (.ref f9) = true)
    {f10 : Addr} {od10 an10 : Option Addr} {sl10 : Array (Option Value)} {oc10 kV10 dc10 pm10 cd10 ct10 : Value}
    (a10 : PySem.W.nsIn K mainGlobals "are_neighbours" = some (some (.ref f10))) (l10 : K.lookup f10 = some ⟨oc10, od10, .func (PySem.W.fnOf "are_neighbours" "are_neighbours" (defArgs s_are_neighbours) (defBody s_are_neighbours) (defScope s_are_neighbours) .none kV10 dc10 pm10 an10 cd10 ct10), sl10⟩) (e10 : PySem.W.codeIn K cd10 "are_neighbours" = true) (k10 : PySem.W.keepIn K (.ref f10) = true)
    {f11 : Addr} {od11 an11 : Option Addr} {sl11 : Array (Option Value)} {oc11 kV11 dc11 pm11 cd11 ct11 : Value}
    (a11 : PySem.W.nsIn K mainGlobals "common_divisor" = some (some (.ref f11))) (l11 : K.lookup f11 = some ⟨oc11, od11, .func (PySem.W.fnOf "common_divisor" "common_divisor" (defArgs s_common_divisor) (defBody s_common_divisor) (defScope s_common_divisor) .none kV11 dc11 pm11 an11 cd11 ct11), sl11⟩) (e11 : PySem.W.codeIn K cd11 "common_divisor" = true) (k11 : PySem.W.keepIn K (.ref f11) = true)
    {f12 : Addr} {od12 an12 : Option Addr} {sl12 : Array (Option Value)} {oc12 kV12 dc12 pm12 cd12 ct12 : Value}
    (a12 : PySem.W.nsIn K mainGlobals "lowest" = some (some (.ref f12))) (l12 : K.lookup f12 = some ⟨oc12, od12, .func (PySem.W.fnOf "lowest" "lowest" (defArgs s_lowest) (defBody s_lowest) (defScope s_lowest) .none kV12 dc12 pm12 an12 cd12 ct12), sl12⟩) (e12 : PySem.W.codeIn K cd12 "lowest" = true) (k12 : PySem.W.keepIn K (.ref f12) = true)
    {f13 : Addr} {od13 an13 : Option Addr} {sl13 : Array (Option Value)} {oc13 kV13 dc13 pm13 cd13 ct13 : Value}
    (a13 : PySem.W.nsIn K mainGlobals "blended" = some (some (.ref f13))) (l13 : K.lookup f13 = some ⟨oc13, od13, .func (PySem.W.fnOf "blended" "blended" (defArgs s_blended) (defBody s_blended) (defScope s_blended) .none kV13 dc13 pm13 an13 cd13 ct13), sl13⟩) (e13 : PySem.W.codeIn K cd13 "blended" = true) (k13 : PySem.W.keepIn K (.ref f13) = true)
    {f14 : Addr} {od14 an14 : Option Addr} {sl14 : Array (Option Value)} {oc14 kV14 dc14 pm14 cd14 ct14 : Value}
    (a14 : PySem.W.nsIn K mainGlobals "levelled" = some (some (.ref f14))) (l14 : K.lookup f14 = some ⟨oc14, od14, .func (PySem.W.fnOf "levelled" "levelled" (defArgs s_levelled) (defBody s_levelled) (defScope s_levelled) .none kV14 dc14 pm14 an14 cd14 ct14), sl14⟩) (e14 : PySem.W.codeIn K cd14 "levelled" = true) (k14 : PySem.W.keepIn K (.ref f14) = true)
    {f15 : Addr} {od15 an15 : Option Addr} {sl15 : Array (Option Value)} {oc15 kV15 dc15 pm15 cd15 ct15 : Value}
    (a15 : PySem.W.nsIn K mainGlobals "crossed" = some (some (.ref f15))) (l15 : K.lookup f15 = some ⟨oc15, od15, .func (PySem.W.fnOf "crossed" "crossed" (defArgs s_crossed) (defBody s_crossed) (defScope s_crossed) .none kV15 dc15 pm15 an15 cd15 ct15), sl15⟩) (e15 : PySem.W.codeIn K cd15 "crossed" = true) (k15 : PySem.W.keepIn K (.ref f15) = true)
    {f16 : Addr} {od16 an16 : Option Addr} {sl16 : Array (Option Value)} {oc16 kV16 dc16 pm16 cd16 ct16 : Value}
    (a16 : PySem.W.nsIn K mainGlobals "halved" = some (some (.ref f16))) (l16 : K.lookup f16 = some ⟨oc16, od16, .func (PySem.W.fnOf "halved" "halved" (defArgs s_halved) (defBody s_halved) (defScope s_halved) .none kV16 dc16 pm16 an16 cd16 ct16), sl16⟩) (e16 : PySem.W.codeIn K cd16 "halved" = true) (k16 : PySem.W.keepIn K (.ref f16) = true)
    {f17 : Addr} {od17 an17 : Option Addr} {sl17 : Array (Option Value)} {oc17 kV17 dc17 pm17 cd17 ct17 : Value}
    (a17 : PySem.W.nsIn K mainGlobals "opposite" = some (some (.ref f17))) (l17 : K.lookup f17 = some ⟨oc17, od17, .func (PySem.W.fnOf "opposite" "opposite" (defArgs s_opposite) (defBody s_opposite) (defScope s_opposite) .none kV17 dc17 pm17 an17 cd17 ct17), sl17⟩) (e17 : PySem.W.codeIn K cd17 "opposite" = true) (k17 : PySem.W.keepIn K (.ref f17) = true)
    {f18 : Addr} {od18 an18 : Option Addr} {sl18 : Array (Option Value)} {oc18 kV18 dc18 pm18 cd18 ct18 : Value}
    (a18 : PySem.W.nsIn K mainGlobals "bent" = some (some (.ref f18))) (l18 : K.lookup f18 = some ⟨oc18, od18, .func (PySem.W.fnOf "bent" "bent" (defArgs s_bent) (defBody s_bent) (defScope s_bent) .none kV18 dc18 pm18 an18 cd18 ct18), sl18⟩) (e18 : PySem.W.codeIn K cd18 "bent" = true) (k18 : PySem.W.keepIn K (.ref f18) = true)
    {f19 : Addr} {od19 an19 : Option Addr} {sl19 : Array (Option Value)} {oc19 kV19 dc19 pm19 cd19 ct19 : Value}
    (a19 : PySem.W.nsIn K mainGlobals "cleared" = some (some (.ref f19))) (l19 : K.lookup f19 = some ⟨oc19, od19, .func (PySem.W.fnOf "cleared" "cleared" (defArgs s_cleared) (defBody s_cleared) (defScope s_cleared) .none kV19 dc19 pm19 an19 cd19 ct19), sl19⟩) (e19 : PySem.W.codeIn K cd19 "cleared" = true) (k19 : PySem.W.keepIn K (.ref f19) = true)
    {f20 : Addr} {od20 an20 : Option Addr} {sl20 : Array (Option Value)} {oc20 kV20 dc20 pm20 cd20 ct20 : Value}
    (a20 : PySem.W.nsIn K mainGlobals "reduced" = some (some (.ref f20))) (l20 : K.lookup f20 = some ⟨oc20, od20, .func (PySem.W.fnOf "reduced" "reduced" (defArgs s_reduced) (defBody s_reduced) (defScope s_reduced) .none kV20 dc20 pm20 an20 cd20 ct20), sl20⟩) (e20 : PySem.W.codeIn K cd20 "reduced" = true) (k20 : PySem.W.keepIn K (.ref f20) = true)
    {f21 : Addr} {od21 an21 : Option Addr} {sl21 : Array (Option Value)} {oc21 kV21 dc21 pm21 cd21 ct21 : Value}
    (a21 : PySem.W.nsIn K mainGlobals "first_place" = some (some (.ref f21))) (l21 : K.lookup f21 = some ⟨oc21, od21, .func (PySem.W.fnOf "first_place" "first_place" (defArgs s_first_place) (defBody s_first_place) (defScope s_first_place) .none kV21 dc21 pm21 an21 cd21 ct21), sl21⟩) (e21 : PySem.W.codeIn K cd21 "first_place" = true) (k21 : PySem.W.keepIn K (.ref f21) = true)
    {f22 : Addr} {od22 an22 : Option Addr} {sl22 : Array (Option Value)} {oc22 kV22 dc22 pm22 cd22 ct22 : Value}
    (a22 : PySem.W.nsIn K mainGlobals "echelon" = some (some (.ref f22))) (l22 : K.lookup f22 = some ⟨oc22, od22, .func (PySem.W.fnOf "echelon" "echelon" (defArgs s_echelon) (defBody s_echelon) (defScope s_echelon) .none kV22 dc22 pm22 an22 cd22 ct22), sl22⟩) (e22 : PySem.W.codeIn K cd22 "echelon" = true) (k22 : PySem.W.keepIn K (.ref f22) = true)
    {f23 : Addr} {od23 an23 : Option Addr} {sl23 : Array (Option Value)} {oc23 kV23 dc23 pm23 cd23 ct23 : Value}
    (a23 : PySem.W.nsIn K mainGlobals "cone" = some (some (.ref f23))) (l23 : K.lookup f23 = some ⟨oc23, od23, .func (PySem.W.fnOf "cone" "cone" (defArgs s_cone) (defBody s_cone) (defScope s_cone) .none kV23 dc23 pm23 an23 cd23 ct23), sl23⟩) (e23 : PySem.W.codeIn K cd23 "cone" = true) (k23 : PySem.W.keepIn K (.ref f23) = true)
    {f24 : Addr} {od24 an24 : Option Addr} {sl24 : Array (Option Value)} {oc24 kV24 dc24 pm24 cd24 ct24 : Value}
    (a24 : PySem.W.nsIn K mainGlobals "_law_is_low" = some (some (.ref f24))) (l24 : K.lookup f24 = some ⟨oc24, od24, .func (PySem.W.fnOf "_law_is_low" "_law_is_low" (defArgs s_law_is_low) (defBody s_law_is_low) (defScope s_law_is_low) .none kV24 dc24 pm24 an24 cd24 ct24), sl24⟩) (e24 : PySem.W.codeIn K cd24 "_law_is_low" = true) (k24 : PySem.W.keepIn K (.ref f24) = true)
    {f25 : Addr} {od25 an25 : Option Addr} {sl25 : Array (Option Value)} {oc25 kV25 dc25 pm25 cd25 ct25 : Value}
    (a25 : PySem.W.nsIn K mainGlobals "_law_whole" = some (some (.ref f25))) (l25 : K.lookup f25 = some ⟨oc25, od25, .func (PySem.W.fnOf "_law_whole" "_law_whole" (defArgs s_law_whole) (defBody s_law_whole) (defScope s_law_whole) .none kV25 dc25 pm25 an25 cd25 ct25), sl25⟩) (e25 : PySem.W.codeIn K cd25 "_law_whole" = true) (k25 : PySem.W.keepIn K (.ref f25) = true)
    {f26 : Addr} {od26 an26 : Option Addr} {sl26 : Array (Option Value)} {oc26 kV26 dc26 pm26 cd26 ct26 : Value}
    (a26 : PySem.W.nsIn K mainGlobals "_law_is_numbers" = some (some (.ref f26))) (l26 : K.lookup f26 = some ⟨oc26, od26, .func (PySem.W.fnOf "_law_is_numbers" "_law_is_numbers" (defArgs s_law_is_numbers) (defBody s_law_is_numbers) (defScope s_law_is_numbers) .none kV26 dc26 pm26 an26 cd26 ct26), sl26⟩) (e26 : PySem.W.codeIn K cd26 "_law_is_numbers" = true) (k26 : PySem.W.keepIn K (.ref f26) = true)
    {f27 : Addr} {od27 an27 : Option Addr} {sl27 : Array (Option Value)} {oc27 kV27 dc27 pm27 cd27 ct27 : Value}
    (a27 : PySem.W.nsIn K mainGlobals "_law_dot" = some (some (.ref f27))) (l27 : K.lookup f27 = some ⟨oc27, od27, .func (PySem.W.fnOf "_law_dot" "_law_dot" (defArgs s_law_dot) (defBody s_law_dot) (defScope s_law_dot) .none kV27 dc27 pm27 an27 cd27 ct27), sl27⟩) (e27 : PySem.W.codeIn K cd27 "_law_dot" = true) (k27 : PySem.W.keepIn K (.ref f27) = true)
    {f28 : Addr} {od28 an28 : Option Addr} {sl28 : Array (Option Value)} {oc28 kV28 dc28 pm28 cd28 ct28 : Value}
    (a28 : PySem.W.nsIn K mainGlobals "law" = some (some (.ref f28))) (l28 : K.lookup f28 = some ⟨oc28, od28, .func (PySem.W.fnOf "law" "law" (defArgs s_law) (defBody s_law) (defScope s_law) .none kV28 dc28 pm28 an28 cd28 ct28), sl28⟩) (e28 : PySem.W.codeIn K cd28 "law" = true) (k28 : PySem.W.keepIn K (.ref f28) = true)
    (z_int : PySem.W.nsIn K mainGlobals "int" = some none)
    (z_len : PySem.W.nsIn K mainGlobals "len" = some none)
    (z_tuple : PySem.W.nsIn K mainGlobals "tuple" = some none)
    (z_range : PySem.W.nsIn K mainGlobals "range" = some none)
    (z_sum : PySem.W.nsIn K mainGlobals "sum" = some none)
    (z_zip : PySem.W.nsIn K mainGlobals "zip" = some none)
    (z_enumerate : PySem.W.nsIn K mainGlobals "enumerate" = some none)
    (z_abs : PySem.W.nsIn K mainGlobals "abs" = some none)
    (z_sorted : PySem.W.nsIn K mainGlobals "sorted" = some none)
    (z_isinstance : PySem.W.nsIn K mainGlobals "isinstance" = some none)
    (z_bool : PySem.W.nsIn K mainGlobals "bool" = some none)
    (z_all : PySem.W.nsIn K mainGlobals "all" = some none)
    (z_list : PySem.W.nsIn K mainGlobals "list" = some none)
    (z_any : PySem.W.nsIn K mainGlobals "any" = some none)
    : ∃ fd : FuncData, (∀ (s : Shared) (v : Value), BindsTo s fd ⟨[v], []⟩ [("_law_script", v)]) ∧ ∀ base : Heap, K.In base → base.Ns mainGlobals mg → Pyl l.prog base → FnOk l.prog w K mg base CX0 47 fa fd ["_law_script"] (sp_law K) := by
  have e := hfa.symm.trans (PySem.W.mg_of X G a28)
  cases e
  have m_int := PySem.W.mg_none_of X G z_int
  have m_len := PySem.W.mg_none_of X G z_len
  have m_tuple := PySem.W.mg_none_of X G z_tuple
  have m_range := PySem.W.mg_none_of X G z_range
  have m_sum := PySem.W.mg_none_of X G z_sum
  have m_zip := PySem.W.mg_none_of X G z_zip
  have m_enumerate := PySem.W.mg_none_of X G z_enumerate
  have m_abs := PySem.W.mg_none_of X G z_abs
  have m_sorted := PySem.W.mg_none_of X G z_sorted
  have m_isinstance := PySem.W.mg_none_of X G z_isinstance
  have m_bool := PySem.W.mg_none_of X G z_bool
  have m_all := PySem.W.mg_none_of X G z_all
  have m_list := PySem.W.mg_none_of X G z_list
  have m_any := PySem.W.mg_none_of X G z_any
  have F1 := fun_mk (st := s_law_begun) l1 e1 k1
  have F2 := fun_mk (st := s_law_taken) l2 e2 k2
  have F3 := fun_mk (st := s_law_number) l3 e3 k3
  have F4 := fun_mk (st := s_law_numbers) l4 e4 k4
  have F5 := fun_mk (st := s_law_cone_rows) l5 e5 k5
  have F6 := fun_mk (st := s_unit) l6 e6 k6
  have F7 := fun_mk (st := s_product) l7 e7 k7
  have F8 := fun_mk (st := s_crossing) l8 e8 k8
  have F9 := fun_mk (st := s_bits) l9 e9 k9
  have F10 := fun_mk (st := s_are_neighbours) l10 e10 k10
  have F11 := fun_mk (st := s_common_divisor) l11 e11 k11
  have F12 := fun_mk (st := s_lowest) l12 e12 k12
  have F13 := fun_mk (st := s_blended) l13 e13 k13
  have F14 := fun_mk (st := s_levelled) l14 e14 k14
  have F15 := fun_mk (st := s_crossed) l15 e15 k15
  have F16 := fun_mk (st := s_halved) l16 e16 k16
  have F17 := fun_mk (st := s_opposite) l17 e17 k17
  have F18 := fun_mk (st := s_bent) l18 e18 k18
  have F19 := fun_mk (st := s_cleared) l19 e19 k19
  have F20 := fun_mk (st := s_reduced) l20 e20 k20
  have F21 := fun_mk (st := s_first_place) l21 e21 k21
  have F22 := fun_mk (st := s_echelon) l22 e22 k22
  have F23 := fun_mk (st := s_cone) l23 e23 k23
  have F24 := fun_mk (st := s_law_is_low) l24 e24 k24
  have F25 := fun_mk (st := s_law_whole) l25 e25 k25
  have F26 := fun_mk (st := s_law_is_numbers) l26 e26 k26
  have F27 := fun_mk (st := s_law_dot) l27 e27 k27
  have F28 := fun_mk (st := s_law) l28 e28 k28
  refine ⟨PySem.W.fnOf "law" "law" (defArgs s_law) (defBody s_law) (defScope s_law) .none kV28 dc28 pm28 an28 cd28 ct28, fun s v => .of_eq rfl, fun base _ _ hP => ?_⟩
  have c_law_begun : Cal l.prog w K mg base 1 "_law_begun" p_law_begun (sp_law_begun K) := ⟨f1, _, ok_law_begun (k := 0) F1 m_int m_len, PySem.W.mg_of X G a1, F1.kp, F1.binds (ps := p_law_begun) fun _ _ _ _ _ _ us hl => match us, hl with | [_], _ => rfl⟩
  have c_law_taken : Cal l.prog w K mg base 1 "_law_taken" p_law_taken (sp_law_taken K) := ⟨f2, _, ok_law_taken (k := 0) F2 m_len m_int, PySem.W.mg_of X G a2, F2.kp, F2.binds (ps := p_law_taken) fun _ _ _ _ _ _ us hl => match us, hl with | [_, _], _ => rfl⟩
  have c_law_number : Cal l.prog w K mg base 2 "_law_number" p_law_number (sp_law_number K) := ⟨f3, _, ok_law_number (k := 1) F3 (c_law_taken.mono (by decide)), PySem.W.mg_of X G a3, F3.kp, F3.binds (ps := p_law_number) fun _ _ _ _ _ _ us hl => match us, hl with | [_, _], _ => rfl⟩
  have c_law_numbers : Cal l.prog w K mg base 3 "_law_numbers" p_law_numbers (sp_law_numbers K) := ⟨f4, _, ok_law_numbers (k := 2) F4 (c_law_number.mono (by decide)) m_tuple m_range, PySem.W.mg_of X G a4, F4.kp, F4.binds (ps := p_law_numbers) fun _ _ _ _ _ _ us hl => match us, hl with | [_, _, _], _ => rfl⟩
  have c_law_cone_rows : Cal l.prog w K mg base 4 "_law_cone_rows" p_law_cone_rows (sp_law_cone_rows K) := ⟨f5, _, ok_law_cone_rows (k := 3) F5 (c_law_taken.mono (by decide)) (c_law_numbers.mono (by decide)) m_int m_range m_len m_tuple, PySem.W.mg_of X G a5, F5.kp, F5.binds (ps := p_law_cone_rows) fun _ _ _ _ _ _ us hl => match us, hl with | [_, _], _ => rfl⟩
  have c_unit : Cal l.prog w K mg base 1 "unit" p_unit (sp_unit K) := ⟨f6, _, ok_unit (k := 0) F6 m_tuple m_range, PySem.W.mg_of X G a6, F6.kp, F6.binds (ps := p_unit) fun _ _ _ _ _ _ us hl => match us, hl with | [_, _], _ => rfl⟩
  have c_product : Cal l.prog w K mg base 1 "product" p_product (sp_product K) := ⟨f7, _, ok_product (k := 0) F7 m_sum m_zip, PySem.W.mg_of X G a7, F7.kp, F7.binds (ps := p_product) fun _ _ _ _ _ _ us hl => match us, hl with | [_, _], _ => rfl⟩
  have c_crossing : Cal l.prog w K mg base 2 "crossing" p_crossing (sp_crossing K) := ⟨f8, _, ok_crossing (k := 1) F8 (c_product.mono (by decide)) m_enumerate, PySem.W.mg_of X G a8, F8.kp, F8.binds (ps := p_crossing) fun _ _ _ _ _ _ us hl => match us, hl with | [_, _], _ => rfl⟩
  have c_bits : Cal l.prog w K mg base 1 "bits" p_bits (sp_bits K) := ⟨f9, _, ok_bits (k := 0) F9 , PySem.W.mg_of X G a9, F9.kp, F9.binds (ps := p_bits) fun _ _ _ _ _ _ us hl => match us, hl with | [_], _ => rfl⟩
  have c_are_neighbours : Cal l.prog w K mg base 2 "are_neighbours" p_are_neighbours (sp_are_neighbours K) := ⟨f10, _, ok_are_neighbours (k := 1) F10 (c_bits.mono (by decide)), PySem.W.mg_of X G a10, F10.kp, F10.binds (ps := p_are_neighbours) fun _ _ _ _ _ _ us hl => match us, hl with | [_, _, _, _], _ => rfl⟩
  have c_common_divisor : Cal l.prog w K mg base 1 "common_divisor" p_common_divisor (sp_common_divisor K) := ⟨f11, _, ok_common_divisor (k := 0) F11 m_abs, PySem.W.mg_of X G a11, F11.kp, F11.binds (ps := p_common_divisor) fun _ _ _ _ _ _ us hl => match us, hl with | [_], _ => rfl⟩
  have c_lowest : Cal l.prog w K mg base 41 "lowest" p_lowest (sp_lowest K) := ⟨f12, _, ok_lowest (k := 40) F12 (c_common_divisor.mono (by decide)) m_tuple hP (by decide), PySem.W.mg_of X G a12, F12.kp, F12.binds (ps := p_lowest) fun _ _ _ _ _ _ us hl => match us, hl with | [_], _ => rfl⟩
  have c_blended : Cal l.prog w K mg base 42 "blended" p_blended (sp_blended K) := ⟨f13, _, ok_blended (k := 41) F13 (c_lowest.mono (by decide)) m_zip, PySem.W.mg_of X G a13, F13.kp, F13.binds (ps := p_blended) fun _ _ _ _ _ _ us hl => match us, hl with | [_, _, _, _], _ => rfl⟩
  have c_levelled : Cal l.prog w K mg base 43 "levelled" p_levelled (sp_levelled K) := ⟨f14, _, ok_levelled (k := 42) F14 (c_blended.mono (by decide)) (c_product.mono (by decide)), PySem.W.mg_of X G a14, F14.kp, F14.binds (ps := p_levelled) fun _ _ _ _ _ _ us hl => match us, hl with | [_, _, _], _ => rfl⟩
  have c_crossed : Cal l.prog w K mg base 44 "crossed" p_crossed (sp_crossed K) := ⟨f15, _, ok_crossed (k := 43) F15 (c_are_neighbours.mono (by decide)) (c_levelled.mono (by decide)), PySem.W.mg_of X G a15, F15.kp, F15.binds (ps := p_crossed) fun _ _ _ _ _ _ us hl => match us, hl with | [_, _, _, _, _, _], _ => rfl⟩
  have c_halved : Cal l.prog w K mg base 45 "halved" p_halved (sp_halved K) := ⟨f16, _, ok_halved (k := 44) F16 (c_product.mono (by decide)) (c_crossed.mono (by decide)), PySem.W.mg_of X G a16, F16.kp, F16.binds (ps := p_halved) fun _ _ _ _ _ _ us hl => match us, hl with | [_, _, _, _], _ => rfl⟩
  have c_opposite : Cal l.prog w K mg base 1 "opposite" p_opposite (sp_opposite K) := ⟨f17, _, ok_opposite (k := 0) F17 m_tuple, PySem.W.mg_of X G a17, F17.kp, F17.binds (ps := p_opposite) fun _ _ _ _ _ _ us hl => match us, hl with | [_], _ => rfl⟩
  have c_bent : Cal l.prog w K mg base 44 "bent" p_bent (sp_bent K) := ⟨f18, _, ok_bent (k := 43) F18 (c_product.mono (by decide)) (c_opposite.mono (by decide)) (c_levelled.mono (by decide)), PySem.W.mg_of X G a18, F18.kp, F18.binds (ps := p_bent) fun _ _ _ _ _ _ us hl => match us, hl with | [_, _, _, _, _], _ => rfl⟩
  have c_cleared : Cal l.prog w K mg base 43 "cleared" p_cleared (sp_cleared K) := ⟨f19, _, ok_cleared (k := 42) F19 (c_blended.mono (by decide)), PySem.W.mg_of X G a19, F19.kp, F19.binds (ps := p_cleared) fun _ _ _ _ _ _ us hl => match us, hl with | [_, _, _], _ => rfl⟩
  have c_reduced : Cal l.prog w K mg base 44 "reduced" p_reduced (sp_reduced K) := ⟨f20, _, ok_reduced (k := 43) F20 (c_cleared.mono (by decide)), PySem.W.mg_of X G a20, F20.kp, F20.binds (ps := p_reduced) fun _ _ _ _ _ _ us hl => match us, hl with | [_, _], _ => rfl⟩
  have c_first_place : Cal l.prog w K mg base 1 "first_place" p_first_place (sp_first_place K) := ⟨f21, _, ok_first_place (k := 0) F21 m_enumerate, PySem.W.mg_of X G a21, F21.kp, F21.binds (ps := p_first_place) fun _ _ _ _ _ _ us hl => match us, hl with | [_], _ => rfl⟩
  have c_echelon : Cal l.prog w K mg base 45 "echelon" p_echelon (sp_echelon K) := ⟨f22, _, ok_echelon (k := 44) F22 (c_lowest.mono (by decide)) (c_reduced.mono (by decide)) (c_first_place.mono (by decide)) (c_opposite.mono (by decide)) (c_cleared.mono (by decide)), PySem.W.mg_of X G a22, F22.kp, F22.binds (ps := p_echelon) fun _ _ _ _ _ _ us hl => match us, hl with | [_], _ => rfl⟩
  have c_cone : Cal l.prog w K mg base 46 "cone" p_cone (sp_cone K) := ⟨f23, _, ok_cone (k := 45) F23 (c_unit.mono (by decide)) (c_crossing.mono (by decide)) (c_halved.mono (by decide)) (c_bent.mono (by decide)) (c_echelon.mono (by decide)) (c_reduced.mono (by decide)) m_range m_len m_sorted, PySem.W.mg_of X G a23, F23.kp, F23.binds (ps := p_cone) fun _ _ _ _ _ _ us hl => match us, hl with | [_, _], _ => rfl⟩
  have c_law_is_low : Cal l.prog w K mg base 1 "_law_is_low" p_law_is_low (sp_law_is_low K) := ⟨f24, _, ok_law_is_low (k := 0) F24 m_abs, PySem.W.mg_of X G a24, F24.kp, F24.binds (ps := p_law_is_low) fun _ _ _ _ _ _ us hl => match us, hl with | [_], _ => rfl⟩
  have c_law_whole : Cal l.prog w K mg base 1 "_law_whole" p_law_whole (sp_law_whole K) := ⟨f25, _, ok_law_whole (k := 0) F25 m_isinstance m_bool m_int, PySem.W.mg_of X G a25, F25.kp, F25.binds (ps := p_law_whole) fun _ _ _ _ _ _ us hl => match us, hl with | [_], _ => rfl⟩
  have c_law_is_numbers : Cal l.prog w K mg base 2 "_law_is_numbers" p_law_is_numbers (sp_law_is_numbers K) := ⟨f26, _, ok_law_is_numbers (k := 1) F26 (c_law_whole.mono (by decide)) m_all m_len m_isinstance m_tuple, PySem.W.mg_of X G a26, F26.kp, F26.binds (ps := p_law_is_numbers) fun _ _ _ _ _ _ us hl => match us, hl with | [_, _], _ => rfl⟩
  have c_law_dot : Cal l.prog w K mg base 1 "_law_dot" p_law_dot (sp_law_dot K) := ⟨f27, _, ok_law_dot (k := 0) F27 m_range m_len, PySem.W.mg_of X G a27, F27.kp, F27.binds (ps := p_law_dot) fun _ _ _ _ _ _ us hl => match us, hl with | [_, _], _ => rfl⟩
  exact ok_law (k := 46) F28 (c_law_begun.mono (by decide)) (c_law_taken.mono (by decide)) (c_law_cone_rows.mono (by decide)) (c_cone.mono (by decide)) (c_law_is_low.mono (by decide)) (c_law_is_numbers.mono (by decide)) (c_law_dot.mono (by decide)) m_list m_len m_isinstance m_tuple m_all m_any
end CH
open PySem PySem.W PyProof.Rows
set_option maxHeartbeats 0 in
theorem PySem.Challenge.cw_cornerhouse_k03_cones_hold_holds : PySem.Challenge.rw_cornerhouse_k03_cones_hold.Holds := by
  w_on; o_law; k_head; (case hw => w_witness2)
  k_fill
  refine CH.walk_seer (l := PySem.Challenge.rw_cornerhouse_k03_cones_hold) (n := 63) (k := 47) (x := "_law_script") (sp := CH.sp_law) rfl (by decide) rfl ⟨rfl, by decide, by decide⟩ (by decide +kernel) rfl (fun w h Y => PySem.W.kIn_of Y) ?F (fun _ _ a ns hl hS => ⟨a, ns, rfl, hS, hl, fun _ => rfl⟩)
  case F =>
    intro w mg fa h KX G hmg
    refine' CH.all_mk KX G hmg ?a1 ?l1 ?e1 ?k1 ?a2 ?l2 ?e2 ?k2 ?a3 ?l3 ?e3 ?k3 ?a4 ?l4 ?e4 ?k4 ?a5 ?l5 ?e5 ?k5 ?a6 ?l6 ?e6 ?k6 ?a7 ?l7 ?e7 ?k7 ?a8 ?l8 ?e8 ?k8 ?a9 ?l9 ?e9 ?k9 ?a10 ?l10 ?e10 ?k10 ?a11 ?l11 ?e11 ?k11 ?a12 ?l12 ?e12 ?k12 ?a13 ?l13 ?e13 ?k13 ?a14 ?l14 ?e14 ?k14 ?a15 ?l15 ?e15 ?k15 ?a16 ?l16 ?e16 ?k16 ?a17 ?l17 ?e17 ?k17 ?a18 ?l18 ?e18 ?k18 ?a19 ?l19 ?e19 ?k19 ?a20 ?l20 ?e20 ?k20 ?a21 ?l21 ?e21 ?k21 ?a22 ?l22 ?e22 ?k22 ?a23 ?l23 ?e23 ?k23 ?a24 ?l24 ?e24 ?k24 ?a25 ?l25 ?e25 ?k25 ?a26 ?l26 ?e26 ?k26 ?a27 ?l27 ?e27 ?k27 ?a28 ?l28 ?e28 ?k28 ?z_int ?z_len ?z_tuple ?z_range ?z_sum ?z_zip ?z_enumerate ?z_abs ?z_sorted ?z_isinstance ?z_bool ?z_all ?z_list ?z_any
    (case a1 => k_is); (case l1 => k_is); (case e1 => k_is); (case k1 => k_is); (case a2 => k_is); (case l2 => k_is); (case e2 => k_is); (case k2 => k_is); (case a3 => k_is); (case l3 => k_is); (case e3 => k_is); (case k3 => k_is); (case a4 => k_is); (case l4 => k_is); (case e4 => k_is); (case k4 => k_is); (case a5 => k_is); (case l5 => k_is); (case e5 => k_is); (case k5 => k_is); (case a6 => k_is); (case l6 => k_is); (case e6 => k_is); (case k6 => k_is); (case a7 => k_is); (case l7 => k_is); (case e7 => k_is); (case k7 => k_is); (case a8 => k_is); (case l8 => k_is); (case e8 => k_is); (case k8 => k_is); (case a9 => k_is); (case l9 => k_is); (case e9 => k_is); (case k9 => k_is); (case a10 => k_is); (case l10 => k_is); (case e10 => k_is); (case k10 => k_is); (case a11 => k_is); (case l11 => k_is); (case e11 => k_is); (case k11 => k_is); (case a12 => k_is); (case l12 => k_is); (case e12 => k_is); (case k12 => k_is); (case a13 => k_is); (case l13 => k_is); (case e13 => k_is); (case k13 => k_is); (case a14 => k_is); (case l14 => k_is); (case e14 => k_is); (case k14 => k_is); (case a15 => k_is); (case l15 => k_is); (case e15 => k_is); (case k15 => k_is); (case a16 => k_is); (case l16 => k_is); (case e16 => k_is); (case k16 => k_is); (case a17 => k_is); (case l17 => k_is); (case e17 => k_is); (case k17 => k_is); (case a18 => k_is); (case l18 => k_is); (case e18 => k_is); (case k18 => k_is); (case a19 => k_is); (case l19 => k_is); (case e19 => k_is); (case k19 => k_is); (case a20 => k_is); (case l20 => k_is); (case e20 => k_is); (case k20 => k_is); (case a21 => k_is); (case l21 => k_is); (case e21 => k_is); (case k21 => k_is); (case a22 => k_is); (case l22 => k_is); (case e22 => k_is); (case k22 => k_is); (case a23 => k_is); (case l23 => k_is); (case e23 => k_is); (case k23 => k_is); (case a24 => k_is); (case l24 => k_is); (case e24 => k_is); (case k24 => k_is); (case a25 => k_is); (case l25 => k_is); (case e25 => k_is); (case k25 => k_is); (case a26 => k_is); (case l26 => k_is); (case e26 => k_is); (case k26 => k_is); (case a27 => k_is); (case l27 => k_is); (case e27 => k_is); (case k27 => k_is); (case a28 => k_is); (case l28 => k_is); (case e28 => k_is); (case k28 => k_is); (case z_int => k_is); (case z_len => k_is); (case z_tuple => k_is); (case z_range => k_is); (case z_sum => k_is); (case z_zip => k_is); (case z_enumerate => k_is); (case z_abs => k_is); (case z_sorted => k_is); (case z_isinstance => k_is); (case z_bool => k_is); (case z_all => k_is); (case z_list => k_is); (case z_any => k_is)
