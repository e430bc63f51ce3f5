import PyProof.Rows.All
import Wide.All
import OpenK.AllK
import Wide.FinOn
import HandS.ForMost
import HandS.TupLe
import HandS.Gcd
import HandS.IsInst
import HandS.SortInts
import HandS.SortRule
import HandS.Deep
import HandS.SortKw
import KE.DataMinMax
import KE.KEqSeq
import HandS.SetFor
import HandS.More
import PySem.Challenge.RW_heapgame_k14_first_safe_order_or_a_ring
set_option Elab.async false
set_option linter.all false
set_option maxRecDepth 100000
namespace Pf
open PySem L2
/-! ### a def that may be called -/
structure Cal (P : Program) (w : World) (K : PySem.W.Frag) (mg : Str → Option Value) (base : Heap) (x : Str) (k : Nat) (f : Addr) (fd : FuncData) (ps : List Str) (sp : Sp) : Prop where
  ok : FnOk P w K mg base CX0 k f fd ps sp
  mg : mg x = some (.ref f)
  (kp : PySem.W.keepIn K (.ref f) = true)
  b : Binds K fd ps []
/-- an expression asked for its truth -/
def tTru (K : PySem.W.Frag) (ta : TE) : TT := fun σ H R => ta σ H fun v h => ∃ c, TruV K v h c ∧ R c h
theorem pt_truthN {X : Cx} {a : Expr} {ta : TE} (ha : PE X a ta) (he : ∀ whole, isTrue a X.env whole = (do let v ← whole; standAt a.pos; holding [v] (truthy v)) := by intro _; rfl) : PT X a (tTru X.K ta) := pt_truth ha he
theorem room65 {A : Around} {k : Nat} (hr : Room (k + 1) A) : A.units + 65 < cLine := by have := hr.un; omega
/-! ### the readings, one step each -/
section
variable {K : PySem.W.Frag} {σ : St} {H : Hp} {Q : VK} {D : Ends} {ta tb te : TE} {t u : TS} {c : TT}
theorem r_seq (h : t { D with nx := u D } σ H) : tSeq t u D σ H := h
theorem r_seqA {g : TG} (h : te σ H fun x H1 => g x σ H1 (u D)) : tSeq (tAsg te g) u D σ H := h
theorem r_seqD (h : te σ H fun _ H1 => u D σ H1) : tSeq (tDrop te) u D σ H := h
theorem r_seqF {wi : TI} {g : TG} {tb : TS} (h : tFor wi g tb { D with nx := u D } σ H) : tSeq (tFor wi g tb) u D σ H := h
theorem r_seqN (h : u D σ H) : tSeq tNext u D σ H := h
theorem r_seqG (h : ∀ R : St → Hp → Prop, (∀ σ H, u D σ H → R σ H) → t { D with nx := R } σ H) : tSeq t u D σ H := h (u D) fun _ _ x => x
theorem r_asg {g : TG} (h : te σ H fun x H1 => g x σ H1 D.nx) : tAsg te g D σ H := h
theorem r_drop (h : te σ H fun _ H1 => D.nx σ H1) : tDrop te D σ H := h
theorem r_ret (h : te σ H D.rt) : tRet te D σ H := h
theorem r_ifS (h : c σ H fun b H1 => if b = true then t D σ H1 else u D σ H1) : tIfS c t u D σ H := h
theorem r_next (h : D.nx σ H) : tNext D σ H := h
theorem r_cont (h : D.ct σ H) : tCont D σ H := h
theorem r_name {i : Nat} {v : V} {q : St → Hp → Prop} (h : q (σ.set i (some v)) H) : gName i v σ H q := h
theorem r_gnil {q : St → Hp → Prop} (h : q σ H) : gNil [] σ H q := ⟨rfl, h⟩
theorem r_gcons {t : TG} {u : TGs} {v : V} {vs : List V} {q : St → Hp → Prop} (h : t v σ H fun σ' H' => u vs σ' H' q) : gCons t u (v :: vs) σ H q := ⟨v, vs, rfl, h⟩
theorem r_gtup {n : Nat} {t : TGs} {a : Addr} {xs : List V} {q : St → Hp → Prop} (h1 : SqT K H a xs) (h2 : xs.length = n) (h : t xs σ H q) : gTup K n t (.ref a) σ H q := ⟨a, xs, rfl, h1, h2, h⟩
theorem r_gsub {to ti : TE} {t : TSet} {v : V} {q : St → Hp → Prop} (h : to σ H fun o H1 => ti σ H1 fun i H2 => t o i v H2 fun H3 => q σ H3) : gSub to ti t v σ H q := h
theorem r_setL0 {p : Addr} {xs : List V} {k : Int} {j : Nat} {v : V} {q : Hp → Prop} (h1 : H p = some (.lst xs)) (h2 : ixN xs.length k = some j) (h : q (upd H p (.lst (xs.set j v)))) : rSetL (.ref p) (.int k) v H q := ⟨p, xs, k, j, rfl, rfl, h1, h2, h⟩
theorem r_var {i : Nat} {v : V} (h : σ[i]? = some (some v)) (q : Q v H) : tVar i σ H Q := ⟨v, h, q⟩
theorem r_c {v : V} (q : Q v H) : tC v σ H Q := q
theorem r_op {r : R2} (h : ta σ H fun x H1 => tb σ H1 fun y H2 => r x y H2 Q) : tOp r ta tb σ H Q := h
theorem r_un {r : V → Hp → VK → Prop} (h : ta σ H fun x H1 => r x H1 Q) : tUn r ta σ H Q := h
theorem r_I0 {g : Int → Int → V} {i j : Int} (q : Q (g i j) H) : rI0 g (.int i) (.int j) H Q := ⟨i, j, rfl, rfl, q⟩
theorem r_I {C : Int → Int → Prop} {g : Int → Int → V} {i j : Int} (hc : C i j) (q : Q (g i j) H) : rI C g (.int i) (.int j) H Q := ⟨i, j, rfl, rfl, hc, q⟩
theorem r_U {g : Int → V} {i : Int} (q : Q (g i) H) : rU g (.int i) H Q := ⟨i, rfl, q⟩
theorem r_eqI {i j : Int} (q : Q (.bl (decide (i = j))) H) : rEq (.int i) (.int j) H Q := ⟨rfl, by rw [show decide (V.int i = V.int j) = decide (i = j) by simp]; exact q⟩
theorem r_neI {i j : Int} (q : Q (.bl (!decide (i = j))) H) : rNe (.int i) (.int j) H Q := ⟨rfl, by rw [show decide (V.int i = V.int j) = decide (i = j) by simp]; exact q⟩
theorem r_eqB {i j : Bool} (q : Q (.bl (decide (i = j))) H) : rEq (.bl i) (.bl j) H Q := ⟨rfl, by rw [show decide (V.bl i = V.bl j) = decide (i = j) by simp]; exact q⟩
theorem r_neB {i j : Bool} (q : Q (.bl (!decide (i = j))) H) : rNe (.bl i) (.bl j) H Q := ⟨rfl, by rw [show decide (V.bl i = V.bl j) = decide (i = j) by simp]; exact q⟩
theorem r_eq {x y : V} (hs : scal x y = true) (q : Q (.bl (decide (x = y))) H) : rEq x y H Q := ⟨hs, q⟩
theorem r_ne {x y : V} (hs : scal x y = true) (q : Q (.bl (!decide (x = y))) H) : rNe x y H Q := ⟨hs, q⟩
theorem r_test {q : Bool → Hp → Prop} (h : te σ H fun x H' => ∃ k, x = .bl k ∧ q k H') : tTest te σ H q := h
theorem r_B {q : Bool → Hp → Prop} (h : te σ H fun x H' => ∃ k, x = .bl k ∧ q k H') : tB te σ H q := h
theorem r_bl {b : Bool} {q : Bool → Prop} (h : q b) : ∃ k, V.bl b = .bl k ∧ q k := ⟨b, rfl, h⟩
theorem r_rfl {x : St} {A : Prop} (q : A) : x = x ∧ A := ⟨rfl, q⟩
theorem r_eqA {x y : St} {A : Prop} (h : x = y) (q : A) : x = y ∧ A := ⟨h, q⟩
theorem r_wipe {σ1 σ2 : St} {vs : List Nat} {A : Prop} (h : wipe σ1 vs = wipe σ2 vs) (q : A) : wipe σ1 vs = wipe σ2 vs ∧ A := ⟨h, q⟩
theorem r_bl2 {a b : Bool} {A : Bool → Bool → Prop} (h : A a b) : ∃ x y, V.bl a = .bl x ∧ V.bl b = .bl y ∧ A x y := ⟨a, b, rfl, rfl, h⟩
theorem r_yes {q : Bool → Hp → Prop} (h : q true H) : tYes σ H q := h
theorem r_and {a b : TT} {q : Bool → Hp → Prop} (h : a σ H fun c H1 => if c = true then b σ H1 q else q false H1) : L2.tAnd a b σ H q := h
theorem r_or {a b : TT} {q : Bool → Hp → Prop} (h : a σ H fun c H1 => if c = true then q true H1 else b σ H1 q) : L2.tOr a b σ H q := h
theorem r_not {a : TT} {q : Bool → Hp → Prop} (h : a σ H fun c H1 => q (!c) H1) : L2.tNot a σ H q := h
theorem r_andV {a b : TE} (h : a σ H fun x H1 => ∃ c, x = .bl c ∧ if c = true then b σ H1 Q else Q (.bl false) H1) : tAndV a b σ H Q := h
theorem r_orV {a b : TE} (h : a σ H fun x H1 => ∃ c, x = .bl c ∧ if c = true then Q (.bl true) H1 else b σ H1 Q) : tOrV a b σ H Q := h
theorem r_notV {a : TE} (h : a σ H fun x H1 => ∃ c, x = .bl c ∧ Q (.bl (!c)) H1) : tNotV a σ H Q := h
theorem r_ifE {c : TT} (h : c σ H fun b H1 => if b = true then ta σ H1 Q else tb σ H1 Q) : tIf c ta tb σ H Q := h
theorem r_nil {q : List V → Hp → Prop} (h : q [] H) : tNil σ H q := h
theorem r_cons {tr : TA} {q : List V → Hp → Prop} (h : ta σ H fun x H1 => tr σ H1 fun xs H2 => q (x :: xs) H2) : tCons ta tr σ H q := h
theorem r_tup {ts : TA} (h : ts σ H fun xs H1 => xs.length ≤ sizeLine ∧ ∀ p, H1 p = none → Q (.ref p) (upd H1 p (.tup xs))) : tTup ts σ H Q := h
theorem r_lst {ts : TA} (h : ts σ H fun xs H1 => xs.length ≤ sizeLine ∧ ∀ p, H1 p = none → Q (.ref p) (upd H1 p (.lst xs))) : tLst ts σ H Q := h
theorem r_small {xs : List V} {A : Prop} (h : A) (hs : xs.length ≤ sizeLine) : xs.length ≤ sizeLine ∧ A := ⟨hs, h⟩
theorem r_CB {r : List V → Hp → VK → Prop} {ts : TA} (h : ts σ H fun vs H1 => r vs H1 Q) : tCB r ts σ H Q := h
theorem r_call {sp : Sp} {E : XK} {ts : TA} (h : ts σ H fun vs H1 => sp vs H1 Q E) : tCall sp [] E ts σ H Q := by
  have e : (fun vs H1 => sp (vs ++ []) H1 Q E) = fun vs H1 => sp vs H1 Q E := by
    funext vs H1
    rw [List.append_nil]
  show ts σ H fun vs H1 => sp (vs ++ []) H1 Q E
  rw [e]
  exact h
theorem r_bm {T : String} {r : V → List V → Hp → VK → Prop} {ts : TA} (h : te σ H fun x H1 => tyV K T x H1 ∧ ts σ H1 fun xs H2 => r x xs H2 Q) : tBM K T r te ts σ H Q := h
theorem r_bm0 {T : String} {r : V → List V → Hp → VK → Prop} (h : te σ H fun x H1 => tyV K T x H1 ∧ r x [] H1 Q) : tBM0 K T r te σ H Q := h
theorem ty_lst {p : Addr} {xs : List V} (h : H p = some (.lst xs)) : tyV K "list" (.ref p) H := .inl ⟨rfl, _, .inl (.inl h)⟩
theorem r_app0 {p : Addr} {xs : List V} {y : V} (h : H p = some (.lst xs)) (hs : xs.length < sizeLine) (q : Q .non (upd H p (.lst (xs ++ [y])))) : rAppend (.ref p) [y] H Q := ⟨p, xs, y, rfl, rfl, h, hs, q⟩
theorem r_ixL {p : Addr} {xs : List V} {i : Int} {v : V} (h : SqL K H p xs) (ha : atI xs i = some v) (q : Q v H) : rIxL K (.ref p) (.int i) H Q := ⟨p, xs, i, v, rfl, rfl, h, ha, q⟩
theorem r_ixT {p : Addr} {xs : List V} {i : Int} {v : V} (h : SqT K H p xs) (ha : atI xs i = some v) (q : Q v H) : rIxT K (.ref p) (.int i) H Q := ⟨p, xs, i, v, rfl, rfl, h, ha, q⟩
theorem r_int {i : Int} {A : Int → Prop} {B : Prop} (q : A i) : (∃ j, [V.int i] = [V.int j] ∧ A j) ∨ B := .inl ⟨i, rfl, q⟩
theorem r_lenL {p : Addr} {xs : List V} {A : Addr → List V → Prop} (h : SqL K H p xs) (q : A p xs) : ∃ p' ys, [V.ref p] = [V.ref p'] ∧ (SqL K H p' ys ∨ SqT K H p' ys) ∧ A p' ys := ⟨p, xs, rfl, .inl h, q⟩
theorem r_lenT {p : Addr} {xs : List V} {A : Addr → List V → Prop} (h : SqT K H p xs) (q : A p xs) : ∃ p' ys, [V.ref p] = [V.ref p'] ∧ (SqL K H p' ys ∨ SqT K H p' ys) ∧ A p' ys := ⟨p, xs, rfl, .inr h, q⟩
theorem r_i2 {i j : Int} {A : Int → Int → Prop} (q : A i j) : ∃ i' j', [V.int i, V.int j] = [V.int i', V.int j'] ∧ A i' j' := ⟨i, j, rfl, q⟩
theorem r_i1 {i : Int} {A : Int → Prop} (q : A i) : ∃ i', [V.int i] = [V.int i'] ∧ A i' := ⟨i, rfl, q⟩
theorem r_ite {p A B : Prop} [Decidable p] (h1 : p → A) (h2 : ¬ p → B) : if decide p = true then A else B := by
  by_cases h : p
  · rw [if_pos (decide_eq_true h)]
    exact h1 h
  · rw [if_neg (by simp [h])]
    exact h2 h
theorem r_iteN {p A B : Prop} [Decidable p] (h1 : ¬ p → A) (h2 : p → B) : if (!decide p) = true then A else B := by
  by_cases h : p
  · rw [if_neg (by simp [h])]
    exact h2 h
  · rw [if_pos (by simp [h])]
    exact h1 h
theorem r_iteB {b : Bool} {A B : Prop} (h1 : b = true → A) (h2 : b = false → B) : if b = true then A else B := by
  cases b
  · exact h2 rfl
  · exact h1 rfl
/-! ### loops -/
theorem r_rng1 {j : Int} {A : Int → Prop} (h1 : -(2 ^ 62) ≤ j) (h2 : j < 2 ^ 62) (h : A j) : ∃ j' : Int, [V.int j] = [V.int j'] ∧ -(2 ^ 62) ≤ j' ∧ j' < 2 ^ 62 ∧ A j' := ⟨j, rfl, h1, h2, h⟩
theorem r_rng2 {i j : Int} {A : Int → Int → Prop} (h1 : -(2 ^ 62) ≤ i ∧ i < 2 ^ 62 ∧ -(2 ^ 62) ≤ j ∧ j < 2 ^ 62) (h : A i j) : ∃ i' j' : Int, [V.int i, V.int j] = [V.int i', V.int j'] ∧ (-(2 ^ 62) ≤ i' ∧ i' < 2 ^ 62 ∧ -(2 ^ 62) ≤ j' ∧ j' < 2 ^ 62) ∧ A i' j' := ⟨i, j, rfl, h1, h⟩
theorem r_sl {r : V → Option Int → Option Int → Hp → VK → Prop} {tl th : TO} (h : te σ H fun x H1 => tl σ H1 fun l H2 => th σ H2 fun u H3 => r x l u H3 Q) : tSl r te tl th σ H Q := h
theorem r_noPart {q : Option Int → Hp → Prop} (h : q none H) : tNoPart σ H q := h
theorem r_part {q : Option Int → Hp → Prop} (h : te σ H fun x H1 => ∃ i, x = .int i ∧ q (some i) H1) : tPart te σ H q := h
theorem r_int1 {i : Int} {A : Int → Prop} (h : A i) : ∃ j, V.int i = .int j ∧ A j := ⟨i, rfl, h⟩
theorem r_slT {a : Addr} {xs : List V} {lo hi : Option Int} (h : SqT K H a xs) (hn : ¬ (HT.sIx xs.length 0 lo = 0 ∧ HT.sIx xs.length xs.length hi = xs.length)) (q : ∀ p, H p = none → Q (.ref p) (upd H p (.tup (cutV xs lo hi)))) : rSlT K (.ref a) lo hi H Q := ⟨a, xs, rfl, h, hn, q⟩
theorem r_slL {a : Addr} {xs : List V} {lo hi : Option Int} (h : SqL K H a xs) (q : ∀ p, H p = none → Q (.ref p) (upd H p (.lst (cutV xs lo hi)))) : rSlL K (.ref a) lo hi H Q := ⟨a, xs, rfl, h, q⟩
theorem r_tru {K : PySem.W.Frag} {q : Bool → Hp → Prop} (h : te σ H fun x H' => ∃ k, TruV K x H' k ∧ q k H') : tTru K te σ H q := h
theorem r_truL {p : Addr} {xs : List V} {q : Bool → Prop} (h : SqL K H p xs) (a : q (!xs.isEmpty)) : ∃ k, TruV K (.ref p) H k ∧ q k := ⟨_, .inl ⟨xs, h, rfl⟩, a⟩
/-- a walk: each turn leads on or there is none left; R goes down in its second place -/
def WkH (J : It) (Fin : Hp → Prop) (Turns : V → Hp → (Hp → Prop) → Prop) (h₀ : Hp) : Prop :=
  ∃ R : Nat → Nat → Hp → Prop, (∃ c, R 0 c h₀) ∧ ∀ i c h, R i c h → (J.stop i h ∧ Fin h) ∨ (J.go i h ∧ ∃ B : Hp → Prop, (∀ h', B h' → ∃ c', c' < c ∧ R (i + 1) c' h') ∧ ∀ y h', J.yld i h y h' → Turns y h' B)
/-- the same, with slots -/
def WkS (J : It) (Fin : St → Hp → Prop) (Turns : V → St → Hp → (St → Hp → Prop) → Prop) (s₀ : St) (h₀ : Hp) : Prop :=
  ∃ R : Nat → Nat → St → Hp → Prop, (∃ c, R 0 c s₀ h₀) ∧ ∀ i c s h, R i c s h → (J.stop i h ∧ Fin s h) ∨ (J.go i h ∧ ∃ B : St → Hp → Prop, (∀ s' h', B s' h' → ∃ c', c' < c ∧ R (i + 1) c' s' h') ∧ ∀ y h', J.yld i h y h' → Turns y s h' B)
/-- a walk of n turns: P i holds ahead of the i-th one -/
theorem walkH {J : It} {n : Nat} {h₀ : Hp} {Fin : Hp → Prop} {Turns : V → Hp → (Hp → Prop) → Prop} (P : Nat → Hp → Prop) (start : P 0 h₀) (last : ∀ h, P n h → J.stop n h ∧ Fin h)
    (next : ∀ i h, i < n → P i h → J.go i h ∧ ∀ y h', J.yld i h y h' → Turns y h' (P (i + 1))) : WkH J Fin Turns h₀ := by
  refine ⟨fun i c h => i ≤ n ∧ i + c = n ∧ P i h, ⟨n, Nat.zero_le n, Nat.zero_add n, start⟩, ?_⟩
  rintro i c h ⟨le, sum, p⟩
  rcases Nat.lt_or_ge i n with lt | ge
  · obtain ⟨g, turns⟩ := next i h lt p
    exact Or.inr ⟨g, P (i + 1), fun h' p' => ⟨c - 1, by omega, lt, by omega, p'⟩, turns⟩
  · obtain rfl : i = n := by omega
    exact Or.inl (last h p)
theorem walkS {J : It} {n : Nat} {s₀ : St} {h₀ : Hp} {Fin : St → Hp → Prop} {Turns : V → St → Hp → (St → Hp → Prop) → Prop} (P : Nat → St → Hp → Prop) (start : P 0 s₀ h₀) (last : ∀ s h, P n s h → J.stop n h ∧ Fin s h)
    (next : ∀ i s h, i < n → P i s h → J.go i h ∧ ∀ y h', J.yld i h y h' → Turns y s h' (P (i + 1))) : WkS J Fin Turns s₀ h₀ := by
  refine ⟨fun i c s h => i ≤ n ∧ i + c = n ∧ P i s h, ⟨n, Nat.zero_le n, Nat.zero_add n, start⟩, ?_⟩
  rintro i c s h ⟨le, sum, p⟩
  rcases Nat.lt_or_ge i n with lt | ge
  · obtain ⟨g, turns⟩ := next i s h lt p
    exact Or.inr ⟨g, P (i + 1), fun s' h' p' => ⟨c - 1, by omega, lt, by omega, p'⟩, turns⟩
  · obtain rfl : i = n := by omega
    exact Or.inl (last s h p)
/-- over a range -/
theorem w_range {lo : Int} {n : Nat} {H0 : Hp} {Qd : Hp → Prop} {Body : V → Hp → (Hp → Prop) → Prop} (P : Nat → Hp → Prop) (start : P 0 H0) (hs : ∀ i H, i < n → P i H → Body (.int (lo + i)) H (P (i + 1))) (hd : ∀ H, P n H → Qd H) : WkH (Itr lo n) Qd Body H0 :=
  walkH P start (fun h p => And.intro (Nat.le_refl n) (hd h p)) fun i h lt p => And.intro lt fun y h' yl => by
    rcases yl with ⟨ey, eh⟩
    rw [ey, eh]
    exact hs i h lt p
/-- over a list -/
theorem w_list {K : PySem.W.Frag} {a : Addr} {xs : List V} {H0 : Hp} {Qd : Hp → Prop} {Body : V → Hp → (Hp → Prop) → Prop} (P : Nat → Hp → Prop) (start : P 0 H0) (hl : ∀ i H, i ≤ xs.length → P i H → SqL K H a xs) (hs : ∀ i x H, xs[i]? = some x → P i H → Body x H (P (i + 1))) (hd : ∀ H, P xs.length H → Qd H) : WkH (Itl K a) Qd Body H0 :=
  walkH P start (fun h p => And.intro ⟨xs, hl _ h (Nat.le_refl _) p, Nat.le_refl _⟩ (hd h p)) fun i h lt p => And.intro ⟨xs, xs[i], hl i h (Nat.le_of_lt lt) p, List.getElem?_eq_getElem lt⟩ fun y h' yl => by
    rcases yl with ⟨eh, at_⟩
    rw [eh]
    exact hs i y h (at_ xs (hl i h (Nat.le_of_lt lt) p)) p
theorem r_forS {wi : TI} {g : TG} {tb : TS} (h : wi σ H fun J h1 => WkS J D.nx (fun y s h2 B => g y s h2 (tb { D with nx := B, ct := B, bk := D.nx })) σ h1) : tFor wi g tb D σ H := h
theorem r_lc {wi : TI} {g : TG} {tt : TT} {vs : List Nat} (h : wi σ H fun J h1 => ∀ D, h1 D = none → WkH J (fun h2 => Q (.ref D) h2) (fun y h2 B => g y (wipe σ vs) h2 fun s h3 => wipe s vs = wipe σ vs ∧ tt s h3 fun b h4 => if b = true then te s h4 fun z h5 => ∃ acc, h5 D = some (.lst acc) ∧ acc.length < sizeLine ∧ B (upd h5 D (.lst (acc ++ [z]))) else B h4) (upd h1 D (.lst []))) :
    tLc wi g tt te vs σ H Q := h
theorem r_lc2 {wi : TI} {g : TG} {tt : TT} {wi1 : TI} {g1 : TG} {tt1 : TT} {vs vs1 : List Nat} (h : wi σ H fun J h1 => ∀ D, h1 D = none → WkH J (fun h2 => Q (.ref D) h2) (fun y h2 B => g y (wipe σ vs) h2 fun s h3 => wipe s vs = wipe σ vs ∧ tt s h3 fun b h4 =>
      if b = true then wi1 s h4 fun J1 h5 => WkH J1 B (fun y1 h6 B1 => g1 y1 (wipe s vs1) h6 fun s1 h7 => wipe s1 vs1 = wipe s vs1 ∧ tt1 s1 h7 fun b1 h8 => if b1 = true then te s1 h8 fun z h9 => ∃ acc, h9 D = some (.lst acc) ∧ acc.length < sizeLine ∧ B1 (upd h9 D (.lst (acc ++ [z]))) else B1 h8) h5 else B h4) (upd h1 D (.lst []))) :
    tLc2 wi g tt wi1 g1 tt1 te vs vs1 σ H Q := h
theorem r_ckw {r : List V → List V → Hp → VK → Prop} {ts tk : TA} (h : ts σ H fun vs H1 => tk σ H1 fun zs H2 => r vs zs H2 Q) : tCKw r ts tk σ H Q := h
theorem r_iR1 {tA : TA} {R : It → Hp → Prop} (h : tA σ H fun vs H1 => ∃ j : Int, vs = [V.int j] ∧ -(2 ^ 62) ≤ j ∧ j < 2 ^ 62 ∧ R (Itr 0 j.toNat) H1) : iRng1 tA σ H R := h
theorem r_iR2 {tA : TA} {R : It → Hp → Prop} (h : tA σ H fun vs H1 => ∃ i j : Int, vs = [V.int i, V.int j] ∧ (-(2 ^ 62) ≤ i ∧ i < 2 ^ 62 ∧ -(2 ^ 62) ≤ j ∧ j < 2 ^ 62) ∧ R (Itr i (j - i).toNat) H1) : iRng2 tA σ H R := h
theorem r_iL {tl : TE} {R : It → Hp → Prop} (h : tl σ H fun x H1 => ∃ a, x = V.ref a ∧ (∃ xs, SqL K H1 a xs) ∧ R (Itl K a) H1) : iList K tl σ H R := h
theorem r_iL2 {a : Addr} {xs : List V} {A : Addr → Prop} (h : SqL K H a xs) (q : A a) : ∃ a', V.ref a = V.ref a' ∧ (∃ xs, SqL K H a' xs) ∧ A a' := ⟨a, rfl, ⟨xs, h⟩, q⟩
end
theorem at_int {ns : List Int} {i : Int} (h0 : 0 ≤ i) (h1 : i < (ns.length : Int)) : atI (ns.map V.int) i = some (.int (ns.getD i.toNat 0)) := by
  obtain ⟨j, rfl⟩ : ∃ j : Nat, i = (j : Int) := ⟨i.toNat, by omega⟩
  have hj : j < ns.length := by omega
  refine atI_nat ?_
  rw [List.getElem?_map, List.getElem?_eq_getElem hj, Int.toNat_natCast, List.getD_eq_getElem?_getD, List.getElem?_eq_getElem hj]
  rfl
/-! ### heaps -/
theorem same_upd {H : Hp} {p : Addr} {o : HO} (new : H p = none) : Same H (upd H p o) := fun a u at_ => (upd_ne (ne_of_none at_ new)).trans at_
/-- all that is tracked is as it was, but what stands at b -/
def But (b : Addr) (H H' : Hp) : Prop := ∀ a o, a ≠ b → H a = some o → H' a = some o
theorem But.refl (b : Addr) (H : Hp) : But b H H := fun _ _ _ h => h
theorem But.trans {b : Addr} {H H1 H2 : Hp} (x : But b H H1) (y : But b H1 H2) : But b H H2 := fun a o n e => y a o n (x a o n e)
theorem But.of {b : Addr} {H H' : Hp} (x : Same H H') : But b H H' := fun a o _ e => x a o e
theorem But.upd {b : Addr} {H : Hp} {o : HO} : But b H (upd H b o) := fun a u n e => by rw [upd_ne n]; exact e
theorem But.same {b : Addr} {H H' : Hp} {o : HO} (x : But b H H') (h : H b = some o) (h' : H' b = some o) : Same H H' := fun a u e => by
  by_cases q : a = b
  · rw [q, h] at e
    rw [q, h']
    exact e
  · exact x a u q e
/-- from outside, what is made and then changed was never there -/
theorem But.new {b : Addr} {H0 H H' : Hp} (x : But b H H') (n : H0 b = none) (s : Same H0 H) : Same H0 H' := fun a u e => x a u (ne_of_none e n) (s a u e)
theorem But.seq {K : PySem.W.Frag} {b : Addr} {H H' : Hp} {a : Addr} {xs : List V} (e : But b H H') (n : a ≠ b) (h : SqL K H a xs) : SqL K H' a xs := by
  rcases h with (z | ⟨u, z⟩) | z
  · exact .inl (.inl (e _ _ n z))
  · exact .inl (.inr ⟨u, e _ _ n z⟩)
  · exact .inr z
theorem But.free {b : Addr} {H H' : Hp} {o : HO} (e : But b H H') (hb : H' b = some o) {l : Addr} (h : H' l = Option.none) : H l = Option.none := by
  cases q : H l with
  | none => rfl
  | some u =>
    by_cases n : l = b
    · rw [n, hb] at h
      cases h
    · rw [e l u n q] at h
      cases h
/-! ### the box of draws: [digits, the next one's place] -/
def Bx (H : Hp) (b d : Addr) : Prop := ∃ (ds : List Int) (at_ : Nat), H b = some (.lst [.ref d, .int at_]) ∧ H d = some (.lst (ds.map V.int)) ∧ d ≠ b
section
variable {H H' : Hp} {b d a p : Addr}
theorem Bx.same (h : Bx H b d) (s : Same H H') : Bx H' b d := let ⟨ds, k, e1, e2, n⟩ := h; ⟨ds, k, s _ _ e1, s _ _ e2, n⟩
theorem Bx.but (h : Bx H b d) (s : But p H H') (nb : p ≠ b) (nd : p ≠ d) : Bx H' b d := let ⟨ds, k, e1, e2, n⟩ := h; ⟨ds, k, s _ _ nb.symm e1, s _ _ nd.symm e2, n⟩
theorem Bx.ne (h : Bx H b d) (n : H a = none) : a ≠ b := let ⟨_, _, e, _⟩ := h; fun q => by rw [q, e] at n; cases n
theorem Bx.neD (h : Bx H b d) (n : H a = none) : a ≠ d := let ⟨_, _, _, e, _⟩ := h; fun q => by rw [q, e] at n; cases n
theorem Bx.neT {xs : List V} (h : Bx H b d) (n : H a = some (.tup xs)) : a ≠ b := let ⟨_, _, e, _⟩ := h; fun q => by rw [q, e] at n; cases n
theorem Bx.free (h : Bx H' b d) (e : But b H H') (n : H' a = none) : H a = none := let ⟨_, _, q, _⟩ := h; e.free q n
end
/-! ### the rules that change the heap, the new heap a letter -/
section
variable {K : PySem.W.Frag} {σ : St} {H : Hp} {Q : VK}
theorem r_setL {p : Addr} {xs : List V} {k : Int} {j : Nat} {v : V} {q : Hp → Prop} (h1 : H p = some (.lst xs)) (h2 : ixN xs.length k = some j) (h : ∀ H', H' p = some (.lst (xs.set j v)) → But p H H' → q H') : rSetL (.ref p) (.int k) v H q :=
  ⟨p, xs, k, j, rfl, rfl, h1, h2, h _ upd_same But.upd⟩
theorem r_app {p : Addr} {xs : List V} {y : V} (h : H p = some (.lst xs)) (hs : xs.length < sizeLine) (q : ∀ H', H' p = some (.lst (xs ++ [y])) → But p H H' → Q .non H') : rAppend (.ref p) [y] H Q := ⟨p, xs, y, rfl, rfl, h, hs, q _ upd_same But.upd⟩
@[elab_as_elim] theorem upd_new {p : Addr} {o : HO} {motive : Hp → Prop} (np : H p = none) (h : ∀ H', H' p = some o → Same H H' → motive H') : motive (upd H p o) := h _ upd_same (same_upd np)
end
theorem drop_get {α : Type} {xs : List α} {i : Nat} {x : α} (h : xs[i]? = some x) : xs.drop i = x :: xs.drop (i + 1) := by
  obtain ⟨hi, rfl⟩ := List.getElem?_eq_some_iff.mp h
  exact List.drop_eq_getElem_cons hi
theorem r_cat {H : Hp} {Q : VK} {l b : Addr} {xs zs : List V} (h1 : H l = some (.lst xs)) (h2 : H b = some (.lst zs)) (hs : xs.length + zs.length ≤ sizeLine) (q : ∀ p, H p = none → Q (.ref p) (upd H p (.lst (xs ++ zs)))) : rCat (.ref l) (.ref b) H Q :=
  ⟨l, b, xs, zs, rfl, rfl, h1, h2, hs, q⟩
/-! ### lists of tuples -/
section
variable {α : Type}
/-- at ts stand tuples, f of the xs -/
def TL (f : α → List V) (H : Hp) (ts : List Addr) (xs : List α) : Prop := ts.length = xs.length ∧ ∀ (i : Nat) (t : Addr), ts[i]? = some t → ∃ x, xs[i]? = some x ∧ H t = some (.tup (f x))
/-- at a stands a list of tuples, f of the xs -/
def LT (f : α → List V) (H : Hp) (a : Addr) (xs : List α) : Prop := ∃ ts : List Addr, H a = some (.lst (ts.map V.ref)) ∧ TL f H ts xs
variable {f : α → List V} {H H' : Hp} {ts : List Addr} {xs : List α} {a b : Addr}
theorem TL.nil : TL f H [] ([] : List α) := ⟨rfl, fun i t h => by simp at h⟩
theorem TL.same (h : TL f H ts xs) (s : Same H H') : TL f H' ts xs := ⟨h.1, fun i t e => let ⟨x, e1, e2⟩ := h.2 i t e; ⟨x, e1, s _ _ e2⟩⟩
theorem TL.but {o : List V} (h : TL f H ts xs) (s : But b H H') (hb : H b = some (.lst o)) : TL f H' ts xs := ⟨h.1, fun i t e => let ⟨x, e1, e2⟩ := h.2 i t e; ⟨x, e1, s _ _ (ne_of e2 hb (by intro z; cases z)) e2⟩⟩
theorem TL.snoc {t : Addr} {x : α} (h : TL f H ts xs) (ht : H t = some (.tup (f x))) : TL f H (ts ++ [t]) (xs ++ [x]) := by
  refine ⟨by rw [List.length_append, List.length_append, h.1]; rfl, fun i u e => ?_⟩
  by_cases hi : i < ts.length
  · rw [List.getElem?_append_left hi] at e
    obtain ⟨y, e1, e2⟩ := h.2 i u e
    exact ⟨y, by rw [List.getElem?_append_left (by rw [← h.1]; exact hi)]; exact e1, e2⟩
  · rw [List.getElem?_append_right (by omega)] at e
    have hi0 : i - ts.length = 0 := by
      by_cases q : i - ts.length = 0
      · exact q
      · rw [List.getElem?_eq_none (by simp; omega)] at e
        cases e
    rw [hi0] at e
    have e' : t = u := Option.some.inj e
    subst e'
    exact ⟨x, by rw [List.getElem?_append_right (by rw [← h.1]; omega), ← h.1, hi0]; rfl, ht⟩
theorem TL.get (h : TL f H ts xs) {i : Nat} {x : α} (e : xs[i]? = some x) : ∃ t, ts[i]? = some t ∧ H t = some (.tup (f x)) := by
  have hi : i < ts.length := by rw [h.1]; exact (List.getElem?_eq_some_iff.mp e).1
  obtain ⟨y, e1, e2⟩ := h.2 i _ (List.getElem?_eq_getElem hi)
  rw [e] at e1
  cases e1
  exact ⟨_, List.getElem?_eq_getElem hi, e2⟩
/-- an item of the list, read -/
theorem TL.at (h : TL f H ts xs) {i : Int} (h0 : 0 ≤ i) (h1 : i < (xs.length : Int)) : ∃ x t, xs[i.toNat]? = some x ∧ atI (ts.map V.ref) i = some (.ref t) ∧ H t = some (.tup (f x)) := by
  have hi : i.toNat < xs.length := by omega
  obtain ⟨t, e1, e2⟩ := h.get (List.getElem?_eq_getElem hi)
  refine ⟨_, t, List.getElem?_eq_getElem hi, ?_, e2⟩
  have e : i = ((i.toNat : Nat) : Int) := by omega
  rw [e]
  refine atI_nat ?_
  rw [List.getElem?_map, e1]
  rfl
theorem snoc_of {β : Type} : ∀ {l : List β}, l ≠ [] → ∃ G g, l = G ++ [g]
  | [], h => absurd rfl h
  | [x], _ => ⟨[], x, rfl⟩
  | x :: y :: r, _ => by
    obtain ⟨G, g, e⟩ := snoc_of (l := y :: r) (by simp)
    exact ⟨x :: G, g, by rw [e]; rfl⟩
theorem TL.unsnoc {ys : List α} {y : α} (h : TL f H ts (ys ++ [y])) : ∃ (ts0 : List Addr) (tl : Addr), ts = ts0 ++ [tl] ∧ TL f H ts0 ys ∧ H tl = some (.tup (f y)) := by
  have hl := h.1
  simp only [List.length_append, List.length_cons, List.length_nil] at hl
  obtain ⟨ts0, tl, rfl⟩ : ∃ ts0 tl, ts = ts0 ++ [tl] := by
    have hne : ts ≠ [] := by intro e; rw [e] at hl; simp at hl
    exact snoc_of hne
  simp only [List.length_append, List.length_cons, List.length_nil] at hl
  have hl' : ts0.length = ys.length := by omega
  refine ⟨ts0, tl, rfl, ⟨hl', fun i t e => ?_⟩, ?_⟩
  · have hi := (List.getElem?_eq_some_iff.mp e).1
    obtain ⟨x, e1, e2⟩ := h.2 i t (by rw [List.getElem?_append_left hi]; exact e)
    rw [List.getElem?_append_left (by omega)] at e1
    exact ⟨x, e1, e2⟩
  · obtain ⟨x, e1, e2⟩ := h.2 ts0.length tl (by rw [List.getElem?_append_right (Nat.le_refl _), Nat.sub_self]; rfl)
    rw [hl', List.getElem?_append_right (Nat.le_refl _), Nat.sub_self] at e1
    have e1' : y = x := Option.some.inj e1
    rw [e1']
    exact e2
theorem ixN_last (n : Nat) : ixN (n + 1) (-1) = some n := by
  unfold ixN
  rw [if_neg (by omega), if_pos (by omega)]
  congr 1
  omega
theorem set_last (ts : List Addr) (a b : Addr) : ((ts ++ [a]).map V.ref).set ts.length (V.ref b) = (ts ++ [b]).map V.ref := by
  rw [List.map_append, List.map_append, List.set_append_right _ _ (by rw [List.length_map]; exact Nat.le_refl _), List.length_map, Nat.sub_self]
  rfl
theorem TL.len (h : TL f H ts xs) : (ts.map V.ref).length = xs.length := by rw [List.length_map, h.1]
theorem LT.same (h : LT f H a xs) (s : Same H H') : LT f H' a xs := let ⟨ts, e, q⟩ := h; ⟨ts, s _ _ e, q.same s⟩
theorem LT.but {o : List V} (h : LT f H a xs) (s : But b H H') (hb : H b = some (.lst o)) (n : a ≠ b) : LT f H' a xs := let ⟨ts, e, q⟩ := h; ⟨ts, s _ _ n e, q.but s hb⟩
theorem TL.box (h : TL f H ts xs) (s : But b H H') {d : Addr} (B : Bx H b d) : TL f H' ts xs := let ⟨_, _, e, _⟩ := B; h.but s e
theorem LT.box (h : LT f H a xs) (s : But b H H') {d : Addr} (B : Bx H b d) (n : a ≠ b) : LT f H' a xs := let ⟨_, _, e, _⟩ := B; h.but s e n
end
/-- a block -/
@[reducible] def bV (b : Int × Int) : List V := [.int b.1, .int b.2]
theorem menu {ns : List Int} {r : Int} (h0 : 0 ≤ r) (h1 : r < (ns.length : Int)) : ∃ v, v ∈ ns ∧ atI (ns.map V.int) r = some (.int v) := by
  refine ⟨ns.getD r.toNat 0, ?_, at_int h0 h1⟩
  have hi : r.toNat < ns.length := by omega
  simp only [List.getD_eq_getElem?_getD]
  rw [List.getElem?_eq_getElem hi]
  exact List.getElem_mem hi
/-! ### isinstance -/
section
variable {K : PySem.W.Frag} {H : Hp} {Q : VK}
theorem r_isi {x : V} {t T : String} {b : Bool} (ty : TyOf K H x (.type t)) (e : kitB t T = some b) (q : Q (.bl b) H) : rIsi K [x, .ty T] H Q := ⟨x, _, _, _, b, rfl, .ty T, .base ty, kit_ty e, q⟩
theorem kit_bb : kitB "bool" "bool" = some true := by decide +kernel
theorem kit_ii : kitB "int" "int" = some true := by decide +kernel
theorem kit_ib : kitB "int" "bool" = some false := by decide +kernel
theorem kit_bi : kitB "bool" "int" = some true := by decide +kernel
theorem kit_nb : kitB "NoneType" "bool" = some false := by decide +kernel
theorem kit_nt : kitB "NoneType" "tuple" = some false := by decide +kernel
theorem kit_ll : kitB "list" "list" = some true := by decide +kernel
theorem kit_tt : kitB "tuple" "tuple" = some true := by decide +kernel
theorem kit_ss : kitB "str" "str" = some true := by decide +kernel
theorem kit_lt : kitB "list" "tuple" = some false := by decide +kernel
theorem kit_tl : kitB "tuple" "list" = some false := by decide +kernel
theorem r_isi_ib {i : Int} (q : Q (.bl false) H) : rIsi K [.int i, .ty "bool"] H Q := r_isi (.int i) kit_ib q
theorem r_isi_ii {i : Int} (q : Q (.bl true) H) : rIsi K [.int i, .ty "int"] H Q := r_isi (.int i) kit_ii q
theorem r_isi_bb {i : Bool} (q : Q (.bl true) H) : rIsi K [.bl i, .ty "bool"] H Q := r_isi (.bl i) kit_bb q
theorem r_isi_nb (q : Q (.bl false) H) : rIsi K [.non, .ty "bool"] H Q := r_isi .non kit_nb q
theorem r_isi_nt (q : Q (.bl false) H) : rIsi K [.non, .ty "tuple"] H Q := r_isi .non kit_nt q
theorem r_isi_ll {a : Addr} {xs : List V} (e : H a = some (.lst xs)) (q : Q (.bl true) H) : rIsi K [.ref a, .ty "list"] H Q := r_isi (.lst e) kit_ll q
theorem r_isi_tt {a : Addr} {xs : List V} (e : H a = some (.tup xs)) (q : Q (.bl true) H) : rIsi K [.ref a, .ty "tuple"] H Q := r_isi (.tup e) kit_tt q
end
theorem ite_notT {A B : Prop} (h : B) : if (!true) = true then A else B := h
theorem ite_notF {A B : Prop} (h : A) : if (!false) = true then A else B := h
/-! ### data at any depth -/
class Enc (α : Type) [DecidableEq α] where
  enc : α → PyData
  dep : Nat
  lay : ∀ x, (enc x).canLay0 = true
  dle : ∀ x, (enc x).depth ≤ dep
  eqv : ∀ x y, PyData.eqv (enc x) (enc y) = decide (x = y)
open Enc (enc)
instance encInt : Enc Int := ⟨.int, 0, fun _ => rfl, fun _ => Nat.le_refl _, fun x y => by rw [PyData.eqv]; exact Bool.beq_eq_decide_eq x y⟩
instance encBool : Enc Bool := ⟨.bool, 0, fun _ => rfl, fun _ => Nat.le_refl _, fun x y => by rw [PyData.eqv]; exact Bool.beq_eq_decide_eq x y⟩
theorem layAll {α : Type} [DecidableEq α] [Enc α] : ∀ xs : List α, PyData.canLayAll0 (xs.map enc) = true
  | [] => rfl
  | x :: xs => by rw [List.map_cons, PyData.canLayAll0, Enc.lay x, layAll xs]; rfl
theorem depAll {α : Type} [DecidableEq α] [Enc α] : ∀ xs : List α, PyData.depthAll (xs.map enc) ≤ Enc.dep α
  | [] => by rw [List.map_nil, PyData.depthAll]; exact Nat.zero_le _
  | x :: xs => by
    have h1 := depAll xs
    have h2 := Enc.dle x
    rw [List.map_cons]
    rw [PyData.depthAll]
    omega
theorem eqvAll {α : Type} [DecidableEq α] [Enc α] : ∀ xs ys : List α, PyData.eqvAll (xs.map enc) (ys.map enc) = decide (xs = ys)
  | .nil, .nil => by rw [List.map_nil, PyData.eqvAll]; exact (decide_eq_true rfl).symm
  | .nil, .cons b m => by simp [PyData.eqvAll, List.map_cons]
  | .cons a l, .nil => by simp [PyData.eqvAll, List.map_cons]
  | x :: xs, y :: ys => by
    rw [List.map_cons, List.map_cons, PyData.eqvAll, Enc.eqv, eqvAll xs ys]
    by_cases h : x = y <;> by_cases h' : xs = ys <;> simp [h, h']
instance encList {α : Type} [DecidableEq α] [Enc α] : Enc (List α) := ⟨fun xs => .list (xs.map enc), Enc.dep α + 1, fun xs => by rw [PyData.canLay0]; exact layAll xs,
  fun xs => by have := depAll xs; rw [PyData.depth]; omega, fun xs ys => by rw [PyData.eqv]; exact eqvAll xs ys⟩
instance encPair {α β : Type} [DecidableEq α] [DecidableEq β] [Enc α] [Enc β] : Enc (α × β) := ⟨fun x => .tuple [enc x.1, enc x.2], max (Enc.dep α) (Enc.dep β) + 1,
  fun x => by rw [PyData.canLay0, PyData.canLayAll0, PyData.canLayAll0, PyData.canLayAll0, Enc.lay, Enc.lay]; rfl,
  fun x => by
    have h1 := Enc.dle x.1
    have h2 := Enc.dle x.2
    rw [PyData.depth, PyData.depthAll, PyData.depthAll, PyData.depthAll]
    omega,
  fun x y => by
    rw [PyData.eqv, PyData.eqvAll, PyData.eqvAll, PyData.eqvAll, Enc.eqv, Enc.eqv]
    obtain ⟨a, b⟩ := x
    obtain ⟨c, d⟩ := y
    by_cases h : a = c <;> by_cases h' : b = d <;> simp [h, h']⟩
theorem shapedE {α : Type} [DecidableEq α] [Enc α] (hd : Enc.dep α ≤ 64) (x : α) : SeqAt.shaped (enc x) = true := by
  have h := Enc.dle x
  show ((enc x).canLay0 && decide ((enc x).depth ≤ 64)) = true
  rw [Bool.and_eq_true]
  exact ⟨Enc.lay x, decide_eq_true (by omega)⟩
theorem Same.sqT {K : PySem.W.Frag} {H H' : Hp} {a : Addr} {xs : List V} (e : Same H H') (h : SqT K H a xs) : SqT K H' a xs := by
  rcases h with (z | ⟨u, z⟩) | z
  · exact .inl (.inl (e _ _ z))
  · exact .inl (.inr ⟨u, e _ _ z⟩)
  · exact .inr z
mutual
theorem Dp.same {K : PySem.W.Frag} {H H' : Hp} (s : Same H H') : ∀ (d : PyData) (v : V), Dp K H v d → Dp K H' v d
  | .none, _, h => by cases h; exact .non
  | .bool b, _, h => by cases h; exact .bl b
  | .int i, _, h => by cases h; exact .int i
  | .str x, _, h => by cases h; exact .str x
  | .list ds, _, h => by
    cases h with
    | lst a b => exact .lst (s.seq a) (DpAll.same s ds _ b)
  | .tuple ds, _, h => by
    cases h with
    | tup a b => exact .tup (Same.sqT s a) (DpAll.same s ds _ b)
  | .dict _, _, h => by cases h
theorem DpAll.same {K : PySem.W.Frag} {H H' : Hp} (s : Same H H') : ∀ (ds : List PyData) (vs : List V), DpAll K H vs ds → DpAll K H' vs ds
  | [], _, h => by cases h; exact .nil
  | d :: ds, _, h => by
    cases h with
    | cons a b => exact .cons (Dp.same s d _ a) (DpAll.same s ds _ b)
end
/-- the value v is the datum x -/
def Is {α : Type} [DecidableEq α] [Enc α] (K : PySem.W.Frag) (H : Hp) (v : V) (x : α) : Prop := Dp K H v (enc x)
section
variable {K : PySem.W.Frag} {H H' : Hp} {Q : VK}
theorem Is.same {α : Type} [DecidableEq α] [Enc α] {v : V} {x : α} (h : Is K H v x) (s : Same H H') : Is K H' v x := Dp.same s _ _ h
theorem is_int {i : Int} : Is K H (.int i) i := .int i
theorem is_bl {i : Bool} : Is K H (.bl i) i := .bl i
theorem dpAll_ints : ∀ ns : List Int, DpAll K H (ns.map V.int) (ns.map enc)
  | [] => .nil
  | n :: ns => .cons (.int n) (dpAll_ints ns)
theorem is_ints {a : Addr} {ns : List Int} (h : SqL K H a (ns.map V.int)) : Is K H (.ref a) ns := .lst h (dpAll_ints ns)
theorem is_pair {α β : Type} [DecidableEq α] [DecidableEq β] [Enc α] [Enc β] {a : Addr} {u v : V} {x : α} {y : β} (h : SqT K H a [u, v]) (h1 : Is K H u x) (h2 : Is K H v y) : Is K H (.ref a) (x, y) := .tup h (.cons h1 (.cons h2 .nil))
theorem TL.dp : ∀ {ts : List Addr} {bs : List (Int × Int)}, TL bV H ts bs → DpAll K H (ts.map V.ref) (bs.map enc)
  | [], [], _ => .nil
  | [], _ :: _, h => by have := h.1; simp at this
  | _ :: _, [], h => by have := h.1; simp at this
  | t :: ts, b :: bs, h => by
    obtain ⟨x, e1, e2⟩ := h.2 0 t rfl
    have e1' : b = x := Option.some.inj e1
    subst e1'
    refine .cons (is_pair (SqT.of e2) is_int is_int) (TL.dp ⟨by have := h.1; simpa using this, fun i t' e => ?_⟩)
    obtain ⟨x, e3, e4⟩ := h.2 (i + 1) t' (by simpa using e)
    exact ⟨x, by simpa using e3, e4⟩
theorem LT.is {a : Addr} {bs : List (Int × Int)} (h : LT bV H a bs) : Is K H (.ref a) bs := let ⟨_, e, t⟩ := h; .lst (SqL.of e) t.dp
theorem r_neE {α : Type} [DecidableEq α] [Enc α] {u v : V} {x y : α} (h1 : Is K H u x) (h2 : Is K H v y) (hd : Enc.dep α ≤ 64) (q : Q (.bl (!decide (x = y))) H) : rNeD K u v H Q :=
  ⟨_, _, h1, h2, shapedE hd x, shapedE hd y, by rw [Enc.eqv]; exact q⟩
theorem r_neSame {u v : V} {d : PyData} (h1 : Dp K H u d) (h2 : Dp K H v d) (hs : SeqAt.shaped d = true) (q : Q (.bl false) H) : rNeD K u v H Q :=
  ⟨_, _, h1, h2, hs, hs, by rw [SeqAt.eqv_refl d (SeqAt.canLay_of_shaped hs)]; exact q⟩
theorem r_eqSame {u v : V} {d : PyData} (h1 : Dp K H u d) (h2 : Dp K H v d) (hs : SeqAt.shaped d = true) (q : Q (.bl true) H) : rEqD K u v H Q :=
  ⟨_, _, h1, h2, hs, hs, by rw [SeqAt.eqv_refl d (SeqAt.canLay_of_shaped hs)]; exact q⟩
theorem first_at {β : Type} {x : β} : ∀ {xs : List β}, x ∈ xs → ∃ j : Nat, xs[j]? = some x ∧ ∀ m : Nat, m < j → xs[m]? ≠ some x
  | y :: xs, h => by
    by_cases e : y = x
    · exact ⟨0, by rw [e]; rfl, fun m hm => by omega⟩
    · obtain h | h := List.mem_cons.mp h
      · exact absurd h.symm e
      · obtain ⟨j, h1, h2⟩ := first_at h
        refine ⟨j + 1, by simpa using h1, fun m hm => ?_⟩
        cases m with
        | zero => intro q; exact e (Option.some.inj q)
        | succ m => have := h2 m (by omega); simpa using this
theorem r_indexE {α : Type} [DecidableEq α] [Enc α] {a : Addr} {y : V} {xs : List α} {x : α} (h1 : Is K H (.ref a) xs) (h2 : Is K H y x) (hd : Enc.dep α + 1 ≤ 64) (hm : x ∈ xs) (q : ∀ j : Nat, xs[j]? = some x → Q (.int j) H) : rIndexD K (.ref a) [y] H Q := by
  obtain ⟨j, e1, e2⟩ := first_at hm
  refine ⟨a, y, enc x, xs.map enc, j, enc x, rfl, rfl, h1, h2, shapedE (α := List α) hd xs, shapedE (by omega) x, by rw [List.getElem?_map, e1]; rfl, by rw [Enc.eqv]; simp, fun m z' hm' hz => ?_, q j e1⟩
  rw [List.getElem?_map] at hz
  obtain ⟨u, hu, rfl⟩ := Option.map_eq_some_iff.mp hz
  rw [Enc.eqv]
  exact decide_eq_false fun e => e2 m hm' (by rw [hu, e])
theorem r_eqE {α : Type} [DecidableEq α] [Enc α] {u v : V} {x y : α} (h1 : Is K H u x) (h2 : Is K H v y) (hd : Enc.dep α ≤ 64) (q : Q (.bl (decide (x = y))) H) : rEqD K u v H Q :=
  ⟨_, _, h1, h2, shapedE hd x, shapedE hd y, by rw [Enc.eqv]; exact q⟩
end
/-! ### valid layouts -/
def VL (size : Int) : Int → List (Int × Int) → Prop
  | e, [] => e ≤ size
  | e, (s, l) :: r => e ≤ s ∧ 1 ≤ l ∧ VL size (s + l) r
def endOf : Int → List (Int × Int) → Int
  | e, [] => e
  | _, (s, l) :: r => endOf (s + l) r
theorem VL.snoc {size s l : Int} : ∀ {bs : List (Int × Int)} {e : Int}, VL size e bs → endOf e bs ≤ s → 1 ≤ l → s + l ≤ size → VL size e (bs ++ [(s, l)])
  | [], e, h, h1, h2, h3 => ⟨h1, h2, h3⟩
  | (a, c) :: r, e, h, h1, h2, h3 => ⟨h.1, h.2.1, VL.snoc h.2.2 h1 h2 h3⟩
theorem endOf_snoc {s l : Int} : ∀ (bs : List (Int × Int)) (e : Int), endOf e (bs ++ [(s, l)]) = s + l
  | [], _ => rfl
  | (a, c) :: r, _ => endOf_snoc r (a + c)
theorem VL.end_le {size : Int} : ∀ {bs : List (Int × Int)} {e : Int}, VL size e bs → endOf e bs ≤ size
  | [], _, h => h
  | (s, l) :: r, _, h => VL.end_le (bs := r) (e := s + l) h.2.2
theorem VL.le_size {size : Int} : ∀ {bs : List (Int × Int)} {e : Int}, VL size e bs → e ≤ size
  | [], _, h => h
  | (s, l) :: r, e, h => by
    have := VL.le_size h.2.2
    have := h.1
    have := h.2.1
    omega
theorem VL.mem {size : Int} : ∀ {bs : List (Int × Int)} {e : Int}, VL size e bs → ∀ x ∈ bs, e ≤ x.1 ∧ 1 ≤ x.2 ∧ x.1 + x.2 ≤ size
  | (s, l) :: r, e, h, x, hx => by
    obtain rfl | hx := List.mem_cons.mp hx
    · exact ⟨h.1, h.2.1, h.2.2.le_size⟩
    · have := VL.mem h.2.2 x hx
      have h1 := h.1
      have h2 := h.2.1
      omega
theorem VL.pw {size : Int} : ∀ {bs : List (Int × Int)} {e : Int}, VL size e bs → bs.Pairwise (fun a b => a.1 + a.2 ≤ b.1)
  | [], _, _ => .nil
  | (s, l) :: r, e, h => List.pairwise_cons.mpr ⟨fun x hx => (VL.mem h.2.2 x hx).1, VL.pw h.2.2⟩
/-- the cell's value: one more than the index of its block, or 0 -/
def cellOf (at_ : Int) : Int → List (Int × Int) → Int
  | _, [] => 0
  | k, (s, l) :: r => if s ≤ at_ ∧ at_ < s + l then k + 1 else cellOf at_ (k + 1) r
def Covers (bs : List (Int × Int)) (at_ : Int) : Prop := ∃ x ∈ bs, x.1 ≤ at_ ∧ at_ < x.1 + x.2
theorem cellOf_zero {at_ : Int} : ∀ {bs : List (Int × Int)} {k : Int}, 0 ≤ k → (cellOf at_ k bs = 0 ↔ ¬ Covers bs at_)
  | [], k, _ => by simp [cellOf, Covers]
  | (s, l) :: r, k, hk => by
    unfold cellOf
    by_cases c : s ≤ at_ ∧ at_ < s + l
    · rw [if_pos c]
      constructor
      · intro h; omega
      · intro h; exact absurd ⟨(s, l), List.mem_cons_self, c⟩ h
    · rw [if_neg c, cellOf_zero (bs := r) (by omega)]
      constructor
      · rintro h ⟨x, hx, hc⟩
        obtain rfl | hx := List.mem_cons.mp hx
        · exact c hc
        · exact h ⟨x, hx, hc⟩
      · rintro h ⟨x, hx, hc⟩
        exact h ⟨x, List.mem_cons_of_mem _ hx, hc⟩
theorem cellOf_take {at_ : Int} {size : Int} : ∀ {bs : List (Int × Int)} {e k : Int} {j : Nat} {x : Int × Int}, VL size e bs → bs[j]? = some x → (x.1 ≤ at_ ∧ at_ < x.1 + x.2) → cellOf at_ k bs = k + j + 1
  | (s, l) :: r, e, k, 0, x, h, ex, hc => by
    have e' : (s, l) = x := Option.some.inj ex
    subst e'
    unfold cellOf
    rw [if_pos hc]
    simp
  | (s, l) :: r, e, k, j + 1, x, h, ex, hc => by
    have ex' : r[j]? = some x := by simpa using ex
    have hm := VL.mem h.2.2 x (List.mem_of_getElem? ex')
    unfold cellOf
    rw [if_neg (by omega), cellOf_take h.2.2 ex' hc]
    omega
theorem cellOf_snoc {at_ : Int} {size : Int} : ∀ {bs : List (Int × Int)} {e c : Int} {k : Nat} {x : Int × Int}, VL size e bs → bs[k]? = some x → cellOf at_ c (bs.take (k + 1)) = if x.1 ≤ at_ ∧ at_ < x.1 + x.2 then c + k + 1 else cellOf at_ c (bs.take k)
  | (s, l) :: r, e, c, 0, x, h, ex => by
    have e' : (s, l) = x := Option.some.inj ex
    subst e'
    show cellOf at_ c [(s, l)] = _
    unfold cellOf
    simp only [List.take_zero, cellOf]
    simp
  | (s, l) :: r, e, c, k + 1, x, h, ex => by
    have ex' : r[k]? = some x := by simpa using ex
    have hm := VL.mem h.2.2 x (List.mem_of_getElem? ex')
    have ih := cellOf_snoc (at_ := at_) (c := c + 1) h.2.2 ex'
    rw [List.take_succ_cons, List.take_succ_cons, cellOf, cellOf, ih]
    by_cases q : s ≤ at_ ∧ at_ < s + l
    · rw [if_pos q, if_pos q, if_neg (by omega)]
    · rw [if_neg q, if_neg q]
      by_cases q2 : x.1 ≤ at_ ∧ at_ < x.1 + x.2
      · rw [if_pos q2, if_pos q2]; omega
      · rw [if_neg q2, if_neg q2]
def CellsOf (size : Int) (bs : List (Int × Int)) (cs : List Int) : Prop := (cs.length : Int) = size ∧ ∀ i, i < cs.length → cs[i]? = some (cellOf i 0 bs)
/-! ### maximal rows of zeros -/
def runsTo (c : Nat → Int) : Nat → List (Int × Int)
  | 0 => []
  | i + 1 => if c i = 0 then (if 0 < i ∧ c (i - 1) = 0 then (runsTo c i).dropLast ++ [(((runsTo c i).getLastD (0, 0)).1, ((runsTo c i).getLastD (0, 0)).2 + 1)] else runsTo c i ++ [((i : Int), 1)]) else runsTo c i
theorem runsTo_ne {c : Nat → Int} : ∀ {i : Nat}, 0 < i → c (i - 1) = 0 → runsTo c i ≠ []
  | i + 1, _, h => by
    rw [Nat.add_sub_cancel] at h
    rw [runsTo, if_pos h]
    split <;> simp
theorem runsTo_len {c : Nat → Int} : ∀ i : Nat, (runsTo c i).length ≤ i
  | 0 => Nat.le_refl _
  | i + 1 => by
    have ih := runsTo_len (c := c) i
    rw [runsTo]
    split
    · split
      · rename_i h
        have := runsTo_ne h.1 h.2
        have : 0 < (runsTo c i).length := List.length_pos_iff.mpr this
        simp
        omega
      · simp
        omega
    · omega
def gapsF (size : Int) : Int → List (Int × Int) → List (Int × Int)
  | e, [] => if size > e then [(e, size - e)] else []
  | e, (s, l) :: r => if s > e then (e, s - e) :: gapsF size (s + l) r else gapsF size (s + l) r
theorem runs_free {c : Nat → Int} {e : Nat} {G : List (Int × Int)} (h0 : runsTo c e = G) (hp : e = 0 ∨ c (e - 1) ≠ 0) : ∀ m : Nat, (∀ i, e ≤ i → i < e + m → c i = 0) → runsTo c (e + m) = if 0 < m then G ++ [((e : Int), (m : Int))] else G
  | 0, _ => by simpa using h0
  | m + 1, h => by
    have ih := runs_free h0 hp m (fun i h1 h2 => h i h1 (by omega))
    have hc : c (e + m) = 0 := h _ (by omega) (by omega)
    show runsTo c ((e + m) + 1) = _
    rw [runsTo, if_pos hc, ih]
    by_cases hm : 0 < m
    · have h1 : c (e + m - 1) = 0 := h _ (by omega) (by omega)
      rw [if_pos ⟨by omega, h1⟩, if_pos hm, if_pos (Nat.succ_pos _)]
      simp
    · have hm0 : m = 0 := by omega
      subst hm0
      rw [if_neg hm, if_pos (Nat.succ_pos _), if_neg (by
        rintro ⟨h1, h2⟩
        rcases hp with h3 | h3
        · omega
        · exact h3 h2)]
      simp
theorem runs_used {c : Nat → Int} {s : Nat} : ∀ m : Nat, (∀ i, s ≤ i → i < s + m → c i ≠ 0) → runsTo c (s + m) = runsTo c s
  | 0, _ => rfl
  | m + 1, h => by
    show runsTo c ((s + m) + 1) = _
    rw [runsTo, if_neg (h _ (by omega) (by omega))]
    exact runs_used m (fun i h1 h2 => h i h1 (by omega))
theorem runs_gaps {c : Nat → Int} {n : Nat} : ∀ {bs : List (Int × Int)} {e : Nat} {G : List (Int × Int)}, VL n e bs → (∀ i : Nat, e ≤ i → i < n → (c i = 0 ↔ ¬ Covers bs i)) → runsTo c e = G → (e = 0 ∨ c (e - 1) ≠ 0) → runsTo c n = G ++ gapsF n e bs
  | [], e, G, h, hc, h0, hp => by
    have h' : e ≤ n := by have : (e : Int) ≤ n := h; omega
    obtain ⟨m, rfl⟩ : ∃ m, n = e + m := ⟨n - e, by omega⟩
    rw [runs_free h0 hp m (fun i h1 h2 => (hc i h1 h2).mpr (by simp [Covers])), gapsF]
    by_cases hm : 0 < m
    · rw [if_pos hm, if_pos (by omega)]
      congr 3
      omega
    · rw [if_neg hm, if_neg (by omega)]
      simp
  | (s, l) :: r, e, G, h, hc, h0, hp => by
    obtain ⟨h1, h2, h3⟩ := h
    have h4 := h3.le_size
    obtain ⟨s', rfl⟩ : ∃ s' : Nat, s = s' := ⟨s.toNat, by omega⟩
    obtain ⟨l', rfl⟩ : ∃ l' : Nat, l = l' := ⟨l.toNat, by omega⟩
    obtain ⟨m, rfl⟩ : ∃ m, s' = e + m := ⟨s' - e, by omega⟩
    have nc : ∀ i : Nat, i < e + m → ¬ Covers ((((e + m : Nat) : Int), (l' : Int)) :: r) i := by
      rintro i hi ⟨x, hx, hcx⟩
      obtain rfl | hx := List.mem_cons.mp hx
      · simp only at hcx; omega
      · have := VL.mem h3 x hx
        omega
    have a1 := runs_free h0 hp m (fun i q1 q2 => (hc i q1 (by omega)).mpr (nc i q2))
    have a2 := runs_used (c := c) (s := e + m) l' (fun i q1 q2 q3 => (hc i (by omega) (by omega)).mp q3 ⟨_, List.mem_cons_self, by simp only; omega⟩)
    rw [a1] at a2
    have a3 := runs_gaps (c := c) (n := n) (bs := r) (e := e + m + l') (by rw [Int.natCast_add]; exact h3) (fun i q1 q2 => by
      rw [hc i (by omega) q2]
      constructor
      · rintro q3 ⟨x, hx, hcx⟩
        exact q3 ⟨x, List.mem_cons_of_mem _ hx, hcx⟩
      · rintro q3 ⟨x, hx, hcx⟩
        obtain rfl | hx := List.mem_cons.mp hx
        · simp only at hcx; omega
        · exact q3 ⟨x, hx, hcx⟩) a2 (.inr (fun q => (hc (e + m + l' - 1) (by omega) (by omega)).mp q ⟨_, List.mem_cons_self, by simp only; omega⟩))
    rw [a3, gapsF, Int.natCast_add (e + m) l']
    by_cases hm : 0 < m
    · rw [if_pos hm, if_pos (by omega)]
      simp
      omega
    · rw [if_neg hm, if_neg (by omega)]
/-! ### max(xs, default=d) -/
def rMaxD (K : PySem.W.Frag) : List V → List V → Hp → VK → Prop := fun vs zs H Q => ∃ (a : Addr) (ns : List Int) (d : Int), vs = [V.ref a] ∧ zs = [V.int d] ∧ SqL K H a (ns.map V.int) ∧
  Q (.int (match ns with | [] => d | n :: r => r.foldl max n)) H
theorem alike_ints (ns : List Int) : PySem.W.AlikeAll (ns.map PyData.int) := by
  refine ⟨fun x hx y hy => ?_, fun x hx => ?_⟩
  · obtain ⟨i, _, rfl⟩ := List.mem_map.mp hx
    obtain ⟨j, _, rfl⟩ := List.mem_map.mp hy
    rfl
  · obtain ⟨i, _, rfl⟩ := List.mem_map.mp hx
    intro h
    cases h
theorem cr_maxD {X : Cx} {k : Nat} (hc : X.calm = true) (hr : Room k X.A) : CallRK X (.builtin "max") [Str.ofString "default"] (rMaxD X.K) := by
  rintro pins s σ H vs zs us ws Q I r rz ⟨a, ns, d, rfl, rfl, hs, q⟩
  obtain rfl := Vals.ref1 r
  obtain ⟨w1, rfl, td, rfl⟩ := vals1 rz
  rcases I.list hs with ⟨its, rv, hl, -⟩
  obtain ⟨as, hra⟩ := Dp.readsAll I (ns.map PyData.int) _ its (dpAll_ints ns) rv
  have hu := hr.units
  refine PySem.W.max_list_default (I.ok.hd hc) hl.isList hra (alike_ints ns) (by rw [PySem.W.ke_depthAll]; omega) (fun e h' tk hk => ?_) (fun y ys i v h' tk bs e hv hrd hk => ?_)
  · cases ns with
    | nil => exact ⟨.int d, H, I.kept hk, ⟨_, rfl⟩, q⟩
    | cons n r => cases e
  · cases ns with
    | nil => cases e
    | cons n r =>
      rw [List.map_cons] at e
      injection e with e1 e2
      subst e1 e2
      rw [PySem.W.maxD_ints] at hrd
      cases hrd with
      | int i t => exact ⟨.int _, H, I.kept hk, ⟨_, rfl⟩, q⟩
/-! ### slices -/
theorem cut_take {xs : List V} {i : Nat} (h : i ≤ xs.length) : cutV xs none (some (i : Int)) = xs.take i := by
  unfold cutV
  rw [HT.sIx_none, HT.sIx_nat, List.drop_zero, Nat.sub_zero, Nat.min_eq_left h]
theorem cut_drop {xs : List V} {i : Nat} (h : i ≤ xs.length) : cutV xs (some (i : Int)) none = xs.drop i := by
  unfold cutV
  rw [HT.sIx_none, HT.sIx_nat, Nat.min_eq_left h, List.take_of_length_le]
  rw [List.length_drop]
  exact Nat.le_refl _
theorem TL.take {α : Type} {f : α → List V} {H : Hp} {ts : List Addr} {xs : List α} (h : TL f H ts xs) (n : Nat) : TL f H (ts.take n) (xs.take n) := by
  refine ⟨by rw [List.length_take, List.length_take, h.1], fun i t e => ?_⟩
  rw [List.getElem?_take] at e
  split at e
  · rename_i hi
    obtain ⟨x, e1, e2⟩ := h.2 i t e
    exact ⟨x, by rw [List.getElem?_take, if_pos hi]; exact e1, e2⟩
  · cases e
theorem TL.drop {α : Type} {f : α → List V} {H : Hp} {ts : List Addr} {xs : List α} (h : TL f H ts xs) (n : Nat) : TL f H (ts.drop n) (xs.drop n) := by
  refine ⟨by rw [List.length_drop, List.length_drop, h.1], fun i t e => ?_⟩
  rw [List.getElem?_drop] at e ⊢
  exact h.2 _ t e
theorem TL.append {α : Type} {f : α → List V} {H : Hp} {ts us : List Addr} {xs ys : List α} (h : TL f H ts xs) (h' : TL f H us ys) : TL f H (ts ++ us) (xs ++ ys) := by
  refine ⟨by rw [List.length_append, List.length_append, h.1, h'.1], fun i t e => ?_⟩
  by_cases hi : i < ts.length
  · rw [List.getElem?_append_left hi] at e
    obtain ⟨x, e1, e2⟩ := h.2 i t e
    exact ⟨x, by rw [List.getElem?_append_left (by rw [← h.1]; exact hi)]; exact e1, e2⟩
  · rw [List.getElem?_append_right (by omega)] at e
    obtain ⟨x, e1, e2⟩ := h'.2 _ t e
    exact ⟨x, by rw [List.getElem?_append_right (by rw [← h.1]; omega), ← h.1]; exact e1, e2⟩
/-! ### lists of ints that rise -/
theorem inc_ext : ∀ {l m : List Int}, l.Pairwise (· < ·) → m.Pairwise (· < ·) → (∀ x, x ∈ l ↔ x ∈ m) → l = m
  | [], [], _, _, _ => rfl
  | [], y :: m, _, _, h => absurd ((h y).mpr List.mem_cons_self) (by simp)
  | x :: l, [], _, _, h => absurd ((h x).mp List.mem_cons_self) (by simp)
  | .cons x l, .cons y m, hl, hm, h => by
    obtain ⟨l1, l2⟩ := List.pairwise_cons.mp hl
    obtain ⟨m1, m2⟩ := List.pairwise_cons.mp hm
    have e : x = y := by
      have a1 := (h x).mp List.mem_cons_self
      have a2 := (h y).mpr List.mem_cons_self
      obtain a1 | a1 := List.mem_cons.mp a1
      · exact a1
      · obtain a2 | a2 := List.mem_cons.mp a2
        · exact a2.symm
        · have := m1 x a1
          have := l1 y a2
          omega
    subst e
    rw [inc_ext l2 m2 fun z => ?_]
    constructor
    · intro hz
      rcases List.mem_cons.mp ((h z).mp (List.mem_cons_of_mem _ hz)) with e | q
      · have := l1 z hz
        omega
      · exact q
    · intro hz
      rcases List.mem_cons.mp ((h z).mpr (List.mem_cons_of_mem _ hz)) with e | q
      · have := m1 z hz
        omega
      · exact q
/-- the same in the order of pairs -/
def LexLe (a b : Int × Int) : Prop := a.1 < b.1 ∨ (a.1 = b.1 ∧ a.2 ≤ b.2)
theorem lex_uniq {l m : List (Int × Int)} (hl : l.Pairwise LexLe) (hm : m.Pairwise LexLe) (h : l.Perm m) : l = m := by
  refine List.Perm.eq_of_pairwise (le := LexLe) (fun a b _ _ h1 h2 => ?_) hl hm h
  unfold LexLe at h1 h2
  obtain ⟨a1, a2⟩ := a
  obtain ⟨b1, b2⟩ := b
  simp only at h1 h2
  rw [Prod.mk.injEq]
  omega
theorem VL.lex {size e : Int} {bs : List (Int × Int)} (h : VL size e bs) : bs.Pairwise LexLe := by
  have hm := h.mem
  refine (List.Pairwise.and_mem.mp h.pw).imp fun {a b} q => ?_
  have := hm a q.1
  unfold LexLe
  omega
end Pf

namespace Pf
open PySem L2
/-! ### programs as functions: what a def's model says, its run over the heap does -/
/-- addresses of objects that may still change -/
abbrev Ms := List Addr
/-- what stands frozen (outside ms) in H stands frozen (outside ms') in H' -/
def Mv (ms : Ms) (H : Hp) (ms' : Ms) (H' : Hp) : Prop := ∀ a o, a ∉ ms → H a = some o → a ∉ ms' ∧ H' a = some o
/-- all but what stands at B is as it was, and what was there is there -/
def Bu (B : Ms) (H H' : Hp) : Prop := (∀ a o, a ∉ B → H a = some o → H' a = some o) ∧ ∀ a, H a ≠ none → H' a ≠ none
/-- these addresses are taken -/
def Al (ms : Ms) (H : Hp) : Prop := ∀ a ∈ ms, H a ≠ none
section
variable {B ms ms' ms'' : Ms} {H H' H'' : Hp} {p m : Addr} {o : HO}
theorem Bu.refl (B : Ms) (H : Hp) : Bu B H H := ⟨fun _ _ _ e => e, fun _ e => e⟩
theorem Bu.trans (x : Bu B H H') (y : Bu B H' H'') : Bu B H H'' := ⟨fun a o n e => y.1 a o n (x.1 a o n e), fun a e => y.2 a (x.2 a e)⟩
theorem Bu.same (s : Same H H') : Bu B H H' := ⟨fun a o _ e => s a o e, fun a e => by
  cases h : H a with
  | none => exact absurd h e
  | some o => rw [s a o h]; exact fun z => by cases z⟩
theorem Bu.to_same (x : Bu [] H H') : Same H H' := fun a o e => x.1 a o (by simp) e
theorem Mv.refl : Mv ms H ms H := fun _ _ n e => ⟨n, e⟩
theorem Mv.trans (x : Mv ms H ms' H') (y : Mv ms' H' ms'' H'') : Mv ms H ms'' H'' := fun a o n e => let ⟨n1, e1⟩ := x a o n e; y a o n1 e1
theorem Mv.same (s : Same H H') : Mv ms H ms H' := fun a o n e => ⟨n, s a o e⟩
theorem Mv.bu (hB : ∀ a ∈ B, a ∈ ms) (x : Bu B H H') : Mv ms H ms H' := fun a o n e => ⟨n, x.1 a o (fun z => n (hB a z)) e⟩
theorem Mv.but (hm : m ∈ ms) (s : But m H H') : Mv ms H ms H' := fun a o n e => ⟨n, s a o (fun z => n (z ▸ hm)) e⟩
theorem Mv.new (np : H p = none) (s : Same H H') : Mv ms H (p :: ms) H' := fun a o n e => ⟨fun z => by
  obtain z | z := List.mem_cons.mp z
  · rw [z, np] at e; cases e
  · exact n z, s a o e⟩
theorem Mv.less (h : ∀ a ∈ ms', a ∈ ms) : Mv ms H ms' H := fun a o n e => ⟨fun z => n (h a z), e⟩
theorem Al.bu (h : Al ms H) (x : Bu B H H') : Al ms H' := fun a m => x.2 a (h a m)
theorem Al.same (h : Al ms H) (s : Same H H') : Al ms H' := h.bu (B := []) (Bu.same s)
theorem Al.not (h : Al ms H) (np : H p = none) : p ∉ ms := fun m => h p m np
theorem Al.but (h : Al ms H) (s : But m H H') (e : H' m = some o) : Al ms H' := fun a ha => by
  by_cases q : a = m
  · rw [q, e]; exact fun z => by cases z
  · cases h' : H a with
    | none => exact absurd h' (h a ha)
    | some o' => rw [s a o' q h']; exact fun z => by cases z
theorem Al.cons (h : Al ms H) (e : H p = some o) : Al (p :: ms) H := fun a ha => by
  obtain z | z := List.mem_cons.mp ha
  · rw [z, e]; exact fun z => by cases z
  · exact h a z
theorem Al.less (h : Al ms H) (l : ∀ a ∈ ms', a ∈ ms) : Al ms' H := fun a ha => h a (l a ha)
/-- a list of one's own, changed: seen from the entry nothing has changed -/
theorem Bu.own (x : Bu B H H') (n : H p = none) (s : But p H' H'') (e : H'' p = some o) : Bu B H H'' := ⟨fun a o na ea => s a o (fun z => by rw [z, n] at ea; cases ea) (x.1 a o na ea), fun a ea => by
  by_cases q : a = p
  · rw [q] at ea; exact absurd n ea
  · have := x.2 a ea
    cases h' : H' a with
    | none => exact absurd h' this
    | some o' => rw [s a o' q h']; exact fun z => by cases z⟩
theorem Bu.none (x : Bu B H H') (n : H' p = Option.none) : H p = Option.none := by
  cases h : H p with
  | none => rfl
  | some o => exact absurd n (x.2 p (by rw [h]; exact fun z => by cases z))
end
theorem notc {a m : Addr} {B : Ms} (n : a ∉ m :: B) : a ≠ m ∧ a ∉ B := ⟨fun z => n (z ▸ List.mem_cons_self), fun z => n (List.mem_cons_of_mem _ z)⟩
theorem nin {a m : Addr} {B : Ms} (h : a ≠ m) (n : a ∉ B) : a ∉ m :: B := fun z => by
  obtain z | z := List.mem_cons.mp z
  · exact h z
  · exact n z
theorem nab {a D : Addr} {B : Ms} (h : a ∈ B) (n : D ∉ B) : a ≠ D := fun z => n (z ▸ h)
/-- how a value stands for a datum -/
class Rp (α : Type) where
  rp : Ms → Hp → V → α → Prop
  mv : ∀ {ms ms' : Ms} {H H' : Hp} {v : V} {x : α}, rp ms H v x → Mv ms H ms' H' → rp ms' H' v x
open Rp (rp)
/-- item by item -/
def RL {α : Type} (r : V → α → Prop) : List V → List α → Prop
  | [], [] => True
  | v :: vs, x :: xs => r v x ∧ RL r vs xs
  | _, _ => False
theorem RL.imp {α : Type} {r r' : V → α → Prop} (h : ∀ v x, r v x → r' v x) : ∀ {vs : List V} {xs : List α}, RL r vs xs → RL r' vs xs
  | [], [], _ => trivial
  | _ :: _, _ :: _, ⟨a, b⟩ => ⟨h _ _ a, RL.imp h b⟩
theorem RL.len {α : Type} {r : V → α → Prop} : ∀ {vs : List V} {xs : List α}, RL r vs xs → vs.length = xs.length
  | [], [], _ => rfl
  | _ :: _, _ :: _, ⟨_, b⟩ => by rw [List.length_cons, List.length_cons, RL.len b]
theorem RL.get {α : Type} {r : V → α → Prop} : ∀ {vs : List V} {xs : List α} {i : Nat} {v : V}, RL r vs xs → vs[i]? = some v → ∃ x, xs[i]? = some x ∧ r v x
  | [], _us, _, _, _, e => by simp at e
  | _ :: _, _ :: _, 0, _, ⟨a, _⟩, e => ⟨_, rfl, by cases e; exact a⟩
  | _ :: _, _ :: _, i + 1, _, ⟨_, b⟩, e => by
    obtain ⟨x, e1, e2⟩ := RL.get b (i := i) (by simpa using e)
    exact ⟨x, by simpa using e1, e2⟩
theorem RL.get' {α : Type} {r : V → α → Prop} : ∀ {vs : List V} {xs : List α} {i : Nat} {x : α}, RL r vs xs → xs[i]? = some x → ∃ v, vs[i]? = some v ∧ r v x
  | _us, [], _, _, _, e => by simp at e
  | _ :: _, _ :: _, 0, _, ⟨a, _⟩, e => ⟨_, rfl, by cases e; exact a⟩
  | _ :: _, _ :: _, i + 1, _, ⟨_, b⟩, e => by
    obtain ⟨x, e1, e2⟩ := RL.get' b (i := i) (by simpa using e)
    exact ⟨x, by simpa using e1, e2⟩
theorem RL.app {α : Type} {r : V → α → Prop} : ∀ {vs : List V} {xs : List α} {us : List V} {ys : List α}, RL r vs xs → RL r us ys → RL r (vs ++ us) (xs ++ ys)
  | [], [], _, _, _, h => h
  | _ :: _, _ :: _, _, _, ⟨a, b⟩, h => ⟨a, RL.app b h⟩
theorem RL.snoc {α : Type} {r : V → α → Prop} {vs : List V} {xs : List α} {v : V} {x : α} (h : RL r vs xs) (e : r v x) : RL r (vs ++ [v]) (xs ++ [x]) := h.app ⟨e, trivial⟩
theorem RL.set {α : Type} {r : V → α → Prop} : ∀ {vs : List V} {xs : List α} {i : Nat} {v : V} {x : α}, RL r vs xs → r v x → RL r (vs.set i v) (xs.set i x)
  | [], [], _, _, _, _, _ => trivial
  | _ :: _, _ :: _, 0, _, _, ⟨_, b⟩, e => ⟨e, b⟩
  | _ :: _, _ :: _, i + 1, _, _, ⟨a, b⟩, e => ⟨a, RL.set b e⟩
theorem RL.erase {α : Type} {r : V → α → Prop} : ∀ {vs : List V} {xs : List α} {i : Nat}, RL r vs xs → RL r (vs.eraseIdx i) (xs.eraseIdx i)
  | [], [], _, _ => trivial
  | _ :: _, _ :: _, 0, ⟨_, b⟩ => b
  | _ :: _, _ :: _, i + 1, ⟨a, b⟩ => ⟨a, RL.erase b⟩
theorem RL.take {α : Type} {r : V → α → Prop} : ∀ {vs : List V} {xs : List α} {i : Nat}, RL r vs xs → RL r (vs.take i) (xs.take i)
  | _, _, 0, _ => by rw [List.take_zero, List.take_zero]; trivial
  | [], [], _ + 1, _ => trivial
  | _ :: _, _ :: _, i + 1, ⟨a, b⟩ => ⟨a, RL.take b⟩
theorem RL.drop {α : Type} {r : V → α → Prop} : ∀ {vs : List V} {xs : List α} {i : Nat}, RL r vs xs → RL r (vs.drop i) (xs.drop i)
  | _, _, 0, h => h
  | [], [], _ + 1, _ => trivial
  | v :: vs, x :: xs, i + 1, h => by
    show RL r (vs.drop i) (xs.drop i)
    exact RL.drop h.2
theorem RL.ints {r : V → Int → Prop} (h : ∀ v x, r v x → v = .int x) : ∀ {vs : List V} {xs : List Int}, RL r vs xs → vs = xs.map V.int
  | [], [], _ => rfl
  | _ :: _, _ :: _, ⟨a, b⟩ => by rw [h _ _ a, RL.ints h b]; rfl
theorem RL.bools {r : V → Bool → Prop} (h : ∀ v x, r v x → v = .bl x) : ∀ {vs : List V} {xs : List Bool}, RL r vs xs → vs = xs.map V.bl
  | [], [], _ => rfl
  | _ :: _, _ :: _, ⟨a, b⟩ => by rw [h _ _ a, RL.bools h b]; rfl
theorem RL.of_map {β : Type} {r : V → β → Prop} {f : β → V} (h : ∀ x, r (f x) x) : ∀ xs : List β, RL r (xs.map f) xs
  | [] => trivial
  | x :: xs => ⟨h x, RL.of_map h xs⟩
instance : Rp Int := ⟨fun _ _ v x => v = .int x, fun h _ => h⟩
instance : Rp Bool := ⟨fun _ _ v x => v = .bl x, fun h _ => h⟩
instance : Rp Str := ⟨fun _ _ v x => v = .str x, fun h _ => h⟩
instance : Rp Unit := ⟨fun _ _ v _ => v = .non, fun h _ => h⟩
instance {α : Type} [Rp α] : Rp (Option α) := ⟨fun ms H v x => match x with | none => v = .non | some y => rp ms H v y, fun {ms ms' H H' v x} h M => by
  cases x with
  | none => exact h
  | some y => exact Rp.mv h M⟩
/-- a list stands at a -/
def Ls {α : Type} [Rp α] (ms : Ms) (H : Hp) (a : Addr) (xs : List α) : Prop := ∃ vs, H a = some (.lst vs) ∧ RL (rp ms H) vs xs ∧ vs.length ≤ sizeLine
theorem Ls.step {α : Type} [Rp α] {ms ms' : Ms} {H H' : Hp} {a : Addr} {xs : List α} (h : Ls ms H a xs) (M : Mv ms H ms' H') (e : ∀ o, H a = some o → H' a = some o) : Ls ms' H' a xs :=
  let ⟨vs, e1, r, l⟩ := h; ⟨vs, e _ e1, r.imp fun _ _ z => Rp.mv z M, l⟩
theorem Ls.same {α : Type} [Rp α] {ms : Ms} {H H' : Hp} {a : Addr} {xs : List α} (h : Ls ms H a xs) (s : Same H H') : Ls ms H' a xs := h.step (Mv.same s) fun o e => s a o e
theorem Ls.but {α : Type} [Rp α] {ms : Ms} {H H' : Hp} {a m : Addr} {xs : List α} (h : Ls ms H a xs) (hm : m ∈ ms) (n : a ≠ m) (s : But m H H') : Ls ms H' a xs := h.step (Mv.but hm s) fun o e => s a o n e
theorem Ls.bu {α : Type} [Rp α] {B ms : Ms} {H H' : Hp} {a : Addr} {xs : List α} (h : Ls ms H a xs) (hB : ∀ a ∈ B, a ∈ ms) (n : a ∉ B) (s : Bu B H H') : Ls ms H' a xs := h.step (Mv.bu hB s) fun o e => s.1 a o n e
theorem Ls.new {α : Type} [Rp α] {ms : Ms} {H H' : Hp} {a p : Addr} {xs : List α} (h : Ls ms H a xs) (np : H p = none) (s : Same H H') : Ls (p :: ms) H' a xs := h.step (Mv.new np s) fun o e => s a o e
theorem Ls.less {α : Type} [Rp α] {ms ms' : Ms} {H : Hp} {a : Addr} {xs : List α} (h : Ls ms H a xs) (l : ∀ a ∈ ms', a ∈ ms) : Ls ms' H a xs := h.step (Mv.less l) fun o e => e
theorem Ls.len {α : Type} [Rp α] {ms : Ms} {H : Hp} {a : Addr} {xs : List α} (h : Ls ms H a xs) : xs.length ≤ sizeLine := by obtain ⟨vs, _, r, l⟩ := h; rw [← r.len]; exact l
theorem Ls.alive {α : Type} [Rp α] {ms : Ms} {H : Hp} {a : Addr} {xs : List α} (h : Ls ms H a xs) : H a ≠ none := by obtain ⟨vs, e, _⟩ := h; rw [e]; exact fun z => by cases z
theorem Ls.ne {α : Type} [Rp α] {ms : Ms} {H : Hp} {a p : Addr} {xs : List α} (h : Ls ms H a xs) (np : H p = none) : a ≠ p := fun z => h.alive (z ▸ np)
instance instRpList {α : Type} [Rp α] : Rp (List α) := ⟨fun ms H v xs => ∃ a, v = .ref a ∧ a ∉ ms ∧ Ls ms H a xs, fun {ms ms' H H' v x} h M => by
  obtain ⟨a, rfl, n, vs, e, r, l⟩ := h
  obtain ⟨n', e'⟩ := M a _ n e
  exact ⟨a, rfl, n', vs, e', r.imp fun _ _ z => Rp.mv z M, l⟩⟩
instance instRpProd {α β : Type} [Rp α] [Rp β] : Rp (α × β) := ⟨fun ms H v x => ∃ a u w, v = .ref a ∧ a ∉ ms ∧ H a = some (.tup [u, w]) ∧ rp ms H u x.1 ∧ rp ms H w x.2, fun {ms ms' H H' v x} h M => by
  obtain ⟨a, u, w, rfl, n, e, r1, r2⟩ := h
  obtain ⟨n', e'⟩ := M a _ n e
  exact ⟨a, u, w, rfl, n', e', Rp.mv r1 M, Rp.mv r2 M⟩⟩
/-- a tuple of three -/
structure T3 (α β γ : Type) : Type where
  a : α
  b : β
  c : γ
deriving DecidableEq
instance instRpT3 {α β γ : Type} [Rp α] [Rp β] [Rp γ] : Rp (T3 α β γ) := ⟨fun ms H v x => ∃ a u w y, v = .ref a ∧ a ∉ ms ∧ H a = some (.tup [u, w, y]) ∧ rp ms H u x.a ∧ rp ms H w x.b ∧ rp ms H y x.c, fun {ms ms' H H' v x} h M => by
  obtain ⟨a, u, w, y, rfl, n, e, r1, r2, r3⟩ := h
  obtain ⟨n', e'⟩ := M a _ n e
  exact ⟨a, u, w, y, rfl, n', e', Rp.mv r1 M, Rp.mv r2 M, Rp.mv r3 M⟩⟩
/-- a list of two unlike items -/
structure L2P (α β : Type) : Type where
  a : α
  b : β
deriving DecidableEq
instance instRpL2P {α β : Type} [Rp α] [Rp β] : Rp (L2P α β) := ⟨fun ms H v x => ∃ a u w, v = .ref a ∧ a ∉ ms ∧ H a = some (.lst [u, w]) ∧ rp ms H u x.a ∧ rp ms H w x.b, fun {ms ms' H H' v x} h M => by
  obtain ⟨a, u, w, rfl, n, e, r1, r2⟩ := h
  obtain ⟨n', e'⟩ := M a _ n e
  exact ⟨a, u, w, rfl, n', e', Rp.mv r1 M, Rp.mv r2 M⟩⟩
/-- the arguments of a def -/
class RpA (ι : Type) where
  ra : Ms → Hp → List V → ι → Prop
  mv : ∀ {ms ms' : Ms} {H H' : Hp} {vs : List V} {x : ι}, ra ms H vs x → Mv ms H ms' H' → ra ms' H' vs x
open RpA (ra)
instance instRpANil : RpA Unit := ⟨fun _ _ vs _ => vs = [], fun h _ => h⟩
instance instRpACons {α ι : Type} [Rp α] [RpA ι] : RpA (α × ι) := ⟨fun ms H vs x => ∃ v us, vs = v :: us ∧ rp ms H v x.1 ∧ ra ms H us x.2, fun {ms ms' H H' v x} h M => by
  obtain ⟨v, us, rfl, r1, r2⟩ := h
  exact ⟨v, us, rfl, Rp.mv r1 M, RpA.mv r2 M⟩⟩
/-! ### the model's words -/
def bnd {α β : Type} (x : α) (k : α → Option β) : Option β := k x
theorem bnd_inv {α β : Type} {x : α} {k : α → Option β} {r : β} (h : bnd x k = some r) : ∃ y, y = x ∧ k y = some r := ⟨_, rfl, h⟩
theorem bind_inv {α β : Type} {x : Option α} {k : α → Option β} {r : β} (h : x.bind k = some r) : ∃ y, x = some y ∧ k y = some r := by
  cases x with
  | none => cases h
  | some y => exact ⟨y, rfl, h⟩
/-- a turn: on, or out with an answer -/
inductive Fl (ρ s : Type) where
  | ret (r : ρ)
  | go (x : s)
def fold {α s : Type} (f : α → s → Option s) : List α → s → Option s
  | [], x => some x
  | a :: as, x => (f a x).bind fun y => fold f as y
def loop {α s ρ : Type} (f : α → s → Option (Fl ρ s)) : List α → s → Option (Fl ρ s)
  | [], x => some (.go x)
  | a :: as, x => (f a x).bind fun y => match y with | .ret r => some (.ret r) | .go z => loop f as z
/-- a comprehension: what is kept, in order -/
def coll {α β s : Type} (f : α → s → Option (Option β × s)) : List α → s → Option (List β × s)
  | [], x => some ([], x)
  | a :: as, x => (f a x).bind fun y => (coll f as y.2).bind fun z => some (y.1.toList ++ z.1, z.2)
/-- a comprehension that draws nothing -/
def colP {α β : Type} (f : α → Option (Option β)) : List α → Option (List β)
  | [] => some []
  | a :: as => (f a).bind fun y => (colP f as).bind fun z => some (y.toList ++ z)
def appF {α : Type} (xs : List α) (x : α) : Option (List α) := if xs.length < sizeLine then some (xs ++ [x]) else none
def catF {α : Type} (xs ys : List α) : Option (List α) := if xs.length + ys.length ≤ sizeLine then some (xs ++ ys) else none
def rngL (lo : Int) (n : Nat) : List Int := (List.range n).map fun i : Nat => lo + (i : Int)
def rng2 (lo hi : Int) : Option (List Int) := if -(2 ^ 62) ≤ lo ∧ lo < 2 ^ 62 ∧ -(2 ^ 62) ≤ hi ∧ hi < 2 ^ 62 ∧ (hi - lo).toNat ≤ sizeLine then some (rngL lo (hi - lo).toNat) else none
def rng1 (hi : Int) : Option (List Int) := if -(2 ^ 62) ≤ hi ∧ hi < 2 ^ 62 ∧ hi.toNat ≤ sizeLine then some (rngL 0 hi.toNat) else none
def enumL {α : Type} (xs : List α) : List (Int × α) := xs.mapIdx fun i x => ((i : Int), x)
def setF {α : Type} (xs : List α) (i : Int) (x : α) : Option (List α) := (ixN xs.length i).bind fun j => some (xs.set j x)
/-! ### the judgement: an expression gives x; B may change, from p to q -/
structure Wd (B ms : Ms) (H : Hp) : Prop where
  hB : ∀ a ∈ B, a ∈ ms
  al : Al ms H
theorem Wd.bu {B ms : Ms} {H H' : Hp} (W : Wd B ms H) (x : Bu B H H') : Wd B ms H' := ⟨W.hB, W.al.bu x⟩
theorem Wd.mv {B ms : Ms} {H H' : Hp} (W : Wd B ms H) (x : Bu B H H') : Mv ms H ms H' := Mv.bu W.hB x
abbrev Hq := Ms → Hp → Prop
def Ex {α : Type} [Rp α] (B ms : Ms) (te : TE) (σ : St) (H0 : Hp) (p : Hq) (x : α) (q : Hq) : Prop :=
  ∀ H, Bu B H0 H → p ms H → ∀ Q : VK, (∀ v H', Bu B H H' → q ms H' → rp ms H' v x → Q v H') → te σ H Q
/-- a list that is made -/
def En {α : Type} [Rp α] (B ms : Ms) (te : TE) (σ : St) (H0 : Hp) (p : Hq) (xs : List α) (q : Hq) : Prop :=
  ∀ H, Bu B H0 H → p ms H → ∀ Q : VK, (∀ a H', Bu B H H' → q (a :: ms) H' → H a = none → a ∉ ms → Ls (a :: ms) H' a xs → Q (.ref a) H') → te σ H Q
/-- a list to be read, frozen or not -/
def El {α : Type} [Rp α] (B ms : Ms) (te : TE) (σ : St) (H0 : Hp) (p : Hq) (xs : List α) (q : Hq) : Prop :=
  ∀ H, Bu B H0 H → p ms H → ∀ Q : VK, (∀ a H', Bu B H H' → q ms H' → a ∉ B → Ls ms H' a xs → Q (.ref a) H') → te σ H Q
def Et (B ms : Ms) (tt : TT) (σ : St) (H0 : Hp) (p : Hq) (c : Bool) (q : Hq) : Prop :=
  ∀ H, Bu B H0 H → p ms H → ∀ R : Bool → Hp → Prop, (∀ H', Bu B H H' → q ms H' → R c H') → tt σ H R
def Ea {ι : Type} [RpA ι] (B ms : Ms) (ta : TA) (σ : St) (H0 : Hp) (p : Hq) (x : ι) (q : Hq) : Prop :=
  ∀ H, Bu B H0 H → p ms H → ∀ Q : List V → Hp → Prop, (∀ vs H', Bu B H H' → q ms H' → ra ms H' vs x → Q vs H') → ta σ H Q
/-- stays when what is frozen, and what stands at B, stays -/
def Sb (B : Ms) (q : Hq) : Prop := ∀ ms ms' H H', q ms H → Mv ms H ms' H' → (∀ a ∈ B, ∀ o, H a = some o → H' a = some o) → q ms' H'
theorem Sb.same {B ms : Ms} {q : Hq} {H H' : Hp} (h : Sb B q) (s : Same H H') (z : q ms H) : q ms H' := h _ _ _ _ z (Mv.same s) fun a _ o e => s a o e
def Tr : Hq := fun _ _ => True
theorem sb_tr {B : Ms} : Sb B Tr := fun _ _ _ _ _ _ _ => trivial
section
variable {α β γ : Type} [Rp α] [Rp β] [Rp γ] {K : PySem.W.Frag} {B ms : Ms} {σ : St} {H0 : Hp} {p q r : Hq} {ta tb tc te : TE} {x : α} {y : β} {z : γ}
theorem Ex.use {H : Hp} {Q : VK} (h : Ex B ms te σ H p x q) (hp : p ms H) (k : ∀ v H', Bu B H H' → q ms H' → rp ms H' v x → Q v H') : te σ H Q := h H (Bu.refl B H) hp Q k
theorem Et.use {tt : TT} {c : Bool} {H : Hp} {R : Bool → Hp → Prop} (h : Et B ms tt σ H p c q) (hp : p ms H) (k : ∀ H', Bu B H H' → q ms H' → R c H') : tt σ H R := h H (Bu.refl B H) hp R k
theorem El.use {xs : List α} {H : Hp} {Q : VK} (h : El B ms te σ H p xs q) (hp : p ms H) (k : ∀ a H', Bu B H H' → q ms H' → a ∉ B → Ls ms H' a xs → Q (.ref a) H') : te σ H Q := h H (Bu.refl B H) hp Q k
theorem Ex.later {H : Hp} (h : Ex B ms te σ H0 p x q) (b : Bu B H0 H) : Ex B ms te σ H p x q := fun H1 b1 hp Q k => h H1 (b.trans b1) hp Q k
theorem ex_var (W : Wd B ms H0) {i : Nat} {v : V} (hs : σ[i]? = some (some v)) (h : rp ms H0 v x) : Ex B ms (tVar i) σ H0 p x p := fun H b hp Q k => ⟨v, hs, k v H (Bu.refl B H) hp (Rp.mv h (W.mv b))⟩
theorem ex_int (n : Int) : Ex B ms (tC (.int n)) σ H0 p n p := fun H b hp Q k => k _ H (Bu.refl B H) hp rfl
theorem ex_bl (n : Bool) : Ex B ms (tC (.bl n)) σ H0 p n p := fun H b hp Q k => k _ H (Bu.refl B H) hp rfl
theorem ex_str (n : Str) : Ex B ms (tC (.str n)) σ H0 p n p := fun H b hp Q k => k _ H (Bu.refl B H) hp rfl
theorem ex_non : Ex B ms (tC .non) σ H0 p (none : Option α) p := fun H b hp Q k => k _ H (Bu.refl B H) hp rfl
theorem ex_some (h : Ex B ms te σ H0 p x q) : Ex B ms te σ H0 p (some x) q := h
/-- the same judged of the same datum, said otherwise -/
theorem ex_eq {x' : α} (e : x = x') (h : Ex B ms te σ H0 p x q) : Ex B ms te σ H0 p x' q := e ▸ h
theorem ex_opI0 {g : Int → Int → V} {i j : Int} (hg : ∀ ms H, rp ms H (g i j) z) (ha : Ex B ms ta σ H0 p i q) (hb : Ex B ms tb σ H0 q j r) : Ex B ms (tOp (rI0 g) ta tb) σ H0 p z r :=
  fun H b hp Q k => ha H b hp _ fun v H1 b1 q1 e1 => hb H1 (b.trans b1) q1 _ fun u H2 b2 q2 e2 => ⟨i, j, e1, e2, k _ H2 (b1.trans b2) q2 (hg _ _)⟩
theorem ex_opI {C : Int → Int → Prop} {g : Int → Int → V} {i j : Int} (hc : C i j) (hg : ∀ ms H, rp ms H (g i j) z) (ha : Ex B ms ta σ H0 p i q) (hb : Ex B ms tb σ H0 q j r) : Ex B ms (tOp (rI C g) ta tb) σ H0 p z r :=
  fun H b hp Q k => ha H b hp _ fun v H1 b1 q1 e1 => hb H1 (b.trans b1) q1 _ fun u H2 b2 q2 e2 => ⟨i, j, e1, e2, hc, k _ H2 (b1.trans b2) q2 (hg _ _)⟩
theorem ex_opU {g : Int → V} {i : Int} (hg : ∀ ms H, rp ms H (g i) z) (ha : Ex B ms ta σ H0 p i q) : Ex B ms (tUn (rU g) ta) σ H0 p z q :=
  fun H b hp Q k => ha H b hp _ fun v H1 b1 q1 e1 => ⟨i, e1, k _ H1 b1 q1 (hg _ _)⟩
theorem ex_eqI {i j : Int} (ha : Ex B ms ta σ H0 p i q) (hb : Ex B ms tb σ H0 q j r) : Ex B ms (tOp rEq ta tb) σ H0 p (decide (i = j)) r :=
  fun H b hp Q k => ha H b hp _ fun v H1 b1 q1 e1 => hb H1 (b.trans b1) q1 _ fun u H2 b2 q2 e2 => by
    have e1' : v = .int i := e1
    have e2' : u = .int j := e2
    subst e1' e2'
    exact r_eqI (k _ H2 (b1.trans b2) q2 rfl)
theorem ex_neI {i j : Int} (ha : Ex B ms ta σ H0 p i q) (hb : Ex B ms tb σ H0 q j r) : Ex B ms (tOp rNe ta tb) σ H0 p (!decide (i = j)) r :=
  fun H b hp Q k => ha H b hp _ fun v H1 b1 q1 e1 => hb H1 (b.trans b1) q1 _ fun u H2 b2 q2 e2 => by
    have e1' : v = .int i := e1
    have e2' : u = .int j := e2
    subst e1' e2'
    exact r_neI (k _ H2 (b1.trans b2) q2 rfl)
theorem ex_eqB {i j : Bool} (ha : Ex B ms ta σ H0 p i q) (hb : Ex B ms tb σ H0 q j r) : Ex B ms (tOp rEq ta tb) σ H0 p (decide (i = j)) r :=
  fun H b hp Q k => ha H b hp _ fun v H1 b1 q1 e1 => hb H1 (b.trans b1) q1 _ fun u H2 b2 q2 e2 => by
    have e1' : v = .bl i := e1
    have e2' : u = .bl j := e2
    subst e1' e2'
    exact r_eqB (k _ H2 (b1.trans b2) q2 rfl)
theorem ex_neB {i j : Bool} (ha : Ex B ms ta σ H0 p i q) (hb : Ex B ms tb σ H0 q j r) : Ex B ms (tOp rNe ta tb) σ H0 p (!decide (i = j)) r :=
  fun H b hp Q k => ha H b hp _ fun v H1 b1 q1 e1 => hb H1 (b.trans b1) q1 _ fun u H2 b2 q2 e2 => by
    have e1' : v = .bl i := e1
    have e2' : u = .bl j := e2
    subst e1' e2'
    exact r_neB (k _ H2 (b1.trans b2) q2 rfl)
theorem ex_eqS {i j : Str} (ha : Ex B ms ta σ H0 p i q) (hb : Ex B ms tb σ H0 q j r) : Ex B ms (tOp rEq ta tb) σ H0 p (decide (i = j)) r :=
  fun H b hp Q k => ha H b hp _ fun v H1 b1 q1 e1 => hb H1 (b.trans b1) q1 _ fun u H2 b2 q2 e2 => by
    have e1' : v = .str i := e1
    have e2' : u = .str j := e2
    subst e1' e2'
    refine ⟨rfl, ?_⟩
    rw [show decide (V.str i = V.str j) = decide (i = j) by simp]
    exact k _ H2 (b1.trans b2) q2 rfl
/-! truth -/
theorem et_val {c : Bool} (h : Ex B ms te σ H0 p c q) : Et B ms (tB te) σ H0 p c q := fun H b hp R k => h H b hp _ fun v H1 b1 q1 e1 => ⟨c, e1, k H1 b1 q1⟩
theorem et_test {c : Bool} (h : Ex B ms te σ H0 p c q) : Et B ms (tTest te) σ H0 p c q := fun H b hp R k => h H b hp _ fun v H1 b1 q1 e1 => ⟨c, e1, k H1 b1 q1⟩
theorem et_truL {xs : List α} (h : El B ms te σ H0 p xs q) : Et B ms (tTru K te) σ H0 p (!xs.isEmpty) q := fun H b hp R k => h H b hp _ fun a H1 b1 q1 na ⟨vs, e, rl, _⟩ => by
  have e2 : vs.isEmpty = xs.isEmpty := by
    have := rl.len
    cases vs <;> cases xs <;> simp_all
  refine r_truL (SqL.of e) ?_
  rw [e2]
  exact k H1 b1 q1
theorem et_not {tt : TT} {c : Bool} (h : Et B ms tt σ H0 p c q) : Et B ms (L2.tNot tt) σ H0 p (!c) q := fun H b hp R k => h H b hp _ fun H1 b1 q1 => k H1 b1 q1
theorem et_and {t1 t2 : TT} {c d : Bool} (h1 : Et B ms t1 σ H0 p c q) (h2 : c = true → Et B ms t2 σ H0 q d r) (h3 : c = false → d = false ∧ ∀ H, q ms H → r ms H) : Et B ms (L2.tAnd t1 t2) σ H0 p d r := fun H b hp R k => h1 H b hp _ fun H1 b1 q1 => by
  cases c with
  | true =>
    exact h2 rfl H1 (b.trans b1) q1 _ fun H2 b2 q2 => k H2 (b1.trans b2) q2
  | false =>
    obtain ⟨rfl, h⟩ := h3 rfl
    exact k H1 b1 (h _ q1)
theorem et_or {t1 t2 : TT} {c d : Bool} (h1 : Et B ms t1 σ H0 p c q) (h2 : c = false → Et B ms t2 σ H0 q d r) (h3 : c = true → d = true ∧ ∀ H, q ms H → r ms H) : Et B ms (L2.tOr t1 t2) σ H0 p d r := fun H b hp R k => h1 H b hp _ fun H1 b1 q1 => by
  cases c with
  | false =>
    exact h2 rfl H1 (b.trans b1) q1 _ fun H2 b2 q2 => k H2 (b1.trans b2) q2
  | true =>
    obtain ⟨rfl, h⟩ := h3 rfl
    exact k H1 b1 (h _ q1)
theorem ex_and {c d : Bool} (h1 : Ex B ms ta σ H0 p c q) (h2 : c = true → Ex B ms tb σ H0 q d r) (h3 : c = false → d = false ∧ ∀ H, q ms H → r ms H) : Ex B ms (tAndV ta tb) σ H0 p d r := fun H b hp R k => h1 H b hp _ fun v H1 b1 q1 ev => by
  refine ⟨c, ev, ?_⟩
  cases c with
  | true =>
    exact h2 rfl H1 (b.trans b1) q1 _ fun v H2 b2 q2 e2 => k v H2 (b1.trans b2) q2 e2
  | false =>
    obtain ⟨rfl, h⟩ := h3 rfl
    exact k _ H1 b1 (h _ q1) rfl
theorem ex_or {c d : Bool} (h1 : Ex B ms ta σ H0 p c q) (h2 : c = false → Ex B ms tb σ H0 q d r) (h3 : c = true → d = true ∧ ∀ H, q ms H → r ms H) : Ex B ms (tOrV ta tb) σ H0 p d r := fun H b hp R k => h1 H b hp _ fun v H1 b1 q1 ev => by
  refine ⟨c, ev, ?_⟩
  cases c with
  | false =>
    exact h2 rfl H1 (b.trans b1) q1 _ fun v H2 b2 q2 e2 => k v H2 (b1.trans b2) q2 e2
  | true =>
    obtain ⟨rfl, h⟩ := h3 rfl
    exact k _ H1 b1 (h _ q1) rfl
theorem ex_not {c : Bool} (h : Ex B ms te σ H0 p c q) : Ex B ms (tNotV te) σ H0 p (!c) q := fun H b hp Q k => h H b hp _ fun v H1 b1 q1 e1 => ⟨c, e1, k _ H1 b1 q1 rfl⟩
theorem ex_if {tt : TT} {c : Bool} (h1 : Et B ms tt σ H0 p c q) (h2 : c = true → Ex B ms ta σ H0 q x r) (h3 : c = false → Ex B ms tb σ H0 q x r) : Ex B ms (L2.tIf tt ta tb) σ H0 p x r := fun H b hp Q k => h1 H b hp _ fun H1 b1 q1 => by
  cases c with
  | true => exact h2 rfl H1 (b.trans b1) q1 _ fun v H2 b2 q2 e2 => k v H2 (b1.trans b2) q2 e2
  | false => exact h3 rfl H1 (b.trans b1) q1 _ fun v H2 b2 q2 e2 => k v H2 (b1.trans b2) q2 e2
theorem et_and' {t1 t2 : TT} {c d : Bool} (h1 : Et B ms t1 σ H0 p c q) (h2 : c = true → Et B ms t2 σ H0 q d q) : Et B ms (L2.tAnd t1 t2) σ H0 p (c && d) q := et_and h1 (fun e => by rw [show (c && d) = d by rw [e]; rfl]; exact h2 e) fun e => ⟨by rw [e]; rfl, fun _ z => z⟩
theorem et_or' {t1 t2 : TT} {c d : Bool} (h1 : Et B ms t1 σ H0 p c q) (h2 : c = false → Et B ms t2 σ H0 q d q) : Et B ms (L2.tOr t1 t2) σ H0 p (c || d) q := et_or h1 (fun e => by rw [show (c || d) = d by rw [e]; rfl]; exact h2 e) fun e => ⟨by rw [e]; rfl, fun _ z => z⟩
theorem ex_and' {c d : Bool} (h1 : Ex B ms ta σ H0 p c q) (h2 : c = true → Ex B ms tb σ H0 q d q) : Ex B ms (tAndV ta tb) σ H0 p (c && d) q := ex_and h1 (fun e => by rw [show (c && d) = d by rw [e]; rfl]; exact h2 e) fun e => ⟨by rw [e]; rfl, fun _ z => z⟩
theorem ex_or' {c d : Bool} (h1 : Ex B ms ta σ H0 p c q) (h2 : c = false → Ex B ms tb σ H0 q d q) : Ex B ms (tOrV ta tb) σ H0 p (c || d) q := ex_or h1 (fun e => by rw [show (c || d) = d by rw [e]; rfl]; exact h2 e) fun e => ⟨by rw [e]; rfl, fun _ z => z⟩
/-! a < b < c -/
theorem ex_chain {g h : Int → Int → Bool} {i j l : Int} {d : Bool} (ha : Ex B ms ta σ H0 p i q) (hb : Ex B ms tb σ H0 q j r) (hc : Ex B ms tc σ H0 r l r) (e : d = (g i j && h j l)) : Ex B ms (tChain (rI0 fun i j => .bl (g i j)) (rI0 fun i j => .bl (h i j)) ta tb tc) σ H0 p d r :=
  fun H b hp Q k => ha H b hp _ fun v H1 b1 q1 e1 => hb H1 (b.trans b1) q1 _ fun u H2 b2 q2 e2 => ⟨i, j, e1, e2, g i j, rfl, by
    cases hg : g i j with
    | true =>
      rw [if_pos rfl]
      refine hc H2 ((b.trans b1).trans b2) q2 _ fun w H3 b3 q3 e3 => ⟨j, l, e2, e3, ?_⟩
      rw [e, hg] at k
      exact k _ H3 ((b1.trans b2).trans b3) q3 rfl
    | false =>
      rw [if_neg (by decide)]
      rw [e, hg] at k
      exact k _ H2 (b1.trans b2) q2 rfl⟩
/-- the same, where the third part may fail -/
theorem ex_chainP {g h : Int → Int → Bool} {i j : Int} {d : Bool} (ha : Ex B ms ta σ H0 p i q) (hb : Ex B ms tb σ H0 q j r) (hc : g i j = true → ∃ l : Int, Ex B ms tc σ H0 r l r ∧ h j l = d) (e : g i j = false → d = false) : Ex B ms (tChain (rI0 fun i j => .bl (g i j)) (rI0 fun i j => .bl (h i j)) ta tb tc) σ H0 p d r :=
  fun H b hp Q k => ha H b hp _ fun v H1 b1 q1 e1 => hb H1 (b.trans b1) q1 _ fun u H2 b2 q2 e2 => ⟨i, j, e1, e2, g i j, rfl, by
    cases hg : g i j with
    | true =>
      rw [if_pos rfl]
      obtain ⟨l, hc, ed⟩ := hc hg
      refine hc H2 ((b.trans b1).trans b2) q2 _ fun w H3 b3 q3 e3 => ⟨j, l, e2, e3, ?_⟩
      rw [← ed] at k
      exact k _ H3 ((b1.trans b2).trans b3) q3 rfl
    | false =>
      rw [if_neg (by decide)]
      rw [e hg] at k
      exact k _ H2 (b1.trans b2) q2 rfl⟩
end
section
variable {α β γ : Type} [Rp α] [Rp β] [Rp γ] {K : PySem.W.Frag} {B ms : Ms} {σ : St} {H0 : Hp} {p q r : Hq} {ta tb tc te : TE} {x : α} {y : β} {z : γ}
/-! lists to read -/
theorem el_of {xs : List α} (hB : ∀ a ∈ B, a ∈ ms) (h : Ex B ms te σ H0 p xs q) : El B ms te σ H0 p xs q := fun H b hp Q k => h H b hp _ fun v H1 b1 q1 ⟨a, e, n, l⟩ => by
  subst e
  exact k a H1 b1 q1 (fun z => n (hB a z)) l
theorem el_var {i : Nat} {a : Addr} {xs : List α} (W : Wd B ms H0) (hs : σ[i]? = some (some (.ref a))) (n : a ∉ B) (h : Ls ms H0 a xs) : El B ms (tVar i) σ H0 p xs p := fun H b hp Q k => ⟨_, hs, k a H (Bu.refl B H) hp n (h.bu W.hB n b)⟩
theorem ex_len {xs : List α} (h : El B ms te σ H0 p xs q) : Ex B ms (tCB (fun xs H Q => ∃ p ys, xs = [.ref p] ∧ (SqL K H p ys ∨ SqT K H p ys) ∧ Q (.int ys.length) H) (tCons te tNil)) σ H0 p (xs.length : Int) q := fun H b hp Q k => h H b hp _ fun a H1 b1 q1 na ⟨vs, e, rl, _⟩ =>
  ⟨a, vs, rfl, .inl (SqL.of e), k _ H1 b1 q1 (by rw [rl.len]; rfl)⟩
theorem ex_ixL {xs : List α} {i : Int} (h1 : El B ms ta σ H0 p xs q) (h2 : Ex B ms tb σ H0 q i r) (W : Wd B ms H0) (e : atI xs i = some x) : Ex B ms (tOp (rIxL K) ta tb) σ H0 p x r := fun H b hp Q k => h1 H b hp _ fun a H1 b1 q1 na l1 => h2 H1 (b.trans b1) q1 _ fun u H2 b2 q2 e2 => by
  obtain ⟨vs, ev, rl, _⟩ := l1.bu W.hB na b2
  obtain ⟨j, ej, ex⟩ := Option.bind_eq_some_iff.mp e
  obtain ⟨v, hv, rv⟩ := rl.get' ex
  have e2' : u = .int i := e2
  subst e2'
  refine ⟨a, vs, i, v, rfl, rfl, SqL.of ev, ?_, k v H2 (b1.trans b2) q2 rv⟩
  unfold atI
  rw [rl.len, ej]
  exact hv
theorem ex_fst {u : α × β} (h1 : Ex B ms ta σ H0 p u q) : Ex B ms (tOp (rIxT K) ta (tC (.int 0))) σ H0 p u.1 q := fun H b hp Q k => h1 H b hp _ fun v H1 b1 q1 ⟨a, w1, w2, e, n, eh, r1, r2⟩ => by
  subst e
  exact ⟨a, _, 0, w1, rfl, rfl, SqT.of eh, rfl, k _ H1 b1 q1 r1⟩
theorem ex_snd {u : α × β} (h1 : Ex B ms ta σ H0 p u q) : Ex B ms (tOp (rIxT K) ta (tC (.int 1))) σ H0 p u.2 q := fun H b hp Q k => h1 H b hp _ fun v H1 b1 q1 ⟨a, w1, w2, e, n, eh, r1, r2⟩ => by
  subst e
  exact ⟨a, _, 1, w2, rfl, rfl, SqT.of eh, rfl, k _ H1 b1 q1 r2⟩
theorem ex_t1 {u : T3 α β γ} (h1 : Ex B ms ta σ H0 p u q) : Ex B ms (tOp (rIxT K) ta (tC (.int 0))) σ H0 p u.a q := fun H b hp Q k => h1 H b hp _ fun v H1 b1 q1 ⟨a, w1, w2, w3, e, n, eh, r1, r2, r3⟩ => by
  subst e
  exact ⟨a, _, 0, w1, rfl, rfl, SqT.of eh, rfl, k _ H1 b1 q1 r1⟩
theorem ex_t2 {u : T3 α β γ} (h1 : Ex B ms ta σ H0 p u q) : Ex B ms (tOp (rIxT K) ta (tC (.int 1))) σ H0 p u.b q := fun H b hp Q k => h1 H b hp _ fun v H1 b1 q1 ⟨a, w1, w2, w3, e, n, eh, r1, r2, r3⟩ => by
  subst e
  exact ⟨a, _, 1, w2, rfl, rfl, SqT.of eh, rfl, k _ H1 b1 q1 r2⟩
theorem ex_t3 {u : T3 α β γ} (h1 : Ex B ms ta σ H0 p u q) : Ex B ms (tOp (rIxT K) ta (tC (.int 2))) σ H0 p u.c q := fun H b hp Q k => h1 H b hp _ fun v H1 b1 q1 ⟨a, w1, w2, w3, e, n, eh, r1, r2, r3⟩ => by
  subst e
  exact ⟨a, _, 2, w3, rfl, rfl, SqT.of eh, rfl, k _ H1 b1 q1 r3⟩
theorem Sb.less {H : Hp} {a : Addr} {q : Hq} (h : Sb B q) (z : q (a :: ms) H) : q ms H := h _ _ _ _ z (Mv.less fun _ m => List.mem_cons_of_mem _ m) fun _ _ _ e => e
theorem Sb.new {H H' : Hp} {a : Addr} {q : Hq} (h : Sb B q) (na : H a = none) (s : Same H H') (z : q ms H) : q (a :: ms) H' := h _ _ _ _ z (Mv.new na s) fun _ _ _ e => s _ _ e
theorem En.ex {xs : List α} (hq : Sb B q) (h : En B ms te σ H0 p xs q) : Ex B ms te σ H0 p xs q := fun H b hp Q k => h H b hp _ fun a H1 b1 q1 na nm l => k _ H1 b1 (hq.less q1) ⟨a, rfl, nm, l.less fun _ m => List.mem_cons_of_mem _ m⟩
theorem ls_new {H : Hp} {t : Addr} {vs : List V} {xs : List α} (nt : H t = none) (rl : RL (rp ms H) vs xs) (l : vs.length ≤ sizeLine) : Ls (t :: ms) (upd H t (.lst vs)) t xs := ⟨vs, upd_same, rl.imp fun _ _ z => Rp.mv z (Mv.new nt (same_upd nt)), l⟩
/-! arguments -/
theorem ea_nil : Ea B ms tNil σ H0 p () p := fun H b hp Q k => k [] H (Bu.refl B H) hp rfl
theorem ea_cons {ι : Type} [RpA ι] {ts : TA} {i : ι} (W : Wd B ms H0) (h1 : Ex B ms te σ H0 p x q) (h2 : Ea B ms ts σ H0 q i r) : Ea B ms (tCons te ts) σ H0 p (x, i) r := fun H b hp Q k => h1 H b hp _ fun v H1 b1 q1 e1 => h2 H1 (b.trans b1) q1 _ fun vs H2 b2 q2 e2 =>
  k (v :: vs) H2 (b1.trans b2) q2 ⟨v, vs, rfl, Rp.mv e1 (Mv.bu W.hB b2), e2⟩
theorem ex_tup2 {ts : TA} {u : α × β} (W : Wd B ms H0) (hq : Sb B q) (h : Ea B ms ts σ H0 p (u.1, u.2, ()) q) : Ex B ms (tTup ts) σ H0 p u q := fun H b hp Q k => h H b hp _ fun vs H1 b1 q1 e1 => by
  obtain ⟨v1, _, rfl, r1, v2, _, rfl, r2, e⟩ := e1
  have e' : _ = [] := e
  subst e'
  refine ⟨by rw [sizeLine_eq]; simp, fun t nt => ?_⟩
  have s := same_upd (o := .tup [v1, v2]) nt
  exact k _ _ (b1.trans (Bu.same s)) (hq.same s q1) ⟨t, v1, v2, rfl, ((W.al.bu b).bu b1).not nt, upd_same, Rp.mv r1 (Mv.same s), Rp.mv r2 (Mv.same s)⟩
theorem ex_tup3 {ts : TA} {u : T3 α β γ} (W : Wd B ms H0) (hq : Sb B q) (h : Ea B ms ts σ H0 p (u.a, u.b, u.c, ()) q) : Ex B ms (tTup ts) σ H0 p u q := fun H b hp Q k => h H b hp _ fun vs H1 b1 q1 e1 => by
  obtain ⟨v1, _, rfl, r1, v2, _, rfl, r2, v3, _, rfl, r3, e⟩ := e1
  have e' : _ = [] := e
  subst e'
  refine ⟨by rw [sizeLine_eq]; simp, fun t nt => ?_⟩
  have s := same_upd (o := .tup [v1, v2, v3]) nt
  exact k _ _ (b1.trans (Bu.same s)) (hq.same s q1) ⟨t, v1, v2, v3, rfl, ((W.al.bu b).bu b1).not nt, upd_same, Rp.mv r1 (Mv.same s), Rp.mv r2 (Mv.same s), Rp.mv r3 (Mv.same s)⟩
theorem ex_l1 {u : L2P α β} (h1 : Ex B ms ta σ H0 p u q) : Ex B ms (tOp (rIxL K) ta (tC (.int 0))) σ H0 p u.a q := fun H b hp Q k => h1 H b hp _ fun v H1 b1 q1 ⟨a, w1, w2, e, n, eh, r1, r2⟩ => by
  subst e
  exact ⟨a, _, 0, w1, rfl, rfl, SqL.of eh, rfl, k _ H1 b1 q1 r1⟩
theorem ex_l2 {u : L2P α β} (h1 : Ex B ms ta σ H0 p u q) : Ex B ms (tOp (rIxL K) ta (tC (.int 1))) σ H0 p u.b q := fun H b hp Q k => h1 H b hp _ fun v H1 b1 q1 ⟨a, w1, w2, e, n, eh, r1, r2⟩ => by
  subst e
  exact ⟨a, _, 1, w2, rfl, rfl, SqL.of eh, rfl, k _ H1 b1 q1 r2⟩
theorem ex_two {ts : TA} {u : L2P α β} (W : Wd B ms H0) (hq : Sb B q) (h : Ea B ms ts σ H0 p (u.a, u.b, ()) q) : Ex B ms (tLst ts) σ H0 p u q := fun H b hp Q k => h H b hp _ fun vs H1 b1 q1 e1 => by
  obtain ⟨v1, _, rfl, r1, v2, _, rfl, r2, e⟩ := e1
  have e' : _ = [] := e
  subst e'
  refine ⟨by rw [sizeLine_eq]; simp, fun t nt => ?_⟩
  have s := same_upd (o := .lst [v1, v2]) nt
  exact k _ _ (b1.trans (Bu.same s)) (hq.same s q1) ⟨t, v1, v2, rfl, ((W.al.bu b).bu b1).not nt, upd_same, Rp.mv r1 (Mv.same s), Rp.mv r2 (Mv.same s)⟩
/-- items of a list display -/
def Es (B ms : Ms) (ta : TA) (σ : St) (H0 : Hp) (p : Hq) (xs : List α) (q : Hq) : Prop :=
  ∀ H, Bu B H0 H → p ms H → ∀ Q : List V → Hp → Prop, (∀ vs H', Bu B H H' → q ms H' → RL (rp ms H') vs xs → Q vs H') → ta σ H Q
theorem es_nil : Es B ms tNil σ H0 p ([] : List α) p := fun H b hp Q k => k [] H (Bu.refl B H) hp trivial
theorem es_cons {xs : List α} {ts : TA} (W : Wd B ms H0) (h1 : Ex B ms te σ H0 p x q) (h2 : Es B ms ts σ H0 q xs r) : Es B ms (tCons te ts) σ H0 p (x :: xs) r := fun H b hp Q k => h1 H b hp _ fun v H1 b1 q1 e1 => h2 H1 (b.trans b1) q1 _ fun vs H2 b2 q2 e2 =>
  k (v :: vs) H2 (b1.trans b2) q2 ⟨Rp.mv e1 (Mv.bu W.hB b2), e2⟩
/-- a fresh list -/
theorem rp_new {H : Hp} {t : Addr} {vs : List V} {xs : List α} (al : Al ms H) (nt : H t = none) (rl : RL (rp ms H) vs xs) (l : vs.length ≤ sizeLine) : rp ms (upd H t (.lst vs)) (.ref t) xs :=
  ⟨t, rfl, al.not nt, vs, upd_same, rl.imp fun _ _ z => Rp.mv z (Mv.same (same_upd nt)), l⟩
theorem en_lst {ts : TA} {xs : List α} (W : Wd B ms H0) (hq : Sb B q) (hl : xs.length ≤ 1000) (h : Es B ms ts σ H0 p xs q) : En B ms (tLst ts) σ H0 p xs q := fun H b hp Q k => h H b hp _ fun vs H1 b1 q1 rl => by
  have hl' : vs.length ≤ sizeLine := by rw [rl.len, sizeLine_eq]; omega
  refine ⟨hl', fun t nt => ?_⟩
  have s := same_upd (o := .lst vs) nt
  exact k _ _ (b1.trans (Bu.same s)) (hq.new nt s q1) (b1.none nt) (((W.al.bu b).bu b1).not nt) (ls_new nt rl hl')
theorem en_listof {xs : List α} (W : Wd B ms H0) (hq : Sb B q) (h : El B ms te σ H0 p xs q) : En B ms (tCB (fun xs H Q => ∃ p ys, xs = [.ref p] ∧ (SqL K H p ys ∨ SqT K H p ys) ∧ ∀ l, H l = none → Q (.ref l) (upd H l (.lst ys))) (tCons te tNil)) σ H0 p xs q := fun H b hp Q k => h H b hp _ fun a H1 b1 q1 na ⟨vs, e, rl, l⟩ => by
  refine ⟨a, vs, rfl, .inl (SqL.of e), fun t nt => ?_⟩
  have s := same_upd (o := .lst vs) nt
  exact k _ _ (b1.trans (Bu.same s)) (hq.new nt s q1) (b1.none nt) (((W.al.bu b).bu b1).not nt) (ls_new nt rl l)
theorem en_cat {xs ys zs : List α} (W : Wd B ms H0) (hr : Sb B r) (h1 : El B ms ta σ H0 p xs q) (h2 : El B ms tb σ H0 q ys r) (e : catF xs ys = some zs) : En B ms (tOp rCat ta tb) σ H0 p zs r := fun H b hp Q k => h1 H b hp _ fun a H1 b1 q1 na l1 => h2 H1 (b.trans b1) q1 _ fun a2 H2 b2 q2 na2 l2 => by
  obtain ⟨vs, ev, rl, _⟩ := l1.bu W.hB na b2
  obtain ⟨us, eu, rl2, _⟩ := l2
  unfold catF at e
  split at e
  · rename_i hl
    cases e
    have hl' : vs.length + us.length ≤ sizeLine := by rw [rl.len, rl2.len]; exact hl
    refine ⟨a, a2, vs, us, rfl, rfl, ev, eu, hl', fun t nt => ?_⟩
    have s := same_upd (o := .lst (vs ++ us)) nt
    exact k _ _ ((b1.trans b2).trans (Bu.same s)) (hr.new nt s q2) ((b1.trans b2).none nt) ((((W.al.bu b).bu b1).bu b2).not nt) (ls_new nt (rl.app rl2) (by rw [List.length_append]; exact hl'))
  · cases e
/-! slices -/
def cutF {α : Type} (xs : List α) (lo hi : Option Int) : List α := (xs.drop (HT.sIx xs.length 0 lo)).take (HT.sIx xs.length xs.length hi - HT.sIx xs.length 0 lo)
def Eo (B ms : Ms) (th : TO) (σ : St) (H0 : Hp) (p : Hq) (i : Option Int) (q : Hq) : Prop :=
  ∀ H, Bu B H0 H → p ms H → ∀ Q : Option Int → Hp → Prop, (∀ H', Bu B H H' → q ms H' → Q i H') → th σ H Q
theorem eo_none : Eo B ms tNoPart σ H0 p none p := fun H b hp Q k => k H (Bu.refl B H) hp
theorem eo_some {i : Int} (h : Ex B ms te σ H0 p i q) : Eo B ms (tPart te) σ H0 p (some i) q := fun H b hp Q k => h H b hp _ fun v H1 b1 q1 e => ⟨i, e, k H1 b1 q1⟩
theorem en_slice {xs : List α} {lo hi : Option Int} {tl th : TO} {s : Hq} (W : Wd B ms H0) (hs : Sb B s) (h1 : El B ms te σ H0 p xs q) (h2 : Eo B ms tl σ H0 q lo r) (h3 : Eo B ms th σ H0 r hi s) : En B ms (tSl (rSlL K) te tl th) σ H0 p (cutF xs lo hi) s := fun H b hp Q k => h1 H b hp _ fun a H1 b1 q1 na l1 =>
  h2 H1 (b.trans b1) q1 _ fun H2 b2 q2 => h3 H2 ((b.trans b1).trans b2) q2 _ fun H3 b3 q3 => by
  obtain ⟨vs, ev, rl, l⟩ := (l1.bu W.hB na b2).bu W.hB na b3
  refine ⟨a, vs, rfl, SqL.of ev, fun t nt => ?_⟩
  have s := same_upd (o := .lst (cutV vs lo hi)) nt
  refine k _ _ (((b1.trans b2).trans b3).trans (Bu.same s)) (hs.new nt s q3) (((b1.trans b2).trans b3).none nt) (((((W.al.bu b).bu b1).bu b2).bu b3).not nt) (ls_new nt ?_ (Nat.le_trans (cutV_length vs lo hi) l))
  unfold cutV cutF
  rw [rl.len]
  exact rl.drop.take
/-! sums, any, all, max, min -/
theorem ex_sum {xs : List Int} (h : El B ms te σ H0 p xs q) : Ex B ms (tCB (rSum K) (tCons te tNil)) σ H0 p xs.sum q := fun H b hp Q k => h H b hp _ fun a H1 b1 q1 na ⟨vs, e, rl, l⟩ => by
  rw [rl.ints fun _ _ h => h] at e
  exact ⟨a, xs, rfl, SqL.of e, k _ H1 b1 q1 rfl⟩
theorem ex_any {xs : List Bool} (h : El B ms te σ H0 p xs q) : Ex B ms (tCB (rAny K) (tCons te tNil)) σ H0 p (xs.any id) q := fun H b hp Q k => h H b hp _ fun a H1 b1 q1 na ⟨vs, e, rl, l⟩ => by
  rw [rl.bools fun _ _ h => h] at e
  exact ⟨a, xs, rfl, SqL.of e, k _ H1 b1 q1 rfl⟩
theorem ex_all {xs : List Bool} (h : El B ms te σ H0 p xs q) : Ex B ms (tCB (rAll K) (tCons te tNil)) σ H0 p (xs.all id) q := fun H b hp Q k => h H b hp _ fun a H1 b1 q1 na ⟨vs, e, rl, l⟩ => by
  rw [rl.bools fun _ _ h => h] at e
  exact ⟨a, xs, rfl, SqL.of e, k _ H1 b1 q1 rfl⟩
theorem ex_max2 {ts : TA} {i j : Int} (h : Ea B ms ts σ H0 p (i, j, ()) q) : Ex B ms (tCB (fun xs H Q => ∃ i j, xs = [.int i, .int j] ∧ Q (.int (if j > i then j else i)) H) ts) σ H0 p (max i j) q := fun H b hp Q k => h H b hp _ fun vs H1 b1 q1 e1 => by
  obtain ⟨v1, _, rfl, r1, v2, _, rfl, r2, e⟩ := e1
  refine ⟨i, j, ?_, k _ H1 b1 q1 ?_⟩
  · have e' : _ = [] := e
    have r1' : v1 = .int i := r1
    have r2' : v2 = .int j := r2
    rw [e', r1', r2']
  · show V.int _ = V.int _
    congr 1
    split <;> omega
theorem ex_min2 {ts : TA} {i j : Int} (h : Ea B ms ts σ H0 p (i, j, ()) q) : Ex B ms (tCB (fun xs H Q => ∃ i j, xs = [.int i, .int j] ∧ Q (.int (if j < i then j else i)) H) ts) σ H0 p (min i j) q := fun H b hp Q k => h H b hp _ fun vs H1 b1 q1 e1 => by
  obtain ⟨v1, _, rfl, r1, v2, _, rfl, r2, e⟩ := e1
  refine ⟨i, j, ?_, k _ H1 b1 q1 ?_⟩
  · have e' : _ = [] := e
    have r1' : v1 = .int i := r1
    have r2' : v2 = .int j := r2
    rw [e', r1', r2']
  · show V.int _ = V.int _
    congr 1
    split <;> omega
/-! equality of data -/
class RpD (α : Type) [DecidableEq α] [Enc α] [Rp α] : Prop where
  dp : ∀ {K : PySem.W.Frag} {ms : Ms} {H : Hp} {v : V} {x : α}, rp ms H v x → Is K H v x
theorem dpAll_of [DecidableEq α] [Enc α] [RpD α] {K : PySem.W.Frag} {ms : Ms} {H : Hp} : ∀ {vs : List V} {xs : List α}, RL (rp ms H) vs xs → DpAll K H vs (xs.map Enc.enc)
  | [], [], _ => .nil
  | _ :: _, _ :: _, ⟨a, b⟩ => .cons (RpD.dp a) (dpAll_of b)
instance : RpD Int := ⟨fun h => by have h' : _ = V.int _ := h; subst h'; exact is_int⟩
instance : RpD Bool := ⟨fun h => by have h' : _ = V.bl _ := h; subst h'; exact is_bl⟩
theorem Ls.is [DecidableEq α] [Enc α] [RpD α] {K : PySem.W.Frag} {ms : Ms} {H : Hp} {a : Addr} {xs : List α} (h : Ls ms H a xs) : Is K H (.ref a) xs := let ⟨_, e, rl, _⟩ := h; .lst (SqL.of e) (dpAll_of rl)
instance [DecidableEq α] [Enc α] [RpD α] : RpD (List α) := ⟨fun ⟨a, e, _, l⟩ => by subst e; exact l.is⟩
instance [DecidableEq α] [Enc α] [RpD α] [DecidableEq β] [Enc β] [RpD β] : RpD (α × β) := ⟨fun ⟨a, u, w, e, _, eh, r1, r2⟩ => by subst e; exact is_pair (SqT.of eh) (RpD.dp r1) (RpD.dp r2)⟩
instance encT3 [DecidableEq α] [DecidableEq β] [DecidableEq γ] [Enc α] [Enc β] [Enc γ] : Enc (T3 α β γ) := ⟨fun x => .tuple [Enc.enc x.a, Enc.enc x.b, Enc.enc x.c], max (Enc.dep α) (max (Enc.dep β) (Enc.dep γ)) + 1,
  fun x => by rw [PyData.canLay0, PyData.canLayAll0, PyData.canLayAll0, PyData.canLayAll0, PyData.canLayAll0, Enc.lay, Enc.lay, Enc.lay]; rfl,
  fun x => by
    have h1 := Enc.dle x.a
    have h2 := Enc.dle x.b
    have h3 := Enc.dle x.c
    rw [PyData.depth, PyData.depthAll, PyData.depthAll, PyData.depthAll, PyData.depthAll]
    omega,
  fun x y => by
    rw [PyData.eqv, PyData.eqvAll, PyData.eqvAll, PyData.eqvAll, PyData.eqvAll, Enc.eqv, Enc.eqv, Enc.eqv]
    obtain ⟨a, b, c⟩ := x
    obtain ⟨a', b', c'⟩ := y
    by_cases h : a = a' <;> by_cases h' : b = b' <;> by_cases h2 : c = c' <;> simp [h, h', h2]⟩
instance [DecidableEq α] [Enc α] [RpD α] [DecidableEq β] [Enc β] [RpD β] [DecidableEq γ] [Enc γ] [RpD γ] : RpD (T3 α β γ) := ⟨fun ⟨a, u, w, y, e, _, eh, r1, r2, r3⟩ => by subst e; exact .tup (SqT.of eh) (.cons (RpD.dp r1) (.cons (RpD.dp r2) (.cons (RpD.dp r3) .nil)))⟩
theorem eqv_non_none {d : PyData} (h : d ≠ .none) : PyData.eqv .none d = false := by
  cases d <;> first | exact absurd rfl h | rfl
theorem eqv_none_non {d : PyData} (h : d ≠ .none) : PyData.eqv d .none = false := by
  cases d <;> first | exact absurd rfl h | rfl
def encO [DecidableEq α] [Enc α] : Option α → PyData
  | none => .none
  | some y => Enc.enc y
theorem dp_optE {K : PySem.W.Frag} [DecidableEq α] [Enc α] [RpD α] {H : Hp} {v : V} {x : Option α} (h : rp ms H v x) : Dp K H v (encO x) := by
  cases x with
  | none => have h' : v = .non := h; subst h'; exact .non
  | some y => exact RpD.dp (α := α) (x := y) h
class EncN (α : Type) [DecidableEq α] [Enc α] : Prop where
  nn : ∀ x : α, Enc.enc x ≠ .none
instance : EncN Int := ⟨fun _ z => by cases z⟩
instance [DecidableEq α] [Enc α] : EncN (List α) := ⟨fun _ z => by cases z⟩
instance [DecidableEq α] [Enc α] [DecidableEq β] [Enc β] : EncN (α × β) := ⟨fun _ z => by cases z⟩
instance : EncN Bool := ⟨fun _ z => by cases z⟩
instance [DecidableEq α] [Enc α] [DecidableEq β] [Enc β] [DecidableEq γ] [Enc γ] : EncN (T3 α β γ) := ⟨fun _ z => by cases z⟩
instance encOpt [DecidableEq α] [Enc α] [EncN α] : Enc (Option α) := ⟨encO, Enc.dep α,
  fun x => by cases x with | none => rfl | some y => exact Enc.lay y,
  fun x => by cases x with | none => exact Nat.zero_le _ | some y => exact Enc.dle y,
  fun x y => by
    cases x <;> cases y <;> simp only [encO]
    · rfl
    · simp [eqv_non_none (EncN.nn _)]
    · simp [eqv_none_non (EncN.nn _)]
    · rw [Enc.eqv]; simp⟩
instance [DecidableEq α] [Enc α] [RpD α] [EncN α] : RpD (Option α) := ⟨fun h => dp_optE h⟩
theorem ex_eqL [DecidableEq α] [Enc α] [RpD α] {xs ys : List α} (W : Wd B ms H0) (hd : Enc.dep (List α) ≤ 64) (h1 : El B ms ta σ H0 p xs q) (h2 : El B ms tb σ H0 q ys r) : Ex B ms (tOp (rEqD K) ta tb) σ H0 p (decide (xs = ys)) r := fun H b hp Q k => h1 H b hp _ fun a H1 b1 q1 na l1 => h2 H1 (b.trans b1) q1 _ fun a2 H2 b2 q2 na2 l2 =>
  r_eqE (l1.bu W.hB na b2).is l2.is hd (k _ H2 (b1.trans b2) q2 rfl)
theorem ex_neL [DecidableEq α] [Enc α] [RpD α] {xs ys : List α} (W : Wd B ms H0) (hd : Enc.dep (List α) ≤ 64) (h1 : El B ms ta σ H0 p xs q) (h2 : El B ms tb σ H0 q ys r) : Ex B ms (tOp (rNeD K) ta tb) σ H0 p (!decide (xs = ys)) r := fun H b hp Q k => h1 H b hp _ fun a H1 b1 q1 na l1 => h2 H1 (b.trans b1) q1 _ fun a2 H2 b2 q2 na2 l2 =>
  r_neE (l1.bu W.hB na b2).is l2.is hd (k _ H2 (b1.trans b2) q2 rfl)
theorem ex_eqE [DecidableEq α] [Enc α] [RpD α] {y : α} (W : Wd B ms H0) (hd : Enc.dep α ≤ 64) (h1 : Ex B ms ta σ H0 p x q) (h2 : Ex B ms tb σ H0 q y r) : Ex B ms (tOp (rEqD K) ta tb) σ H0 p (decide (x = y)) r := fun H b hp Q k => h1 H b hp _ fun v H1 b1 q1 l1 => h2 H1 (b.trans b1) q1 _ fun u H2 b2 q2 l2 =>
  r_eqE (RpD.dp (Rp.mv l1 (Mv.bu W.hB b2))) (RpD.dp l2) hd (k _ H2 (b1.trans b2) q2 rfl)
theorem ex_neE [DecidableEq α] [Enc α] [RpD α] {y : α} (W : Wd B ms H0) (hd : Enc.dep α ≤ 64) (h1 : Ex B ms ta σ H0 p x q) (h2 : Ex B ms tb σ H0 q y r) : Ex B ms (tOp (rNeD K) ta tb) σ H0 p (!decide (x = y)) r := fun H b hp Q k => h1 H b hp _ fun v H1 b1 q1 l1 => h2 H1 (b.trans b1) q1 _ fun u H2 b2 q2 l2 =>
  r_neE (RpD.dp (Rp.mv l1 (Mv.bu W.hB b2))) (RpD.dp l2) hd (k _ H2 (b1.trans b2) q2 rfl)
/-! None or not -/
class RpO (α : Type) [Rp α] : Prop where
  nn : ∀ {ms : Ms} {H : Hp} {v : V} {x : α}, rp ms H v x → v ≠ .non
instance : RpO Int := ⟨fun h => by have h' : _ = V.int _ := h; subst h'; exact fun z => by cases z⟩
instance : RpO (List α) := ⟨fun ⟨a, e, _⟩ => by subst e; exact fun z => by cases z⟩
instance : RpO (α × β) := ⟨fun ⟨a, _, _, e, _⟩ => by subst e; exact fun z => by cases z⟩
instance : RpO (T3 α β γ) := ⟨fun ⟨a, _, _, _, e, _⟩ => by subst e; exact fun z => by cases z⟩
theorem non_of [RpO α] {H : Hp} {v : V} {x : Option α} (h : rp ms H v x) : decide (v = .non) = x.isNone := by
  cases x with
  | none => have h' : v = .non := h; rw [h']; rfl
  | some y => exact decide_eq_false (RpO.nn (α := α) (x := y) h)
theorem ex_isN [RpO α] {x : Option α} (h1 : Ex B ms ta σ H0 p x q) : Ex B ms (tOp (fun x y H Q => y = .non ∧ Q (.bl (decide (x = .non))) H) ta (tC .non)) σ H0 p x.isNone q := fun H b hp Q k => h1 H b hp _ fun v H1 b1 q1 l1 => ⟨rfl, by rw [non_of l1]; exact k _ H1 b1 q1 rfl⟩
theorem ex_notN [RpO α] {x : Option α} (h1 : Ex B ms ta σ H0 p x q) : Ex B ms (tOp (fun x y H Q => y = .non ∧ Q (.bl (!decide (x = .non))) H) ta (tC .non)) σ H0 p (!x.isNone) q := fun H b hp Q k => h1 H b hp _ fun v H1 b1 q1 l1 => ⟨rfl, by rw [non_of l1]; exact k _ H1 b1 q1 rfl⟩
/-! int(i), isinstance of what is known -/
theorem ex_intI {ts : TA} {i : Int} {A : List V → Hp → VK → Prop} (h : Ea B ms ts σ H0 p (i, ()) q) : Ex B ms (tCB (fun xs H Q => (∃ i, xs = [.int i] ∧ Q (.int i) H) ∨ A xs H Q) ts) σ H0 p i q := fun H b hp Q k => h H b hp _ fun vs H1 b1 q1 e1 => by
  obtain ⟨v1, _, rfl, r1, e⟩ := e1
  have e' : _ = [] := e
  have r1' : v1 = .int i := r1
  subst e' r1'
  exact .inl ⟨i, rfl, k _ H1 b1 q1 rfl⟩
theorem ex_isiL {xs : List α} (h : El B ms te σ H0 p xs q) : Ex B ms (tCB (rIsi K) (tCons te (tCons (tC (.ty "list")) tNil))) σ H0 p true q := fun H b hp Q k => h H b hp _ fun a H1 b1 q1 na ⟨vs, e, rl, l⟩ => r_isi_ll e (k _ H1 b1 q1 rfl)
theorem ex_isiT {x : α × β} (h : Ex B ms te σ H0 p x q) : Ex B ms (tCB (rIsi K) (tCons te (tCons (tC (.ty "tuple")) tNil))) σ H0 p true q := fun H b hp Q k => h H b hp _ fun v H1 b1 q1 ⟨a, u, w, e, _, eh, _⟩ => by subst e; exact r_isi_tt eh (k _ H1 b1 q1 rfl)
theorem ex_isiT3 {x : T3 α β γ} (h : Ex B ms te σ H0 p x q) : Ex B ms (tCB (rIsi K) (tCons te (tCons (tC (.ty "tuple")) tNil))) σ H0 p true q := fun H b hp Q k => h H b hp _ fun v H1 b1 q1 ⟨a, u, w, y, e, _, eh, _⟩ => by subst e; exact r_isi_tt eh (k _ H1 b1 q1 rfl)
theorem kit_nl : kitB "NoneType" "list" = some false := by decide +kernel
theorem r_isi_nl {H : Hp} {Q : VK} (q : Q (.bl false) H) : rIsi K [.non, .ty "list"] H Q := r_isi .non kit_nl q
theorem ex_isiOL {x : Option (List α)} (h : Ex B ms te σ H0 p x q) : Ex B ms (tCB (rIsi K) (tCons te (tCons (tC (.ty "list")) tNil))) σ H0 p x.isSome q := fun H b hp Q k => h H b hp _ fun v H1 b1 q1 e => by
  cases x with
  | none => have e' : v = .non := e; subst e'; exact r_isi_nl (k _ H1 b1 q1 rfl)
  | some xs =>
    obtain ⟨a, e1, n, vs, ev, _⟩ := (show rp ms H1 v xs from e)
    subst e1
    exact r_isi_ll ev (k _ H1 b1 q1 rfl)
theorem ex_isiOT2 {x : Option (α × β)} (h : Ex B ms te σ H0 p x q) : Ex B ms (tCB (rIsi K) (tCons te (tCons (tC (.ty "tuple")) tNil))) σ H0 p x.isSome q := fun H b hp Q k => h H b hp _ fun v H1 b1 q1 e => by
  cases x with
  | none => have e' : v = .non := e; subst e'; exact r_isi_nt (k _ H1 b1 q1 rfl)
  | some xs =>
    obtain ⟨a, u, w, e1, _, eh, _⟩ := (show rp ms H1 v xs from e)
    subst e1
    exact r_isi_tt eh (k _ H1 b1 q1 rfl)
theorem ex_isiOT3 {x : Option (T3 α β γ)} (h : Ex B ms te σ H0 p x q) : Ex B ms (tCB (rIsi K) (tCons te (tCons (tC (.ty "tuple")) tNil))) σ H0 p x.isSome q := fun H b hp Q k => h H b hp _ fun v H1 b1 q1 e => by
  cases x with
  | none => have e' : v = .non := e; subst e'; exact r_isi_nt (k _ H1 b1 q1 rfl)
  | some xs =>
    obtain ⟨a, u, w, y, e1, _, eh, _⟩ := (show rp ms H1 v xs from e)
    subst e1
    exact r_isi_tt eh (k _ H1 b1 q1 rfl)
theorem ex_isib {i : Int} (h : Ex B ms te σ H0 p i q) : Ex B ms (tCB (rIsi K) (tCons te (tCons (tC (.ty "bool")) tNil))) σ H0 p false q := fun H b hp Q k => h H b hp _ fun v H1 b1 q1 e => by
  have e' : v = .int i := e
  subst e'
  exact r_isi_ib (k _ H1 b1 q1 rfl)
theorem ex_isii {i : Int} (h : Ex B ms te σ H0 p i q) : Ex B ms (tCB (rIsi K) (tCons te (tCons (tC (.ty "int")) tNil))) σ H0 p true q := fun H b hp Q k => h H b hp _ fun v H1 b1 q1 e => by
  have e' : v = .int i := e
  subst e'
  exact r_isi_ii (k _ H1 b1 q1 rfl)
theorem ex_isibb {i : Bool} (h : Ex B ms te σ H0 p i q) : Ex B ms (tCB (rIsi K) (tCons te (tCons (tC (.ty "bool")) tNil))) σ H0 p true q := fun H b hp Q k => h H b hp _ fun v H1 b1 q1 e => by
  have e' : v = .bl i := e
  subst e'
  exact r_isi_bb (k _ H1 b1 q1 rfl)
theorem ex_lenT {u : α × β} (h : Ex B ms te σ H0 p u q) : Ex B ms (tCB (fun xs H Q => ∃ p ys, xs = [.ref p] ∧ (SqL K H p ys ∨ SqT K H p ys) ∧ Q (.int ys.length) H) (tCons te tNil)) σ H0 p (2 : Int) q := fun H b hp Q k => h H b hp _ fun v H1 b1 q1 ⟨a, w1, w2, e, _, eh, _⟩ => by
  subst e
  exact ⟨a, _, rfl, .inr (SqT.of eh), k _ H1 b1 q1 rfl⟩
theorem ex_lenT3 {u : T3 α β γ} (h : Ex B ms te σ H0 p u q) : Ex B ms (tCB (fun xs H Q => ∃ p ys, xs = [.ref p] ∧ (SqL K H p ys ∨ SqT K H p ys) ∧ Q (.int ys.length) H) (tCons te tNil)) σ H0 p (3 : Int) q := fun H b hp Q k => h H b hp _ fun v H1 b1 q1 ⟨a, w1, w2, w3, e, _, eh, _⟩ => by
  subst e
  exact ⟨a, _, rfl, .inr (SqT.of eh), k _ H1 b1 q1 rfl⟩
/-! in, of whole numbers -/
theorem inV_ints (i : Int) : ∀ xs : List Int, inV (.int i) (xs.map V.int) = decide (i ∈ xs)
  | [] => rfl
  | x :: xs => by
    have ih := inV_ints i xs
    unfold inV at ih ⊢
    rw [List.map_cons, List.any_cons, ih, show eqV (.int x) (.int i) = decide (x = i) by simp [eqV]; rfl]
    by_cases h : x = i
    · subst h; simp
    · have h' : i ≠ x := fun z => h z.symm
      simp [h, h']
theorem ex_in {i : Int} {xs : List Int} (W : Wd B ms H0) (h1 : Ex B ms ta σ H0 p i q) (h2 : El B ms tb σ H0 q xs r) : Ex B ms (tOp (rIn K false) ta tb) σ H0 p (decide (i ∈ xs)) r := fun H b hp Q k => h1 H b hp _ fun v H1 b1 q1 e1 => h2 H1 (b.trans b1) q1 _ fun a H2 b2 q2 na ⟨vs, e, rl, l⟩ => by
  rw [rl.ints fun _ _ h => h] at e
  have e1' : v = .int i := e1
  subst e1'
  refine ⟨a, _, rfl, .inl (SqL.of e), rfl, by simp [flatV], ?_⟩
  rw [inV_ints]
  exact k _ H2 (b1.trans b2) q2 rfl
theorem ex_notIn {i : Int} {xs : List Int} (W : Wd B ms H0) (h1 : Ex B ms ta σ H0 p i q) (h2 : El B ms tb σ H0 q xs r) : Ex B ms (tOp (rIn K true) ta tb) σ H0 p (!decide (i ∈ xs)) r := fun H b hp Q k => h1 H b hp _ fun v H1 b1 q1 e1 => h2 H1 (b.trans b1) q1 _ fun a H2 b2 q2 na ⟨vs, e, rl, l⟩ => by
  rw [rl.ints fun _ _ h => h] at e
  have e1' : v = .int i := e1
  subst e1'
  refine ⟨a, _, rfl, .inl (SqL.of e), rfl, by simp [flatV], ?_⟩
  rw [inV_ints]
  exact k _ H2 (b1.trans b2) q2 rfl
/-! calls -/
/-- a def that changes nothing that is there -/
def spP {ι ρ : Type} [RpA ι] [Rp ρ] (F : ι → Option ρ) : Sp := fun vs H Q _ => ∃ (ms : Ms) (i : ι) (r : ρ), Al ms H ∧ ra ms H vs i ∧ F i = some r ∧ ∀ v H', Same H H' → rp ms H' v r → Q v H'
/-- a def that draws from the box -/
def Bxs (b : Addr) (bx : List Int × Nat) : Hq := fun ms H => ∃ d, H b = some (.lst [.ref d, .int (bx.2 : Nat)]) ∧ d ≠ b ∧ d ∉ ms ∧ H d = some (.lst (bx.1.map V.int))
theorem sb_bxs {b : Addr} {bx : List Int × Nat} : Sb [b] (Bxs b bx) := fun ms ms' H H' ⟨d, e1, n, n2, e2⟩ M h => let ⟨n3, e3⟩ := M d _ n2 e2; ⟨d, h b (by simp) _ e1, n, n3, e3⟩
def spB {ι ρ : Type} [RpA ι] [Rp ρ] (F : List Int × Nat → ι → Option (ρ × (List Int × Nat))) : Sp := fun vs H Q _ => ∃ (ms : Ms) (b : Addr) (us : List V) (bx bx' : List Int × Nat) (i : ι) (r : ρ), vs = .ref b :: us ∧ b ∈ ms ∧ Al ms H ∧ Bxs b bx ms H ∧ ra ms H us i ∧ F bx i = some (r, bx') ∧
  ∀ v H', Bu [b] H H' → Bxs b bx' ms H' → rp ms H' v r → Q v H'
theorem ex_call {ι : Type} [RpA ι] {F : ι → Option α} {ts : TA} {E : XK} {i : ι} (W : Wd B ms H0) (hq : Sb B q) (h : Ea B ms ts σ H0 p i q) (e : F i = some x) : Ex B ms (tCall (spP F) [] E ts) σ H0 p x q := fun H b hp Q k => r_call (h H b hp _ fun vs H1 b1 q1 e1 =>
  ⟨ms, i, x, (W.al.bu b).bu b1, e1, e, fun v H' s rv => k v H' (b1.trans (Bu.same s)) (hq.same s q1) rv⟩)
/-- a call that is given lists that may still change, and answers no list -/
theorem ex_callB {ι : Type} [RpA ι] {F : List Int × Nat → ι → Option (α × (List Int × Nat))} {ts : TA} {E : XK} {i : ι} {b : Addr} {bx bx' : List Int × Nat} {v : Nat} (W : Wd [b] ms H0) (hs : σ[v]? = some (some (.ref b))) (h : Ea [b] ms ts σ H0 (Bxs b bx) i (Bxs b bx)) (e : F bx i = some (x, bx')) :
    Ex [b] ms (tCall (spB F) [] E (tCons (tVar v) ts)) σ H0 (Bxs b bx) x (Bxs b bx') := fun H bu hp Q k => r_call (show (tCons (tVar v) ts) σ H _ from ⟨_, hs, h H bu hp _ fun vs H1 b1 q1 e1 =>
  ⟨ms, b, vs, bx, bx', i, x, rfl, W.hB b (by simp), (W.al.bu bu).bu b1, q1, e1, e, fun v H' s q' rv => k v H' (b1.trans s) q' rv⟩⟩)
/-! what is walked -/
structure NSt (N : Hq) : Prop where
  mv : ∀ {ms ms' : Ms} {H H' : Hp}, N ms H → Mv ms H ms' H' → N ms' H'
def ItOk (J : It) (N : Hq) (xs : List α) : Prop := ∀ (i : Nat) (ms : Ms) (H : Hp), N ms H → Al ms H → (xs.length ≤ i → J.stop i H) ∧ ∀ x, xs[i]? = some x → J.go i H ∧ ∀ v H', J.yld i H v H' → Same H H' ∧ rp ms H' v x
def Ei (B ms : Ms) (wi : TI) (σ : St) (H0 : Hp) (p : Hq) (xs : List α) (q : Hq) : Prop :=
  ∀ H, Bu B H0 H → p ms H → ∀ R : It → Hp → Prop, (∀ J N H', Bu B H H' → q ms H' → NSt N → N ms H' → ItOk J N xs → R J H') → wi σ H R
def Fz {α : Type} [Rp α] (a : Addr) (xs : List α) : Hq := fun ms H => rp ms H (.ref a) xs
theorem nst_fz {a : Addr} {xs : List α} : NSt (Fz a xs) := ⟨fun h M => Rp.mv h M⟩
theorem Fz.get {H : Hp} {a : Addr} {xs : List α} (h : Fz a xs ms H) : Ls ms H a xs := by obtain ⟨a', e, n, l⟩ := h; cases e; exact l
theorem itok_list {a : Addr} {xs : List α} : ItOk (Itl K a) (Fz a xs) xs := fun i ms H hf al => by
  obtain ⟨vs, e, rl, l⟩ := hf.get
  refine ⟨fun h => ⟨vs, SqL.of e, by rw [rl.len]; exact h⟩, fun x ex => ?_⟩
  obtain ⟨v, ev, rv⟩ := rl.get' ex
  refine ⟨⟨vs, v, SqL.of e, ev⟩, fun u H' ⟨eH, h⟩ => ?_⟩
  subst eH
  have := h vs (SqL.of e)
  rw [ev] at this
  cases this
  exact ⟨fun _ _ z => z, rv⟩
theorem itok_rng {lo : Int} {n : Nat} : ItOk (Itr lo n) Tr (rngL lo n) := fun i ms H _ al => ⟨fun h => by
  have h' : n ≤ i := by simpa [rngL] using h
  exact h', fun x ex => by
  unfold rngL at ex
  rw [List.getElem?_map] at ex
  obtain ⟨j, ej, rfl⟩ := Option.map_eq_some_iff.mp ex
  obtain ⟨hj, e⟩ := List.getElem?_eq_some_iff.mp ej
  rw [List.getElem_range] at e
  rw [List.length_range] at hj
  subst e
  refine ⟨hj, fun u H' ⟨eH, h⟩ => ?_⟩
  subst eH
  exact ⟨fun _ _ z => z, h⟩⟩
theorem itok_zip {a b : Addr} {xs : List α} {ys : List β} : ItOk (Itz K a b) (fun ms H => Fz a xs ms H ∧ Fz b ys ms H) (xs.zip ys) := fun i ms H ⟨h1, h2⟩ al => by
  obtain ⟨vs, e, rl, l⟩ := h1.get
  obtain ⟨us, e2, rl2, l2⟩ := h2.get
  refine ⟨fun h => ?_, fun x ex => ?_⟩
  · refine ⟨vs, us, SqL.of e, SqL.of e2, ?_⟩
    rw [List.length_zip] at h
    have := rl.len
    have := rl2.len
    omega
  obtain ⟨x1, x2⟩ := x
  rw [List.getElem?_zip_eq_some] at ex
  obtain ⟨v, ev, rv⟩ := rl.get' ex.1
  obtain ⟨u, eu, ru⟩ := rl2.get' ex.2
  refine ⟨⟨vs, us, v, u, SqL.of e, SqL.of e2, ev, eu⟩, fun w H' ⟨T, v', u', ew, nT, eH, h1, h2⟩ => ?_⟩
  subst ew eH
  have h1' := h1 vs (SqL.of e)
  have h2' := h2 us (SqL.of e2)
  rw [ev] at h1'
  rw [eu] at h2'
  cases h1'
  cases h2'
  have s := same_upd (o := .tup [v, u]) nT
  exact ⟨s, T, v, u, rfl, al.not nT, upd_same, Rp.mv rv (Mv.same s), Rp.mv ru (Mv.same s)⟩
theorem itok_enum {a : Addr} {xs : List α} : ItOk (Ite K a) (Fz a xs) (enumL xs) := fun i ms H hf al => by
  obtain ⟨vs, e, rl, l⟩ := hf.get
  refine ⟨fun h => ⟨vs, SqL.of e, by unfold enumL at h; rw [List.length_mapIdx] at h; rw [rl.len]; exact h⟩, fun x ex => ?_⟩
  unfold enumL at ex
  rw [List.getElem?_mapIdx] at ex
  obtain ⟨y, ey, rfl⟩ := Option.map_eq_some_iff.mp ex
  obtain ⟨v, ev, rv⟩ := rl.get' ey
  refine ⟨⟨vs, v, SqL.of e, ev⟩, fun w H' ⟨T, v', ew, nT, eH, h⟩ => ?_⟩
  subst ew eH
  have h' := h vs (SqL.of e)
  rw [ev] at h'
  cases h'
  have s := same_upd (o := .tup [.int (i : Nat), v]) nT
  exact ⟨s, T, _, v, rfl, al.not nT, upd_same, rfl, Rp.mv rv (Mv.same s)⟩
theorem itok_tup2 {a : Addr} {x : α × α} : ItOk (Itt K a) (fun ms H => rp ms H (.ref a) x) [x.1, x.2] := fun i ms H hf al => by
  obtain ⟨a', u, w, e, n, eh, r1, r2⟩ := hf
  cases e
  refine ⟨fun h => ⟨[u, w], SqT.of eh, h⟩, fun y ey => ?_⟩
  have go : ∀ v, [u, w][i]? = some v → rp ms H v y → (Itt K a).go i H ∧ ∀ v H', (Itt K a).yld i H v H' → Same H H' ∧ rp ms H' v y := fun v ev rv => by
    refine ⟨⟨[u, w], v, SqT.of eh, ev⟩, fun z H' ⟨eH, h⟩ => ?_⟩
    subst eH
    have := h _ (SqT.of eh)
    rw [ev] at this
    cases this
    exact ⟨fun _ _ z => z, rv⟩
  match i, ey with
  | 0, ey => cases ey; exact go u rfl r1
  | 1, ey => cases ey; exact go w rfl r2
theorem ei_list {xs : List α} (h : Ex B ms te σ H0 p xs q) : Ei B ms (iList K te) σ H0 p xs q := fun H b hp R k => h H b hp _ fun v H1 b1 q1 ⟨a, e, n, l⟩ => by
  subst e
  obtain ⟨vs, ev, rl, l2⟩ := id l
  exact ⟨a, rfl, ⟨vs, SqL.of ev⟩, k _ (Fz a xs) H1 b1 q1 nst_fz ⟨a, rfl, n, l⟩ itok_list⟩
theorem nst_tr : NSt Tr := ⟨fun _ _ => trivial⟩
theorem ei_rng2 {ts : TA} {i j : Int} {xs : List Int} (h : Ea B ms ts σ H0 p (i, j, ()) q) (e : rng2 i j = some xs) : Ei B ms (iRng2 ts) σ H0 p xs q := fun H b hp R k => h H b hp _ fun vs H1 b1 q1 e1 => by
  obtain ⟨v1, _, rfl, r1, v2, _, rfl, r2, e0⟩ := e1
  have e0' : _ = [] := e0
  have r1' : v1 = .int i := r1
  have r2' : v2 = .int j := r2
  subst e0' r1' r2'
  unfold rng2 at e
  split at e
  · rename_i hl
    cases e
    exact ⟨i, j, rfl, ⟨hl.1, hl.2.1, hl.2.2.1, hl.2.2.2.1⟩, k _ Tr H1 b1 q1 nst_tr trivial itok_rng⟩
  · cases e
theorem ei_rng1 {ts : TA} {j : Int} {xs : List Int} (h : Ea B ms ts σ H0 p (j, ()) q) (e : rng1 j = some xs) : Ei B ms (iRng1 ts) σ H0 p xs q := fun H b hp R k => h H b hp _ fun vs H1 b1 q1 e1 => by
  obtain ⟨v1, _, rfl, r1, e0⟩ := e1
  have e0' : _ = [] := e0
  have r1' : v1 = .int j := r1
  subst e0' r1'
  unfold rng1 at e
  split at e
  · rename_i hl
    cases e
    exact ⟨j, rfl, hl.1, hl.2.1, k _ Tr H1 b1 q1 nst_tr trivial itok_rng⟩
  · cases e
theorem ei_zip {ts : TA} {xs : List α} {ys : List β} (h : Ea B ms ts σ H0 p (xs, ys, ()) q) : Ei B ms (iZip K ts) σ H0 p (xs.zip ys) q := fun H b hp R k => h H b hp _ fun vs H1 b1 q1 e1 => by
  obtain ⟨v1, _, rfl, r1, v2, _, rfl, r2, e0⟩ := e1
  have e0' : _ = [] := e0
  subst e0'
  obtain ⟨a1, rfl, n1, l1⟩ := id r1
  obtain ⟨a2, rfl, n2, l2⟩ := id r2
  obtain ⟨vs, ev, _⟩ := l1
  obtain ⟨us, eu, _⟩ := l2
  exact ⟨a1, a2, vs, us, rfl, SqL.of ev, SqL.of eu, k _ _ H1 b1 q1 ⟨fun h M => ⟨nst_fz.mv h.1 M, nst_fz.mv h.2 M⟩⟩ ⟨r1, r2⟩ itok_zip⟩
theorem ei_enum {ts : TA} {xs : List α} (h : Ea B ms ts σ H0 p (xs, ()) q) : Ei B ms (iEnum K ts) σ H0 p (enumL xs) q := fun H b hp R k => h H b hp _ fun vs H1 b1 q1 e1 => by
  obtain ⟨v1, _, rfl, r1, e0⟩ := e1
  have e0' : _ = [] := e0
  subst e0'
  obtain ⟨a1, rfl, n1, l1⟩ := id r1
  obtain ⟨vs, ev, _⟩ := l1
  exact ⟨a1, vs, rfl, SqL.of ev, k _ _ H1 b1 q1 nst_fz r1 itok_enum⟩
/-- stays when what is frozen, and what stands at S, stays -/
def NSS (S : Ms) (N : Hq) : Prop := ∀ {ms ms' : Ms} {H H' : Hp}, N ms H → Mv ms H ms' H' → (∀ a ∈ S, ∀ o, H a = some o → H' a = some o) → N ms' H'
theorem NSt.ss {N : Hq} (h : NSt N) : NSS [] N := fun n M _ => h.mv n M
/-- what a comprehension walks: it may be a list that may change elsewhere -/
def Ej (B ms : Ms) (wi : TI) (σ : St) (H0 : Hp) (p : Hq) (xs : List α) (q : Hq) : Prop :=
  ∀ H, Bu B H0 H → p ms H → ∀ R : It → Hp → Prop, (∀ J N S H', Bu B H H' → q ms H' → NSS S N → (∀ a ∈ S, a ∉ B ∧ H' a ≠ none) → N ms H' → ItOk J N xs → R J H') → wi σ H R
theorem Ei.ej {wi : TI} {xs : List α} (h : Ei B ms wi σ H0 p xs q) : Ej B ms wi σ H0 p xs q := fun H b hp R k => h H b hp R fun J N H' b1 q1 st n1 ok => k J N [] H' b1 q1 st.ss (fun a z => by cases z) n1 ok
theorem itok_listM {a : Addr} {xs : List α} : ItOk (Itl K a) (fun ms H => Ls ms H a xs) xs := fun i ms H hf al => by
  obtain ⟨vs, e, rl, l⟩ := hf
  refine ⟨fun h => ⟨vs, SqL.of e, by rw [rl.len]; exact h⟩, fun x ex => ?_⟩
  obtain ⟨v, ev, rv⟩ := rl.get' ex
  refine ⟨⟨vs, v, SqL.of e, ev⟩, fun u H' ⟨eH, h⟩ => ?_⟩
  rw [eH]
  have := h vs (SqL.of e)
  rw [ev] at this
  obtain rfl := Option.some.inj this
  exact ⟨fun _ _ z => z, rv⟩
theorem ej_listM {i : Nat} {a : Addr} {xs : List α} (W : Wd B ms H0) (hs : σ[i]? = some (some (.ref a))) (n : a ∉ B) (l : Ls ms H0 a xs) : Ej B ms (iList K (tVar i)) σ H0 p xs p := fun H b hp R k => by
  have l1 := l.bu W.hB n b
  obtain ⟨vs, ev, rl, l2⟩ := id l1
  refine ⟨_, hs, a, rfl, ⟨vs, SqL.of ev⟩, k _ (fun ms H => Ls ms H a xs) [a] H (Bu.refl B H) hp (fun n M s => n.step M (s a (by simp))) (fun c hc => ?_) l1 itok_listM⟩
  rw [List.mem_singleton.mp hc]
  exact ⟨n, l1.alive⟩
/-- what is known at H0 of things that are read, still so at H with ms' -/
structure Lt (B ms : Ms) (H0 : Hp) (ms' : Ms) (H : Hp) : Prop where
  W : Wd B ms' H
  M : Mv ms H0 ms' H
  S : ∀ a o, a ∉ B → H0 a = some o → H a = some o
theorem Ls.lt {H : Hp} {ms' : Ms} {a : Addr} {xs : List α} (h : Ls ms H0 a xs) (n : a ∉ B) (L : Lt B ms H0 ms' H) : Ls ms' H a xs := h.step L.M fun o e => L.S a o n e
/-- how a turn of a comprehension binds: from v, the slots σ2 -/
def Bnd (g : TG) (v : V) (σ : St) (H : Hp) (σ2 : St) : Prop := ∀ R : St → Hp → Prop, R σ2 H → g v σ H R
theorem bnd_name {i : Nat} {v : V} {H : Hp} : Bnd (gName i) v σ H (σ.set i (some v)) := fun R h => h
theorem coll_len {α β s : Type} {f : α → s → Option (Option β × s)} : ∀ {xs : List α} {x y : s} {ys : List β}, coll f xs x = some (ys, y) → ys.length ≤ xs.length
  | [], _, _, _, h => by cases h; exact Nat.le_refl _
  | a :: as, x, y, ys, h => by
    obtain ⟨u, hu, h⟩ := bind_inv h
    obtain ⟨z, hz, h⟩ := bind_inv h
    cases h
    have := coll_len hz
    rw [List.length_append, List.length_cons]
    have : u.1.toList.length ≤ 1 := by cases u.1 <;> simp
    omega
theorem en_lcS {s : Type} {wi : TI} {g : TG} {tt : TT} {vs : List Nat} {xs : List α} {ys : List β} {x0 x1 : s} {P : s → Hq} {f : α → s → Option (Option β × s)} (W : Wd B ms H0) (hP : ∀ x, Sb B (P x)) (hl : xs.length ≤ sizeLine) (hi : Ej B ms wi σ H0 p xs (P x0)) (hc : coll f xs x0 = some (ys, x1))
    (hb : ∀ (ms' : Ms) (H : Hp) (y : α) (v : V) (r : Option β) (x x' : s), Lt B ms H0 ms' H → P x ms' H → rp ms' H v y → f y x = some (r, x') → ∃ σ2, Bnd g v (wipe σ vs) H σ2 ∧ wipe σ2 vs = wipe σ vs ∧ ∃ c q', Et B ms' tt σ2 H (P x) c q' ∧ (c = false → r = none ∧ ∀ H, q' ms' H → P x' ms' H) ∧ (c = true → ∃ u, r = some u ∧ Ex B ms' te σ2 H q' u (P x'))) :
    En B ms (tLc wi g tt te vs) σ H0 p ys (P x1) := fun H b hp Q k => by
  refine r_lc (hi H b hp _ fun J N S H1 b1 q1 st hS n1 ok D nD => ?_)
  have W1 := (W.bu b).bu b1
  have nDm : D ∉ ms := W1.al.not nD
  have nDB : D ∉ B := fun z => nDm (W.hB D z)
  have s1 := same_upd (o := .lst []) nD
  have hSD : ∀ a ∈ S, a ≠ D := fun a ha z => (hS a ha).2 (z ▸ nD)
  refine ⟨fun i m H => m = xs.length - i ∧ i ≤ xs.length ∧ ∃ acc ys1 ys2 x, H D = some (.lst acc) ∧ RL (rp (D :: ms) H) acc ys1 ∧ acc.length ≤ i ∧ Bu B H1 H ∧ P x (D :: ms) H ∧ N (D :: ms) H ∧ coll f (xs.drop i) x = some (ys2, x1) ∧ ys1 ++ ys2 = ys ∧ Mv ms H1 (D :: ms) H,
    ⟨xs.length, by simp, Nat.zero_le _, [], [], ys, x0, upd_same, trivial, Nat.le_refl _, Bu.same s1, hP _ _ _ _ _ q1 (Mv.new nD s1) (fun a ha o e => s1 a o e), st n1 (Mv.new nD s1) (fun a ha o e => s1 a o e), hc, rfl, Mv.new nD s1⟩, ?_⟩
  rintro i m H2 ⟨rfl, hi, acc, ys1, ys2, x, hD, rl, hacc, b2, q2, n2, hd, eys, M2⟩
  have al2 : Al (D :: ms) H2 := (W1.al.bu b2).cons hD
  obtain ⟨ok1, ok2⟩ := ok i _ H2 n2 al2
  by_cases hlt : i < xs.length
  · right
    have ex := List.getElem?_eq_getElem hlt
    generalize xs[i] = y at ex
    obtain ⟨go, yld⟩ := ok2 y ex
    rw [drop_get ex] at hd
    obtain ⟨⟨r, x'⟩, hf, hd⟩ := bind_inv hd
    obtain ⟨⟨ys3, x3⟩, hd3, hd⟩ := bind_inv hd
    obtain ⟨e1, e2⟩ := Prod.mk.inj (Option.some.inj hd)
    subst e1
    rw [show x3 = x1 from e2] at hd3
    refine ⟨go, fun H' => xs.length - (i + 1) = xs.length - (i + 1) ∧ i + 1 ≤ xs.length ∧ ∃ acc ys1 ys2 x, H' D = some (.lst acc) ∧ RL (rp (D :: ms) H') acc ys1 ∧ acc.length ≤ i + 1 ∧ Bu B H1 H' ∧ P x (D :: ms) H' ∧ N (D :: ms) H' ∧ coll f (xs.drop (i + 1)) x = some (ys2, x1) ∧ ys1 ++ ys2 = ys ∧ Mv ms H1 (D :: ms) H', fun H' h => ⟨_, by omega, h⟩, fun v H3 hy => ?_⟩
    obtain ⟨s3, rv⟩ := yld v H3 hy
    have hB' : ∀ a ∈ B, a ∈ D :: ms := fun a ha => List.mem_cons_of_mem _ (W.hB a ha)
    have W3 : Wd B (D :: ms) H3 := ⟨hB', al2.same s3⟩
    have M3 : Mv ms H1 (D :: ms) H3 := M2.trans (Mv.same s3)
    have bb : Bu B H0 H3 := ((b.trans b1).trans b2).trans (Bu.same s3)
    have L3 : Lt B ms H0 (D :: ms) H3 := ⟨W3, (Mv.bu W.hB (b.trans b1)).trans M3, bb.1⟩
    have q3 := (hP x).same s3 q2
    obtain ⟨σ2, bd, ew, c, q', ht, hf0, hf1⟩ := hb _ H3 y v r x x' L3 q3 rv hf
    refine bd _ ⟨ew, ?_⟩
    refine ht.use q3 fun H4 b4 q4 => ?_
    have hD4 : H4 D = some (.lst acc) := b4.1 _ _ nDB (s3 _ _ hD)
    have M24 : Mv (D :: ms) H2 (D :: ms) H4 := (Mv.same s3).trans (Mv.bu hB' b4)
    cases c with
    | false =>
      obtain ⟨rfl, hq⟩ := hf0 rfl
      rw [if_neg (by decide)]
      refine ⟨rfl, hlt, acc, ys1, ys3, x', hD4, rl.imp fun _ _ z => Rp.mv z M24, by omega, (b2.trans (Bu.same s3)).trans b4, hq _ q4, st n2 M24 (fun a ha o e => b4.1 _ _ (hS a ha).1 (s3 _ _ e)), hd3, by simpa using eys, M2.trans M24⟩
    | true =>
      obtain ⟨y2, rfl, he⟩ := hf1 rfl
      rw [if_pos rfl]
      refine he H4 b4 q4 _ fun u H5 b5 q5 r5 => ?_
      have hD5 : H5 D = some (.lst acc) := b5.1 _ _ nDB hD4
      have M25 : Mv (D :: ms) H2 (D :: ms) H5 := M24.trans (Mv.bu hB' b5)
      have M56 : Mv (D :: ms) H5 (D :: ms) (upd H5 D (.lst (acc ++ [u]))) := Mv.but (m := D) (by simp) But.upd
      refine ⟨acc, hD5, by omega, rfl, hlt, acc ++ [u], ys1 ++ [y2], ys3, x', upd_same, RL.snoc (rl.imp fun _ _ z => Rp.mv z (M25.trans M56)) (Rp.mv r5 M56), by simp; omega,
        Bu.own (((b2.trans (Bu.same s3)).trans b4).trans b5) nD But.upd upd_same, hP _ _ _ _ _ q5 M56 (fun a ha o e => by rw [upd_ne (nab ha nDB)]; exact e), st n2 (M25.trans M56) (fun a ha o e => by rw [upd_ne (hSD a ha)]; exact b5.1 _ _ (hS a ha).1 (b4.1 _ _ (hS a ha).1 (s3 _ _ e))), hd3, by rw [← eys]; simp, M2.trans (M25.trans M56)⟩
  · left
    have e : i = xs.length := by omega
    subst e
    rw [List.drop_length] at hd
    cases hd
    refine ⟨ok1 (Nat.le_refl _), ?_⟩
    rw [List.append_nil] at eys
    subst eys
    exact k D H2 (b1.trans b2) q2 (b1.none nD) nDm ⟨acc, hD, rl, by omega⟩
theorem coll_of {α β : Type} {f : α → Option (Option β)} : ∀ {xs : List α} {ys : List β}, colP f xs = some ys → coll (fun a (_ : Unit) => (f a).map fun y => (y, ())) xs () = some (ys, ())
  | [], _, h => by cases h; rfl
  | a :: as, ys, h => by
    obtain ⟨u, hu, h⟩ := bind_inv h
    obtain ⟨z, hz, h⟩ := bind_inv h
    cases h
    show ((f a).map fun y => (y, ())).bind _ = _
    rw [hu]
    show ((coll _ as ()).bind _) = _
    rw [coll_of hz]
    rfl
theorem en_lc {wi : TI} {g : TG} {tt : TT} {vs : List Nat} {xs : List α} {ys : List β} {f : α → Option (Option β)} (W : Wd B ms H0) (hq : Sb B q) (hl : xs.length ≤ sizeLine) (hi : Ej B ms wi σ H0 p xs q) (hc : colP f xs = some ys)
    (hb : ∀ (ms' : Ms) (H : Hp) (y : α) (v : V) (r : Option β), Lt B ms H0 ms' H → q ms' H → rp ms' H v y → f y = some r → ∃ σ2, Bnd g v (wipe σ vs) H σ2 ∧ wipe σ2 vs = wipe σ vs ∧ ∃ c, Et B ms' tt σ2 H q c q ∧ (c = false → r = none) ∧ (c = true → ∃ u, r = some u ∧ Ex B ms' te σ2 H q u q)) :
    En B ms (tLc wi g tt te vs) σ H0 p ys q :=
  en_lcS (P := fun _ => q) W (fun _ => hq) hl hi (coll_of hc) fun ms' H y v r x x' L hp rv hf => by
    obtain ⟨r', hr, e⟩ := Option.map_eq_some_iff.mp hf
    obtain rfl : r' = r := congrArg Prod.fst e
    obtain ⟨σ2, b1, b2, c, h1, h2, h3⟩ := hb ms' H y v _ L hp rv hr
    exact ⟨σ2, b1, b2, c, q, h1, fun e => ⟨h2 e, fun _ z => z⟩, h3⟩
/-! two clauses -/
def col2 {α γ β : Type} (g : α → Option (List γ)) (f : α → γ → Option (Option β)) : List α → Option (List β)
  | [] => some []
  | a :: as => (g a).bind fun cs => (colP (f a) cs).bind fun ys => (col2 g f as).bind fun z => some (ys ++ z)
theorem colP_len {α β : Type} {f : α → Option (Option β)} {xs : List α} {ys : List β} (h : colP f xs = some ys) : ys.length ≤ xs.length := coll_len (coll_of h)
theorem en_lc2 {wi wi1 : TI} {g g1 : TG} {vs vs1 : List Nat} {xs : List α} {ys : List β} {gg : α → Option (List γ)} {f : α → γ → Option (Option β)} (W : Wd B ms H0) (hq : Sb B q) (hi : Ei B ms wi σ H0 p xs q) (hc : col2 gg f xs = some ys) (hl : ys.length ≤ sizeLine)
    (hb : ∀ (ms' : Ms) (H : Hp) (y : α) (v : V) (cs : List γ), Lt B ms H0 ms' H → q ms' H → rp ms' H v y → gg y = some cs → ∃ σ2, Bnd g v (wipe σ vs) H σ2 ∧ wipe σ2 vs = wipe σ vs ∧ Ei B ms' wi1 σ2 H q cs q ∧
      ∀ (ms' : Ms) (H : Hp) (c : γ) (u : V) (r : Option β), Lt B ms H0 ms' H → q ms' H → rp ms' H v y → rp ms' H u c → f y c = some r → ∃ σ3, Bnd g1 u (wipe σ2 vs1) H σ3 ∧ wipe σ3 vs1 = wipe σ2 vs1 ∧ ∃ z, r = some z ∧ Ex B ms' te σ3 H q z q) :
    En B ms (tLc2 wi g tYes wi1 g1 tYes te vs vs1) σ H0 p ys q := fun H b hp Q k => by
  refine r_lc2 (hi H b hp _ fun J N H1 b1 q1 st n1 ok D nD => ?_)
  have W1 := (W.bu b).bu b1
  have nDm : D ∉ ms := W1.al.not nD
  have nDB : D ∉ B := fun z => nDm (W.hB D z)
  have s1 := same_upd (o := .lst []) nD
  refine ⟨fun i m H => m = xs.length - i ∧ i ≤ xs.length ∧ ∃ acc ys1 ys2, H D = some (.lst acc) ∧ RL (rp (D :: ms) H) acc ys1 ∧ Bu B H1 H ∧ q (D :: ms) H ∧ N (D :: ms) H ∧ col2 gg f (xs.drop i) = some ys2 ∧ ys1 ++ ys2 = ys ∧ Mv ms H1 (D :: ms) H,
    ⟨xs.length, by simp, Nat.zero_le _, [], [], ys, upd_same, trivial, Bu.same s1, hq _ _ _ _ q1 (Mv.new nD s1) (fun a ha o e => s1 a o e), st.mv n1 (Mv.new nD s1), hc, rfl, Mv.new nD s1⟩, ?_⟩
  rintro i m H2 ⟨rfl, hi, acc, ys1, ys2, hD, rl, b2, q2, n2, hd, eys, M2⟩
  have al2 : Al (D :: ms) H2 := (W1.al.bu b2).cons hD
  obtain ⟨ok1, ok2⟩ := ok i _ H2 n2 al2
  have hB' : ∀ a ∈ B, a ∈ D :: ms := fun a ha => List.mem_cons_of_mem _ (W.hB a ha)
  by_cases hlt : i < xs.length
  · right
    have ex := List.getElem?_eq_getElem hlt
    generalize xs[i] = y at ex
    obtain ⟨go, yld⟩ := ok2 y ex
    rw [drop_get ex] at hd
    obtain ⟨cs, hg, hd⟩ := bind_inv hd
    obtain ⟨zs, hf, hd⟩ := bind_inv hd
    obtain ⟨ys3, hd3, hd⟩ := bind_inv hd
    cases hd
    refine ⟨go, fun H' => xs.length - (i + 1) = xs.length - (i + 1) ∧ i + 1 ≤ xs.length ∧ ∃ acc ys1 ys2, H' D = some (.lst acc) ∧ RL (rp (D :: ms) H') acc ys1 ∧ Bu B H1 H' ∧ q (D :: ms) H' ∧ N (D :: ms) H' ∧ col2 gg f (xs.drop (i + 1)) = some ys2 ∧ ys1 ++ ys2 = ys ∧ Mv ms H1 (D :: ms) H', fun H' h => ⟨_, by omega, h⟩, fun v H3 hy => ?_⟩
    obtain ⟨s3, rv⟩ := yld v H3 hy
    have W3 : Wd B (D :: ms) H3 := ⟨hB', al2.same s3⟩
    have M3 : Mv ms H1 (D :: ms) H3 := M2.trans (Mv.same s3)
    have bb : Bu B H0 H3 := ((b.trans b1).trans b2).trans (Bu.same s3)
    have L3 : Lt B ms H0 (D :: ms) H3 := ⟨W3, (Mv.bu W.hB (b.trans b1)).trans M3, bb.1⟩
    have q3 := hq.same s3 q2
    obtain ⟨σ2, bd, ew, hi1, hb1⟩ := hb _ H3 y v cs L3 q3 rv hg
    refine bd _ ⟨ew, ?_⟩
    refine r_yes ?_
    refine iteT ?_
    refine hi1 H3 (Bu.refl B H3) q3 _ fun J1 N1 H4 b4 q4 st1 n4 ok1' => ?_
    have hD4 : H4 D = some (.lst acc) := b4.1 _ _ nDB (s3 _ _ hD)
    have M24 : Mv (D :: ms) H2 (D :: ms) H4 := (Mv.same s3).trans (Mv.bu hB' b4)
    refine ⟨fun j m H => m = cs.length - j ∧ j ≤ cs.length ∧ ∃ acc yz1 yz2, H D = some (.lst acc) ∧ RL (rp (D :: ms) H) acc (ys1 ++ yz1) ∧ Bu B H1 H ∧ q (D :: ms) H ∧ N1 (D :: ms) H ∧ colP (f y) (cs.drop j) = some yz2 ∧ yz1 ++ yz2 = zs ∧ Mv (D :: ms) H4 (D :: ms) H,
      ⟨cs.length, by simp, Nat.zero_le _, acc, [], zs, hD4, by rw [List.append_nil]; exact rl.imp fun _ _ z => Rp.mv z M24, (b2.trans (Bu.same s3)).trans b4, q4, n4, hf, rfl, Mv.refl⟩, ?_⟩
    rintro j m H5 ⟨rfl, hj, acc5, yz1, yz2, hD5, rl5, b5, q5, n5, hd5, eyz, M5⟩
    have al5 : Al (D :: ms) H5 := (W1.al.bu b5).cons hD5
    obtain ⟨ok3, ok4⟩ := ok1' j _ H5 n5 al5
    by_cases hlt5 : j < cs.length
    · right
      have ex5 := List.getElem?_eq_getElem hlt5
      generalize cs[j] = c at ex5
      obtain ⟨go5, yld5⟩ := ok4 c ex5
      rw [drop_get ex5] at hd5
      obtain ⟨r, hf5, hd5⟩ := bind_inv hd5
      obtain ⟨ws, hd6, hd5⟩ := bind_inv hd5
      cases hd5
      refine ⟨go5, fun H' => cs.length - (j + 1) = cs.length - (j + 1) ∧ j + 1 ≤ cs.length ∧ ∃ acc yz1 yz2, H' D = some (.lst acc) ∧ RL (rp (D :: ms) H') acc (ys1 ++ yz1) ∧ Bu B H1 H' ∧ q (D :: ms) H' ∧ N1 (D :: ms) H' ∧ colP (f y) (cs.drop (j + 1)) = some yz2 ∧ yz1 ++ yz2 = zs ∧ Mv (D :: ms) H4 (D :: ms) H', fun H' h => ⟨_, by omega, h⟩, fun u H6 hy6 => ?_⟩
      obtain ⟨s6, ru⟩ := yld5 u H6 hy6
      have W6 : Wd B (D :: ms) H6 := ⟨hB', al5.same s6⟩
      have M46 : Mv (D :: ms) H4 (D :: ms) H6 := M5.trans (Mv.same s6)
      have M36 : Mv (D :: ms) H3 (D :: ms) H6 := (Mv.bu hB' b4).trans M46
      have b16 : Bu B H1 H6 := b5.trans (Bu.same s6)
      have L6 : Lt B ms H0 (D :: ms) H6 := ⟨W6, ((Mv.bu W.hB (b.trans b1)).trans M3).trans M36, ((b.trans b1).trans b16).1⟩
      have q6 := hq.same s6 q5
      obtain ⟨σ3, bd6, ew6, z, rfl, he⟩ := hb1 _ H6 c u r L6 q6 (Rp.mv rv M36) ru hf5
      refine bd6 _ ⟨ew6, ?_⟩
      refine r_yes ?_
      refine iteT ?_
      refine he H6 (Bu.refl B H6) q6 _ fun u2 H7 b7 q7 r7 => ?_
      have hD7 : H7 D = some (.lst acc5) := b7.1 _ _ nDB (s6 _ _ hD5)
      have M57 : Mv (D :: ms) H5 (D :: ms) H7 := (Mv.same s6).trans (Mv.bu hB' b7)
      have M78 : Mv (D :: ms) H7 (D :: ms) (upd H7 D (.lst (acc5 ++ [u2]))) := Mv.but (m := D) (by simp) But.upd
      have ll : acc5.length < sizeLine := by
        have h1 := rl5.len
        have h2 : ys.length = ys1.length + (yz1.length + (1 + ws.length)) + ys3.length := by
          rw [← eys, ← eyz]
          simp
          omega
        rw [List.length_append] at h1
        omega
      refine ⟨acc5, hD7, ll, rfl, hlt5, acc5 ++ [u2], yz1 ++ [z], ws, upd_same, by rw [← List.append_assoc]; exact RL.snoc (rl5.imp fun _ _ z => Rp.mv z (M57.trans M78)) (Rp.mv r7 M78),
        Bu.own (b16.trans b7) nD But.upd upd_same, hq _ _ _ _ q7 M78 (fun a ha o e => by rw [upd_ne (nab ha nDB)]; exact e), st1.mv n5 (M57.trans M78), hd6, by rw [← eyz]; simp, M5.trans (M57.trans M78)⟩
    · left
      have e : j = cs.length := by omega
      subst e
      rw [List.drop_length] at hd5
      cases hd5
      rw [List.append_nil] at eyz
      subst eyz
      refine ⟨ok3 (Nat.le_refl _), rfl, hlt, acc5, ys1 ++ yz1, ys3, hD5, rl5, b5, q5, st.mv n2 (M24.trans M5), hd3, by rw [← eys, List.append_assoc], M2.trans (M24.trans M5)⟩
  · left
    have e : i = xs.length := by omega
    subst e
    rw [List.drop_length] at hd
    cases hd
    rw [List.append_nil] at eys
    subst eys
    exact ⟨ok1 (Nat.le_refl _), k D H2 (b1.trans b2) q2 (b1.none nD) nDm ⟨acc, hD, rl, by rw [rl.len]; exact hl⟩⟩
/-! sorted -/
def kQ (H : Hp) : V → Int × Int
  | .ref t => match H t with
    | some (.tup [.int i, .int j]) => (i, j)
    | _ => (0, 0)
  | _ => (0, 0)
theorem kQ_of {H : Hp} {v : V} {x : Int × Int} (h : rp ms H v x) : kQ H v = x ∧ ∃ t, v = .ref t ∧ H t = some (.tup [.int (kQ H v).1, .int (kQ H v).2]) := by
  obtain ⟨a, u, w, rfl, n, e, r1, r2⟩ := h
  have r1' : u = .int x.1 := r1
  have r2' : w = .int x.2 := r2
  subst r1' r2'
  have ek : kQ H (.ref a) = x := by unfold kQ; dsimp only; rw [e]
  exact ⟨ek, a, rfl, by rw [ek]; exact e⟩
theorem kQ_map {H : Hp} : ∀ {vs : List V} {xs : List (Int × Int)}, RL (rp ms H) vs xs → vs.map (kQ H) = xs
  | [], [], _ => rfl
  | _ :: _, _ :: _, ⟨a, b⟩ => by rw [List.map_cons, (kQ_of a).1, kQ_map b]
theorem kQ_mem {H : Hp} : ∀ {vs : List V} {xs : List (Int × Int)}, RL (rp ms H) vs xs → ∀ v ∈ vs, rp ms H v (kQ H v)
  | [], [], _, v, h => by simp at h
  | v :: _, x :: _, ⟨a, b⟩, u, h => by
    obtain rfl | h := List.mem_cons.mp h
    · rw [(kQ_of a).1]; exact a
    · exact kQ_mem b u h
theorem rl_map {β : Type} {r : V → β → Prop} {f : V → β} : ∀ {vs : List V}, (∀ v ∈ vs, r v (f v)) → RL r vs (vs.map f)
  | [], _ => trivial
  | v :: vs, h => ⟨h v List.mem_cons_self, rl_map fun u hu => h u (List.mem_cons_of_mem _ hu)⟩
def lexB (a b : Int × Int) : Bool := decide (a.1 < b.1 ∨ (a.1 = b.1 ∧ a.2 ≤ b.2))
def sortP (xs : List (Int × Int)) : List (Int × Int) := xs.mergeSort lexB
def sortI (xs : List Int) : List Int := xs.mergeSort fun a b => decide (a ≤ b)
theorem sortP_perm (xs : List (Int × Int)) : (sortP xs).Perm xs := List.mergeSort_perm xs lexB
theorem sortI_perm (xs : List Int) : (sortI xs).Perm xs := List.mergeSort_perm xs _
theorem sortP_srt (xs : List (Int × Int)) : (sortP xs).Pairwise LexLe := by
  have := List.pairwise_mergeSort (le := lexB) (fun a b c => by unfold lexB; simp only [decide_eq_true_eq]; omega) (fun a b => by unfold lexB; simp only [Bool.or_eq_true, decide_eq_true_eq]; omega) xs
  refine this.imp fun {a b} h => ?_
  unfold lexB at h
  unfold LexLe
  simpa using h
theorem sortI_srt (xs : List Int) : (sortI xs).Pairwise (· ≤ ·) := by
  have := List.pairwise_mergeSort (le := fun a b : Int => decide (a ≤ b)) (fun a b c => by simp only [decide_eq_true_eq]; omega) (fun a b => by simp only [Bool.or_eq_true, decide_eq_true_eq]; omega) xs
  exact this.imp fun {a b} h => by simpa using h
theorem sortP_eq {xs ys : List (Int × Int)} (h : ys.Perm xs) (s : ys.Pairwise LexLe) : ys = sortP xs := lex_uniq s (sortP_srt xs) (h.trans (sortP_perm xs).symm)
theorem sortI_eq {xs ys : List Int} (h : ys.Perm xs) (s : ys.Pairwise (· ≤ ·)) : ys = sortI xs := List.Perm.eq_of_pairwise (fun a b _ _ h1 h2 => by omega) s (sortI_srt xs) (h.trans (sortI_perm xs).symm)
theorem en_sortP {xs : List (Int × Int)} (W : Wd B ms H0) (hq : Sb B q) (h : El B ms te σ H0 p xs q) : En B ms (tCB (rSortedPO K) (tCons te tNil)) σ H0 p (sortP xs) q := fun H b hp Q k => h H b hp _ fun a H1 b1 q1 na ⟨vs, e, rl, l⟩ => by
  have hk := kQ_mem rl
  refine ⟨a, vs, kQ H1, rfl, SqL.of e, fun x hx => (kQ_of (hk x hx)).2, fun ys t srt stb nt => ?_⟩
  have s := same_upd (o := .lst ys) nt
  have e2 : ys.map (kQ H1) = sortP xs := by
    refine sortP_eq ?_ ?_
    · have := stb.perm.map (kQ H1)
      rw [kQ_map rl] at this
      exact this
    · rw [List.pairwise_map]
      refine srt.imp fun {x y} h => ?_
      have := SrtO.lexB_no.mp h
      unfold LexLe
      omega
  refine k _ _ (b1.trans (Bu.same s)) (hq.new nt s q1) (b1.none nt) (((W.al.bu b).bu b1).not nt) (ls_new nt ?_ (by rw [stb.perm.length_eq]; exact l))
  rw [← e2]
  exact rl_map fun y hy => hk y (stb.perm.mem_iff.mp hy)
theorem en_sortI {xs : List Int} (W : Wd B ms H0) (hq : Sb B q) (h : El B ms te σ H0 p xs q) : En B ms (tCB (rSortedI K) (tCons te tNil)) σ H0 p (sortI xs) q := fun H b hp Q k => h H b hp _ fun a H1 b1 q1 na ⟨vs, e, rl, l⟩ => by
  have ev := rl.ints fun _ _ h => h
  rw [ev] at e
  refine ⟨a, xs, rfl, SqL.of e, fun ys t pm so nt => ?_⟩
  have s := same_upd (o := .lst (ys.map V.int)) nt
  rw [← sortI_eq pm so] at k
  refine k _ _ (b1.trans (Bu.same s)) (hq.new nt s q1) (b1.none nt) (((W.al.bu b).bu b1).not nt) (ls_new nt (RL.of_map (f := V.int) (fun _ => rfl) _) ?_)
  rw [List.length_map, pm.length_eq, ← rl.len]
  exact l
/-! ### statements -/
theorem mv_newB {H H' : Hp} {a : Addr} (W : Wd B ms H) (b : Bu B H H') (na : H a = none) : Mv ms H (a :: ms) H' := fun c o n e => ⟨fun z => by
  obtain z | z := List.mem_cons.mp z
  · rw [z, na] at e; cases e
  · exact n z, b.1 c o (fun z => n (W.hB c z)) e⟩
theorem Wd.new {H H' : Hp} {a : Addr} (W : Wd B ms H) (b : Bu B H H') (ha : H' a ≠ none) : Wd B (a :: ms) H' := ⟨fun c hc => List.mem_cons_of_mem _ (W.hB c hc), fun c hc => by
  obtain z | z := List.mem_cons.mp hc
  · rw [z]; exact ha
  · exact W.al.bu b c z⟩
/-- x = a new list that will change -/
theorem En.mk {H : Hp} {xs : List α} {Q : VK} (W : Wd B ms H) (h : En B ms te σ H p xs q) (hp : p ms H) (k : ∀ a H', Bu B H H' → H a = none → q (a :: ms) H' → Wd B (a :: ms) H' → Mv ms H (a :: ms) H' → Ls (a :: ms) H' a xs → Q (.ref a) H') : te σ H Q :=
  h H (Bu.refl B H) hp _ fun a H1 b1 q1 na nm l => k a H1 b1 na q1 (W.new b1 l.alive) (mv_newB W b1 na) l
theorem Ex.go {H : Hp} {Q : VK} (W : Wd B ms H) (h : Ex B ms te σ H p x q) (hp : p ms H) (k : ∀ v H', Bu B H H' → q ms H' → Wd B ms H' → Mv ms H ms H' → rp ms H' v x → Q v H') : te σ H Q := h.use hp fun v H1 b1 q1 r1 => k v H1 b1 q1 (W.bu b1) (W.mv b1) r1
theorem Et.go {tt : TT} {c : Bool} {H : Hp} {R : Bool → Hp → Prop} (W : Wd B ms H) (h : Et B ms tt σ H p c q) (hp : p ms H) (k : ∀ H', Bu B H H' → q ms H' → Wd B ms H' → Mv ms H ms H' → R c H') : tt σ H R := h.use hp fun H1 b1 q1 => k H1 b1 q1 (W.bu b1) (W.mv b1)
/-- xs.append(e) -/
theorem s_app {H : Hp} {Q : VK} {i : Nat} {m : Addr} {xs ys : List α} {ts : TA} {T : String} (hT : T = "list") (W : Wd B ms H) (hs : σ[i]? = some (some (.ref m))) (l : Ls ms H m xs) (hm : m ∈ ms) (nB : m ∉ B) (hq : Sb B q) (h : Ea B ms ts σ H p (x, ()) q) (hp : p ms H) (e : appF xs x = some ys)
    (k : ∀ H', Bu (m :: B) H H' → q ms H' → Wd B ms H' → Mv ms H ms H' → Ls ms H' m ys → Q .non H') : tBM K T rAppend (tVar i) ts σ H Q := by
  subst hT
  obtain ⟨vs, ev, rl, ll⟩ := l
  refine r_bm ⟨_, hs, ty_lst ev, h H (Bu.refl B H) hp _ fun us H1 b1 q1 e1 => ?_⟩
  obtain ⟨v1, _, rfl, r1, e0⟩ := e1
  have e0' : _ = [] := e0
  subst e0'
  unfold appF at e
  split at e
  · rename_i hl
    cases e
    have ev1 := b1.1 _ _ nB ev
    have hl' : vs.length < sizeLine := by rw [rl.len]; exact hl
    refine r_app ev1 hl' fun H2 h2 u2 => ?_
    have W1 := W.bu b1
    have M : Mv ms H ms H2 := (W.mv b1).trans (Mv.but hm u2)
    refine k H2 ⟨fun a o n e => ?_, fun a e => (W1.al.but u2 h2 |> fun _ => ?_)⟩ ?_ ⟨W.hB, W1.al.but u2 h2⟩ M ⟨vs ++ [v1], h2, RL.snoc (rl.imp fun _ _ z => Rp.mv z M) (Rp.mv r1 (Mv.but hm u2)), by rw [List.length_append]; simp; omega⟩
    · have n' := notc n
      exact u2 _ _ n'.1 (b1.1 _ _ n'.2 e)
    · by_cases qm : a = m
      · rw [qm, h2]; exact fun z => by cases z
      · have := b1.2 a e
        cases h' : H1 a with
        | none => exact absurd h' this
        | some o' => rw [u2 a o' qm h']; exact fun z => by cases z
    · exact hq _ _ _ _ q1 (Mv.but hm u2) fun a ha o e => u2 _ _ (nab ha nB) e
  · cases e
/-- xs[i] = e -/
theorem s_setix {H : Hp} {i : Nat} {m : Addr} {xs ys : List α} {j : Int} {R : St → Hp → Prop} (W : Wd B ms H) (hs : σ[i]? = some (some (.ref m))) (l : Ls ms H m xs) (hm : m ∈ ms) (nB : m ∉ B) (hr : Sb B r) (h1 : Ex B ms te σ H p x q) (h2 : Ex B ms tb σ H q j r) (hp : p ms H) (e : setF xs j x = some ys)
    (k : ∀ H', Bu (m :: B) H H' → r ms H' → Wd B ms H' → Mv ms H ms H' → Ls ms H' m ys → R σ H') : te σ H (fun v H1 => gSub (tVar i) tb rSetL v σ H1 R) := by
  refine h1.use hp fun v H1 b1 q1 r1 => ?_
  refine r_gsub ⟨_, hs, h2 H1 b1 q1 _ fun u H2 b2 q2 r2 => ?_⟩
  obtain ⟨vs, ev, rl, ll⟩ := l
  have e2 : u = .int j := r2
  subst e2
  obtain ⟨n, en, ee⟩ := Option.bind_eq_some_iff.mp e
  cases ee
  have b12 := b1.trans b2
  have ev2 := b12.1 _ _ nB ev
  refine r_setL ev2 (j := n) (by rw [rl.len]; exact en) fun H3 h3 u3 => ?_
  have W2 := W.bu b12
  have M : Mv ms H ms H3 := (W.mv b12).trans (Mv.but hm u3)
  refine k H3 ⟨fun a o n e => ?_, fun a e => ?_⟩ ?_ ⟨W.hB, W2.al.but u3 h3⟩ M ⟨vs.set n v, h3, RL.set (rl.imp fun _ _ z => Rp.mv z M) (Rp.mv (Rp.mv r1 (Mv.bu W.hB b2)) (Mv.but hm u3)), by rw [List.length_set]; exact ll⟩
  · have n' := notc n
    exact u3 _ _ n'.1 (b12.1 _ _ n'.2 e)
  · by_cases qm : a = m
    · rw [qm, h3]; exact fun z => by cases z
    · have := b12.2 a e
      cases h' : H2 a with
      | none => exact absurd h' this
      | some o' => rw [u3 a o' qm h']; exact fun z => by cases z
  · exact hr _ _ _ _ q2 (Mv.but hm u3) fun a ha o e => u3 _ _ (nab ha nB) e
theorem Bu.own2 {H H' H'' : Hp} {m : Addr} (x : Bu B H H') (n : H m = Option.none) (y : Bu (m :: B) H' H'') : Bu B H H'' := ⟨fun a o na e => y.1 a o (fun z => by
  obtain z | z := List.mem_cons.mp z
  · rw [z, n] at e; cases e
  · exact na z) (x.1 a o na e), fun a e => y.2 a (x.2 a e)⟩
theorem Bu.own3 {H H' H'' : Hp} {m n : Addr} (x : Bu B H H') (hm : H m = Option.none) (hn : H n = Option.none) (y : Bu (m :: n :: B) H' H'') : Bu B H H'' := ⟨fun a o na e => y.1 a o (fun z => by
  obtain z | z := List.mem_cons.mp z
  · rw [z, hm] at e; cases e
  obtain z | z := List.mem_cons.mp z
  · rw [z, hn] at e; cases e
  · exact na z) (x.1 a o na e), fun a e => y.2 a (x.2 a e)⟩
theorem Sb.bu {H H' : Hp} (hq : Sb B q) (W : Wd B ms H) (s : Same H H') (z : q ms H) : q ms H' := hq.same s z
/-! loops -/
theorem r_for {wi : TI} {g : TG} {tb : TS} {D : Ends} {H : Hp} {xs : List α} (W : Wd B ms H) (hi : Ei B ms wi σ H p xs q) (hp : p ms H) (k : ∀ J N H1, Bu B H H1 → q ms H1 → Wd B ms H1 → Mv ms H ms H1 → NSt N → N ms H1 → ItOk J N xs → WkS J D.nx (fun y s h2 B => g y s h2 (tb { D with nx := B, ct := B, bk := D.nx })) σ H1) : tFor wi g tb D σ H :=
  r_forS (hi H (Bu.refl B H) hp _ fun J N H1 b1 q1 st n1 ok => k J N H1 b1 q1 (W.bu b1) (W.mv b1) st n1 ok)
theorem wk_fold {s : Type} {g : TG} {tb : TS} {D : Ends} {H : Hp} {xs : List α} {J : It} {N : Hq} {f : α → s → Option s} {x0 out : s} (ok : ItOk J N xs) (hm : fold f xs x0 = some out) (I : s → St → Hp → Prop) (h0 : I x0 σ H) (hN : ∀ x σ H, I x σ H → N ms H ∧ Al ms H)
    (hs : ∀ a v x x' σ H H1, I x σ H → Same H H1 → rp ms H1 v a → f a x = some x' → g v σ H1 fun σ2 H2 => tb { D with nx := I x', ct := I x', bk := D.nx } σ2 H2) (hd : ∀ σ H, I out σ H → D.nx σ H) :
    WkS J D.nx (fun y s h2 B => g y s h2 (tb { D with nx := B, ct := B, bk := D.nx })) σ H := by
  refine ⟨fun i m σ H => m = xs.length - i ∧ i ≤ xs.length ∧ ∃ x, I x σ H ∧ fold f (xs.drop i) x = some out, ⟨xs.length, by simp, Nat.zero_le _, x0, h0, hm⟩, ?_⟩
  rintro i m σ H ⟨rfl, hi, x, hI, hf⟩
  obtain ⟨n1, al⟩ := hN _ _ _ hI
  obtain ⟨ok1, ok2⟩ := ok i ms H n1 al
  by_cases hlt : i < xs.length
  · right
    have ex := List.getElem?_eq_getElem hlt
    generalize xs[i] = y at ex
    obtain ⟨go, yld⟩ := ok2 y ex
    rw [drop_get ex] at hf
    obtain ⟨x', h1, hf⟩ := bind_inv hf
    refine ⟨go, I x', fun σ' H' h => ⟨_, by omega, rfl, hlt, x', h, hf⟩, fun v H1 hy => ?_⟩
    obtain ⟨s1, rv⟩ := yld v H1 hy
    exact hs y v x x' σ H H1 hI s1 rv h1
  · left
    have e : i = xs.length := by omega
    subst e
    rw [List.drop_length] at hf
    cases hf
    exact ⟨ok1 (Nat.le_refl _), hd σ H hI⟩
theorem wk_loop {s ρ : Type} {g : TG} {tb : TS} {D : Ends} {H : Hp} {xs : List α} {J : It} {N : Hq} {f : α → s → Option (Fl ρ s)} {x0 : s} {out : Fl ρ s} (ok : ItOk J N xs) (hm : loop f xs x0 = some out) (I : s → St → Hp → Prop) (h0 : I x0 σ H) (hN : ∀ x σ H, I x σ H → N ms H ∧ Al ms H)
    (hs : ∀ a v x fl σ H H1, I x σ H → Same H H1 → rp ms H1 v a → f a x = some fl → (∀ r, fl = .ret r → out = .ret r) → g v σ H1 fun σ2 H2 => tb { D with nx := fun σ' H' => ∃ x', fl = .go x' ∧ I x' σ' H', ct := fun σ' H' => ∃ x', fl = .go x' ∧ I x' σ' H', bk := D.nx } σ2 H2)
    (hd : ∀ x σ H, out = .go x → I x σ H → D.nx σ H) :
    WkS J D.nx (fun y s h2 B => g y s h2 (tb { D with nx := B, ct := B, bk := D.nx })) σ H := by
  refine ⟨fun i m σ H => m = xs.length - i ∧ i ≤ xs.length ∧ ∃ x, I x σ H ∧ loop f (xs.drop i) x = some out, ⟨xs.length, by simp, Nat.zero_le _, x0, h0, hm⟩, ?_⟩
  rintro i m σ H ⟨rfl, hi, x, hI, hf⟩
  obtain ⟨n1, al⟩ := hN _ _ _ hI
  obtain ⟨ok1, ok2⟩ := ok i ms H n1 al
  by_cases hlt : i < xs.length
  · right
    have ex := List.getElem?_eq_getElem hlt
    generalize xs[i] = y at ex
    obtain ⟨go, yld⟩ := ok2 y ex
    rw [drop_get ex] at hf
    obtain ⟨fl, h1, hf⟩ := bind_inv hf
    refine ⟨go, fun σ' H' => ∃ x', fl = .go x' ∧ I x' σ' H', fun σ' H' ⟨x', e, h⟩ => ?_, fun v H1 hy => ?_⟩
    · subst e
      exact ⟨_, by omega, rfl, hlt, x', h, hf⟩
    · obtain ⟨s1, rv⟩ := yld v H1 hy
      refine hs y v x fl σ H H1 hI s1 rv h1 fun r e => ?_
      subst e
      cases hf
      rfl
  · left
    have e : i = xs.length := by omega
    subst e
    rw [List.drop_length] at hf
    cases hf
    exact ⟨ok1 (Nat.le_refl _), hd _ σ H rfl hI⟩
def whl {s ρ : Type} (c : s → Option Bool) (f : s → Option (Fl ρ s)) : Nat → s → Option (Fl ρ s)
  | 0, _ => none
  | n + 1, x => (c x).bind fun b => if b = true then (f x).bind fun y => match y with | .ret r => some (.ret r) | .go z => whl c f n z else some (.go x)
theorem wk_while {s ρ : Type} {tc : TT} {tb : TS} {D : Ends} {H : Hp} {c : s → Option Bool} {f : s → Option (Fl ρ s)} {m : Nat} {x0 : s} {out : Fl ρ s} (hm : whl c f m x0 = some out) (I : s → St → Hp → Prop) (h0 : I x0 σ H)
    (ht : ∀ x t σ H, I x σ H → c x = some t → ∀ R : Bool → Hp → Prop, (∀ H', I x σ H' → R t H') → tc σ H R)
    (hs : ∀ x fl σ H, I x σ H → f x = some fl → (∀ r, fl = .ret r → out = .ret r) → tb { D with nx := fun σ' H' => ∃ x', fl = .go x' ∧ I x' σ' H', ct := fun σ' H' => ∃ x', fl = .go x' ∧ I x' σ' H', bk := D.nx } σ H)
    (hd : ∀ x σ H, out = .go x → I x σ H → D.nx σ H) : tWhile tc tb D σ H := by
  refine ⟨fun n σ H => ∃ x, I x σ H ∧ whl c f n x = some out, ⟨m, x0, h0, hm⟩, ?_⟩
  rintro n σ H ⟨x, hI, hw⟩
  cases n with
  | zero => cases hw
  | succ n =>
    obtain ⟨t, hc, hw⟩ := bind_inv hw
    refine ht x t σ H hI hc _ fun H' hI' => ?_
    cases t with
    | false =>
      rw [if_neg (by decide)] at hw ⊢
      exact hd x σ H' (Option.some.inj hw).symm hI'
    | true =>
      rw [if_pos rfl] at hw ⊢
      obtain ⟨fl, hf, hw⟩ := bind_inv hw
      refine ⟨_, ?_, hs x fl σ H' hI' hf fun r e => ?_⟩
      · rintro σ' H2 ⟨x', rfl, hI2⟩
        exact ⟨n, Nat.lt_succ_self n, x', hI2, hw⟩
      · subst e
        exact (Option.some.inj hw).symm
def popF {α : Type} (xs : List α) (i : Int) : Option (α × List α) := if -(2 ^ 63) ≤ i ∧ i < 2 ^ 63 then (ixN xs.length i).bind fun j => (xs[j]?).map fun y => (y, xs.eraseIdx j) else none
def remF (xs : List Int) (x : Int) : Option (List Int) := if x ∈ xs then some (xs.erase x) else none
def insF {α : Type} (xs : List α) (i : Int) (x : α) : Option (List α) := if xs.length < sizeLine ∧ 0 ≤ i ∧ i < 2 ^ 63 then some (xs.take i.toNat ++ [x] ++ xs.drop i.toNat) else none
/-- a list that may change is given another content -/
theorem chg {H H1 : Hp} {m : Addr} {ys : List α} {vs us : List V} (W : Wd B ms H) (hm : m ∈ ms) (nB : m ∉ B) (hq : Sb B q) (b1 : Bu B H H1) (q1 : q ms H1) (ev : H m = some (.lst vs)) (rl : RL (rp ms H1) us ys) (hl : us.length ≤ sizeLine) :
    let H2 := upd H1 m (.lst us)
    Bu (m :: B) H H2 ∧ q ms H2 ∧ Wd B ms H2 ∧ Mv ms H ms H2 ∧ Mv ms H1 ms H2 ∧ Ls ms H2 m ys := by
  intro H2
  have u2 : But m H1 H2 := But.upd
  have h2 : H2 m = some (.lst us) := upd_same
  have W1 := W.bu b1
  have M1 : Mv ms H1 ms H2 := Mv.but hm u2
  refine ⟨⟨fun a o n e => ?_, fun a e => ?_⟩, ?_, ⟨W.hB, W1.al.but u2 h2⟩, (W.mv b1).trans M1, M1, us, h2, rl.imp fun _ _ z => Rp.mv z M1, hl⟩
  · have n' := notc n
    exact u2 _ _ n'.1 (b1.1 _ _ n'.2 e)
  · by_cases qm : a = m
    · rw [qm, h2]; exact fun z => by cases z
    · have := b1.2 a e
      cases h' : H1 a with
      | none => exact absurd h' this
      | some o' => rw [u2 a o' qm h']; exact fun z => by cases z
  · exact hq _ _ _ _ q1 M1 fun a ha o e => u2 _ _ (nab ha nB) e
/-- xs.insert(i, e) -/
theorem s_ins {H : Hp} {Q : VK} {i : Nat} {m : Addr} {xs ys : List α} {j : Int} {ts : TA} {T : String} (hT : T = "list") (W : Wd B ms H) (hs : σ[i]? = some (some (.ref m))) (l : Ls ms H m xs) (hm : m ∈ ms) (nB : m ∉ B) (hq : Sb B q) (h : Ea B ms ts σ H p (j, x, ()) q) (hp : p ms H) (e : insF xs j x = some ys)
    (k : ∀ H', Bu (m :: B) H H' → q ms H' → Wd B ms H' → Mv ms H ms H' → Ls ms H' m ys → Q .non H') : tBM K T (fun x vs H Q => ∃ (l : Addr) (xs : List V) (i : Int) (y : V), x = .ref l ∧ vs = [.int i, y] ∧ H l = some (.lst xs) ∧ xs.length < sizeLine ∧ 0 ≤ i ∧ i < 2 ^ 63 ∧ Q .non (upd H l (.lst (xs.take i.toNat ++ [y] ++ xs.drop i.toNat)))) (tVar i) ts σ H Q := by
  subst hT
  obtain ⟨vs, ev, rl, ll⟩ := l
  refine r_bm ⟨_, hs, ty_lst ev, h H (Bu.refl B H) hp _ fun us H1 b1 q1 e1 => ?_⟩
  obtain ⟨v0, _, rfl, r0, v1, _, rfl, r1, e0⟩ := e1
  have e0' : _ = [] := e0
  have r0' : v0 = .int j := r0
  subst e0' r0'
  unfold insF at e
  split at e
  · rename_i hl
    cases e
    have ev1 := b1.1 _ _ nB ev
    have rl1 : RL (rp ms H1) vs xs := rl.imp fun _ _ z => Rp.mv z (W.mv b1)
    obtain ⟨c1, c2, c3, c4, c5, c6⟩ := chg W hm nB hq b1 q1 ev (us := vs.take j.toNat ++ [v1] ++ vs.drop j.toNat) (ys := xs.take j.toNat ++ [x] ++ xs.drop j.toNat) ((rl1.take.snoc r1).app rl1.drop)
      (by have := rl.len; rw [List.length_append, List.length_append, List.length_take, List.length_drop, List.length_singleton]; omega)
    exact ⟨m, vs, j, v1, rfl, rfl, ev1, by rw [rl.len]; exact hl.1, hl.2.1, hl.2.2, k _ c1 c2 c3 c4 c6⟩
  · cases e
/-- e = xs.pop(i) -/
theorem s_pop {H : Hp} {Q : VK} {i : Nat} {m : Addr} {xs ys : List α} {j : Int} {ts : TA} {T : String} (hT : T = "list") (W : Wd B ms H) (hs : σ[i]? = some (some (.ref m))) (l : Ls ms H m xs) (hm : m ∈ ms) (nB : m ∉ B) (hq : Sb B q) (h : Ea B ms ts σ H p (j, ()) q) (hp : p ms H) (e : popF xs j = some (x, ys))
    (k : ∀ v H', Bu (m :: B) H H' → q ms H' → Wd B ms H' → Mv ms H ms H' → Ls ms H' m ys → rp ms H' v x → Q v H') : tBM K T rPopAt (tVar i) ts σ H Q := by
  subst hT
  obtain ⟨vs, ev, rl, ll⟩ := l
  refine r_bm ⟨_, hs, ty_lst ev, h H (Bu.refl B H) hp _ fun us H1 b1 q1 e1 => ?_⟩
  obtain ⟨v1, _, rfl, r1, e0⟩ := e1
  have e0' : _ = [] := e0
  have r1' : v1 = .int j := r1
  subst e0' r1'
  unfold popF at e
  split at e
  · rename_i hl
    obtain ⟨n, en, e⟩ := bind_inv e
    obtain ⟨y, ey, e⟩ := Option.map_eq_some_iff.mp e
    obtain ⟨e2, e3⟩ := Prod.mk.inj e
    subst e2 e3
    have ev1 := b1.1 _ _ nB ev
    have rl1 : RL (rp ms H1) vs xs := rl.imp fun _ _ z => Rp.mv z (W.mv b1)
    obtain ⟨v, hv, rv⟩ := rl1.get' ey
    obtain ⟨c1, c2, c3, c4, c5, c6⟩ := chg W hm nB hq b1 q1 ev (us := vs.eraseIdx n) (ys := xs.eraseIdx n) rl1.erase (Nat.le_trans (List.length_eraseIdx_le vs n) ll)
    exact ⟨m, vs, j, n, v, rfl, rfl, ev1, hl.1, hl.2, by rw [rl.len]; exact (ixN_seq en).1, hv, k _ _ c1 c2 c3 c4 c6 (Rp.mv rv c5)⟩
  · cases e
theorem first_rem : ∀ {xs : List Int} {x : Int}, x ∈ xs → ∃ j, xs[j]? = some x ∧ (∀ m : Nat, m < j → xs[m]? ≠ some x) ∧ xs.erase x = xs.eraseIdx j
  | [], _, h => by cases h
  | y :: ys, x, h => by
    by_cases e : y = x
    · subst e
      exact ⟨0, rfl, fun m hm => absurd hm (Nat.not_lt_zero m), by simp⟩
    · have h' : x ∈ ys := by
        cases h with
        | head => exact absurd rfl e
        | tail _ h => exact h
      obtain ⟨j, h1, h2, h3⟩ := first_rem h'
      refine ⟨j + 1, by simpa using h1, fun m hm => ?_, ?_⟩
      · cases m with
        | zero => simpa using e
        | succ m => simpa using h2 m (by omega)
      · rw [List.erase_cons_tail (by simpa using e), h3]
        rfl
/-- xs.remove(e) -/
theorem s_rem {H : Hp} {Q : VK} {i : Nat} {m : Addr} {xs ys : List Int} {j : Int} {ts : TA} {T : String} (hT : T = "list") (W : Wd B ms H) (hs : σ[i]? = some (some (.ref m))) (l : Ls ms H m xs) (hm : m ∈ ms) (nB : m ∉ B) (hq : Sb B q) (h : Ea B ms ts σ H p (j, ()) q) (hp : p ms H) (e : remF xs j = some ys)
    (k : ∀ H', Bu (m :: B) H H' → q ms H' → Wd B ms H' → Mv ms H ms H' → Ls ms H' m ys → Q .non H') : tBM K T rRemI (tVar i) ts σ H Q := by
  subst hT
  obtain ⟨vs, ev, rl, ll⟩ := l
  refine r_bm ⟨_, hs, ty_lst ev, h H (Bu.refl B H) hp _ fun us H1 b1 q1 e1 => ?_⟩
  obtain ⟨v1, _, rfl, r1, e0⟩ := e1
  have e0' : _ = [] := e0
  have r1' : v1 = .int j := r1
  subst e0' r1'
  unfold remF at e
  split at e
  · rename_i hl
    cases e
    have ev1 := b1.1 _ _ nB ev
    have ei := rl.ints fun _ _ h => h
    subst ei
    obtain ⟨n, h1, h2, h3⟩ := first_rem hl
    obtain ⟨c1, c2, c3, c4, c5, c6⟩ := chg W hm nB hq b1 q1 ev (us := (xs.eraseIdx n).map V.int) (ys := xs.eraseIdx n) (RL.of_map (f := V.int) (fun _ => rfl) _) (by rw [List.length_map]; exact Nat.le_trans (List.length_eraseIdx_le xs n) (by rw [List.length_map] at ll; exact ll))
    rw [h3] at k
    exact ⟨m, xs, j, n, rfl, rfl, ev1, h1, h2, k _ c1 c2 c3 c4 c6⟩
  · cases e
/-- xs.append(ys.pop(e)) -/
theorem s_apppop {H : Hp} {Q : VK} {i i2 : Nat} {m m2 : Addr} {xs ys us ws : List α} {j : Int} {ts : TA} {T T2 : String} (hT : T = "list") (hT2 : T2 = "list") (W : Wd B ms H) (hs : σ[i]? = some (some (.ref m))) (hs2 : σ[i2]? = some (some (.ref m2))) (l : Ls ms H m xs) (l2 : Ls ms H m2 us) (hm : m ∈ ms) (hm2 : m2 ∈ ms) (ne : m2 ≠ m) (nB : m ∉ B) (nB2 : m2 ∉ B) (hq : Sb B q) (h : Ea B ms ts σ H p (j, ()) q) (hp : p ms H) (e : popF xs j = some (x, ys)) (e2 : appF us x = some ws)
    (k : ∀ H', Bu (m2 :: m :: B) H H' → q ms H' → Wd B ms H' → Mv ms H ms H' → Ls ms H' m ys → Ls ms H' m2 ws → Q .non H') : tBM K T2 rAppend (tVar i2) (tCons (tBM K T rPopAt (tVar i) ts) tNil) σ H Q := by
  subst hT2
  obtain ⟨vs2, ev2, rl2, ll2⟩ := id l2
  refine r_bm ⟨_, hs2, ty_lst ev2, s_pop hT W hs l hm nB hq h hp e fun v H1 b1 q1 W1 M1 l1 rv => ?_⟩
  have n2 : m2 ∉ m :: B := nin ne nB2
  have ev3 := b1.1 _ _ n2 ev2
  have l3 := l2.step M1 fun o e => b1.1 _ _ n2 e
  obtain ⟨vs3, ev4, rl3, ll3⟩ := l3
  have e4 : vs3 = vs2 := by
    rw [ev3] at ev4
    cases ev4
    rfl
  subst e4
  unfold appF at e2
  split at e2
  · rename_i hl
    cases e2
    have hl' : vs3.length < sizeLine := by rw [rl3.len]; exact hl
    refine r_app ev3 hl' fun H2 h2 u2 => ?_
    have M2 : Mv ms H1 ms H2 := Mv.but hm2 u2
    refine k H2 ⟨fun a o n e => ?_, fun a e => ?_⟩ ?_ ⟨W.hB, W1.al.but u2 h2⟩ (M1.trans M2) (l1.step M2 fun o e => u2 _ _ (fun z => ne z.symm) e) ⟨vs3 ++ [v], h2, RL.snoc (rl3.imp fun _ _ z => Rp.mv z M2) (Rp.mv rv M2), by rw [List.length_append]; simp; omega⟩
    · have n' := notc n
      exact u2 _ _ n'.1 (b1.1 _ _ n'.2 e)
    · by_cases qm : a = m2
      · rw [qm, h2]; exact fun z => by cases z
      · have := b1.2 a e
        cases h' : H1 a with
        | none => exact absurd h' this
        | some o' => rw [u2 a o' qm h']; exact fun z => by cases z
    · exact hq _ _ _ _ q1 M2 fun a ha o e => u2 _ _ (nab ha nB2) e
  · cases e2
theorem rp_nar {H : Hp} {v : V} {x : Option α} {y : α} (e : x = some y) (h : rp ms H v x) : rp ms H v y := by rw [e] at h; exact h
theorem rp_unnar {H : Hp} {v : V} {x : Option α} {y : α} (e : x = some y) (h : rp ms H v y) : rp ms H v x := by rw [e]; exact h
/-! ### what the generated texts name -/
theorem ex_vi {i : Nat} {n : Int} (hs : σ[i]? = some (some (.int n))) : Ex B ms (tVar i) σ H0 p n p := fun H b hp Q k => ⟨_, hs, k _ H (Bu.refl B H) hp rfl⟩
theorem ex_vb {i : Nat} {n : Bool} (hs : σ[i]? = some (some (.bl n))) : Ex B ms (tVar i) σ H0 p n p := fun H b hp Q k => ⟨_, hs, k _ H (Bu.refl B H) hp rfl⟩
theorem ex_vs {i : Nat} {n : Str} (hs : σ[i]? = some (some (.str n))) : Ex B ms (tVar i) σ H0 p n p := fun H b hp Q k => ⟨_, hs, k _ H (Bu.refl B H) hp rfl⟩
def modF (a m : Int) : Option Int := if 0 < m then some (a % m) else none
def mulF (a m : Int) : Option Int := if -(2 ^ 64) < a ∧ a < 2 ^ 64 then some (a * m) else none
theorem modF_ok {a m t : Int} (h : modF a m = some t) : 0 < m ∧ a % m = t := by
  unfold modF at h
  split at h
  · cases h; exact ⟨by assumption, rfl⟩
  · cases h
theorem mulF_ok {a m t : Int} (h : mulF a m = some t) : CMul a m ∧ a * m = t := by
  unfold mulF at h
  split at h
  · cases h; exact ⟨.inl (by assumption), rfl⟩
  · cases h
theorem et_yes : Et B ms tYes σ H0 p true p := fun H b hp R k => k H (Bu.refl B H) hp
theorem et_chain {te : TE} {c : Bool} (h : Ex B ms te σ H0 p c q) : Et B ms (tTest te) σ H0 p c q := et_test h
theorem ite_by {c : Bool} {A C : Prop} (h1 : c = true → A) (h2 : ¬ c = true → C) : if c = true then A else C := by
  cases c
  · exact h2 (by decide)
  · exact h1 rfl
theorem not_less {a : Addr} {ms ms' : Ms} (n : a ∉ ms) (l : ∀ c, c ∈ ms' → c ∈ ms) : a ∉ ms' := fun z => n (l a z)
theorem bnd_tup2 {H : Hp} {a : Addr} {u w : V} {t1 t2 : TG} {σ1 σ2 : St} (eh : H a = some (.tup [u, w])) (h1 : Bnd t1 u σ H σ1) (h2 : Bnd t2 w σ1 H σ2) : Bnd (gTup K 2 (gCons t1 (gCons t2 gNil))) (.ref a) σ H σ2 := fun R hR =>
  r_gtup (SqT.of eh) rfl (r_gcons (h1 _ (r_gcons (h2 _ (r_gnil hR)))))
theorem bnd_tup3 {H : Hp} {a : Addr} {u w y : V} {t1 t2 t3 : TG} {σ1 σ2 σ3 : St} (eh : H a = some (.tup [u, w, y])) (h1 : Bnd t1 u σ H σ1) (h2 : Bnd t2 w σ1 H σ2) (h3 : Bnd t3 y σ2 H σ3) : Bnd (gTup K 3 (gCons t1 (gCons t2 (gCons t3 gNil)))) (.ref a) σ H σ3 := fun R hR =>
  r_gtup (SqT.of eh) rfl (r_gcons (h1 _ (r_gcons (h2 _ (r_gcons (h3 _ (r_gnil hR)))))))
theorem rng1_len {j : Int} {xs : List Int} (e : rng1 j = some xs) : xs.length ≤ sizeLine := by
  unfold rng1 at e
  split at e
  · rename_i h
    cases e
    simpa [rngL] using h.2.2
  · cases e
theorem rng2_len {i j : Int} {xs : List Int} (e : rng2 i j = some xs) : xs.length ≤ sizeLine := by
  unfold rng2 at e
  split at e
  · rename_i h
    cases e
    simpa [rngL] using h.2.2.2.2
  · cases e
def colL {α β : Type} (f : α → Option (Option β)) (xs : List α) : Option (List β) := if xs.length ≤ sizeLine then colP f xs else none
def colS {α β s : Type} (f : α → s → Option (Option β × s)) (xs : List α) (x : s) : Option (List β × s) := if xs.length ≤ sizeLine then coll f xs x else none
def col2L {α γ β : Type} (g : α → Option (List γ)) (f : α → γ → Option (Option β)) (xs : List α) : Option (List β) := (col2 g f xs).bind fun ys => if ys.length ≤ sizeLine then some ys else none
theorem en_lcL {wi : TI} {g : TG} {tt : TT} {vs : List Nat} {xs : List α} {ys : List β} {f : α → Option (Option β)} (W : Wd B ms H0) (hq : Sb B q) (hi : Ej B ms wi σ H0 p xs q) (hc : colL f xs = some ys)
    (hb : ∀ (ms' : Ms) (H : Hp) (y : α) (v : V) (r : Option β), Lt B ms H0 ms' H → q ms' H → rp ms' H v y → f y = some r → ∃ σ2, Bnd g v (wipe σ vs) H σ2 ∧ wipe σ2 vs = wipe σ vs ∧ ∃ c, Et B ms' tt σ2 H q c q ∧ (c = false → r = none) ∧ (c = true → ∃ u, r = some u ∧ Ex B ms' te σ2 H q u q)) :
    En B ms (tLc wi g tt te vs) σ H0 p ys q := by
  unfold colL at hc
  split at hc
  · exact en_lc W hq (by assumption) hi hc hb
  · cases hc
theorem en_lcSL {s : Type} {wi : TI} {g : TG} {tt : TT} {vs : List Nat} {xs : List α} {ys : List β} {x0 x1 : s} {P : s → Hq} {f : α → s → Option (Option β × s)} (W : Wd B ms H0) (hP : ∀ x, Sb B (P x)) (hi : Ej B ms wi σ H0 p xs (P x0)) (hc : colS f xs x0 = some (ys, x1))
    (hb : ∀ (ms' : Ms) (H : Hp) (y : α) (v : V) (r : Option β) (x x' : s), Lt B ms H0 ms' H → P x ms' H → rp ms' H v y → f y x = some (r, x') → ∃ σ2, Bnd g v (wipe σ vs) H σ2 ∧ wipe σ2 vs = wipe σ vs ∧ ∃ c q', Et B ms' tt σ2 H (P x) c q' ∧ (c = false → r = none ∧ ∀ H, q' ms' H → P x' ms' H) ∧ (c = true → ∃ u, r = some u ∧ Ex B ms' te σ2 H q' u (P x'))) :
    En B ms (tLc wi g tt te vs) σ H0 p ys (P x1) := by
  unfold colS at hc
  split at hc
  · exact en_lcS W hP (by assumption) hi hc hb
  · cases hc
theorem en_lc2L {wi wi1 : TI} {g g1 : TG} {vs vs1 : List Nat} {xs : List α} {ys : List β} {gg : α → Option (List γ)} {f : α → γ → Option (Option β)} (W : Wd B ms H0) (hq : Sb B q) (hi : Ei B ms wi σ H0 p xs q) (hc : col2L gg f xs = some ys)
    (hb : ∀ (ms' : Ms) (H : Hp) (y : α) (v : V) (cs : List γ), Lt B ms H0 ms' H → q ms' H → rp ms' H v y → gg y = some cs → ∃ σ2, Bnd g v (wipe σ vs) H σ2 ∧ wipe σ2 vs = wipe σ vs ∧ Ei B ms' wi1 σ2 H q cs q ∧
      ∀ (ms' : Ms) (H : Hp) (c : γ) (u : V) (r : Option β), Lt B ms H0 ms' H → q ms' H → rp ms' H v y → rp ms' H u c → f y c = some r → ∃ σ3, Bnd g1 u (wipe σ2 vs1) H σ3 ∧ wipe σ3 vs1 = wipe σ2 vs1 ∧ ∃ z, r = some z ∧ Ex B ms' te σ3 H q z q) :
    En B ms (tLc2 wi g tYes wi1 g1 tYes te vs vs1) σ H0 p ys q := by
  obtain ⟨zs, h1, h2⟩ := bind_inv hc
  split at h2
  · cases h2
    exact en_lc2 W hq hi h1 (by assumption) hb
  · cases h2
/-- an answer that is no object -/
class RpS (α : Type) [Rp α] : Prop where
  ind : ∀ {ms ms' : Ms} {H H' : Hp} {v : V} {x : α}, rp ms H v x → rp ms' H' v x
instance : RpS Int := ⟨fun h => h⟩
instance : RpS Bool := ⟨fun h => h⟩
instance : RpS Str := ⟨fun h => h⟩
instance [RpS α] : RpS (Option α) := ⟨fun {ms ms' H H' v x} h => by
  cases x with
  | none => exact h
  | some y => exact RpS.ind (α := α) (x := y) h⟩
theorem not_dr {a : Addr} (n : a ∉ B) : ∀ c ∈ B, c ∉ [a] := fun c hc z => n (List.mem_singleton.mp z ▸ hc)
theorem drop_nin {a : Addr} {dr : Ms} (h : a ∈ dr) : a ∉ ms.filter fun c => decide (c ∉ dr) := fun z => by
  have := (List.mem_filter.mp z).2
  exact of_decide_eq_true this h
theorem ex_callT [RpS α] {ι : Type} [RpA ι] {F : ι → Option α} {ts : TA} {E : XK} {i : ι} (dr : Ms) (W : Wd B ms H0) (nd : ∀ c ∈ B, c ∉ dr) (hq : Sb B q)
    (h : ∀ H1, Lt B ms H0 (ms.filter fun c => decide (c ∉ dr)) H1 → Wd [] (ms.filter fun c => decide (c ∉ dr)) H1 → Ea [] (ms.filter fun c => decide (c ∉ dr)) ts σ H1 Tr i Tr) (e : F i = some x) : Ex B ms (tCall (spP F) [] E ts) σ H0 q x q := fun H b hp Q k => by
  have hsub : ∀ a ∈ ms.filter (fun c => decide (c ∉ dr)), a ∈ ms := fun a ha => (List.mem_filter.mp ha).1
  have W1 : Wd B (ms.filter fun c => decide (c ∉ dr)) H := ⟨fun a ha => List.mem_filter.mpr ⟨W.hB a ha, by simpa using nd a ha⟩, (W.al.bu b).less hsub⟩
  have W2 : Wd [] (ms.filter fun c => decide (c ∉ dr)) H := ⟨fun a z => by (cases z), W1.al⟩
  have L : Lt B ms H0 (ms.filter fun c => decide (c ∉ dr)) H := ⟨W1, (Mv.bu W.hB b).trans (Mv.less hsub), b.1⟩
  exact r_call (h H L W2 H (Bu.refl [] H) trivial _ fun vs H1 b1 q1 e1 =>
    ⟨_, i, x, W1.al.bu b1, e1, e, fun v H' s rv => k v H' ((Bu.same b1.to_same).trans (Bu.same s)) (hq.same (fun a o z => s a o (b1.to_same a o z)) hp) (RpS.ind rv)⟩)
theorem ex_isB {i j : Bool} (ha : Ex B ms ta σ H0 p i q) (hb : Ex B ms tb σ H0 q j r) : Ex B ms (tOp (fun x y H Q => ∃ a b, x = .bl a ∧ y = .bl b ∧ Q (.bl (decide (a = b))) H) ta tb) σ H0 p (decide (i = j)) r :=
  fun H b hp Q k => ha H b hp _ fun v H1 b1 q1 e1 => hb H1 (b.trans b1) q1 _ fun u H2 b2 q2 e2 => ⟨i, j, e1, e2, k _ H2 (b1.trans b2) q2 rfl⟩
theorem ex_isnB {i j : Bool} (ha : Ex B ms ta σ H0 p i q) (hb : Ex B ms tb σ H0 q j r) : Ex B ms (tOp (fun x y H Q => ∃ a b, x = .bl a ∧ y = .bl b ∧ Q (.bl (!decide (a = b))) H) ta tb) σ H0 p (!decide (i = j)) r :=
  fun H b hp Q k => ha H b hp _ fun v H1 b1 q1 e1 => hb H1 (b.trans b1) q1 _ fun u H2 b2 q2 e2 => ⟨i, j, e1, e2, k _ H2 (b1.trans b2) q2 rfl⟩
/-! None or a datum, compared -/
theorem shap_opt [DecidableEq α] [Enc α] (hd : Enc.dep α ≤ 64) (x : Option α) : SeqAt.shaped (encO x) = true := by
  cases x with
  | none => show SeqAt.shaped PyData.none = true; decide
  | some y => exact shapedE hd y
theorem eqv_opt [DecidableEq α] [Enc α] [EncN α] (x y : Option α) : PyData.eqv (encO x) (encO y) = decide (x = y) := by
  cases x <;> cases y <;> simp only [encO]
  · rfl
  · simp [eqv_non_none (EncN.nn _)]
  · simp [eqv_none_non (EncN.nn _)]
  · rw [Enc.eqv]; simp
theorem ex_eqO [DecidableEq α] [Enc α] [RpD α] [EncN α] {x y : Option α} (W : Wd B ms H0) (hd : Enc.dep α ≤ 64) (h1 : Ex B ms ta σ H0 p x q) (h2 : Ex B ms tb σ H0 q y r) : Ex B ms (tOp (rEqD K) ta tb) σ H0 p (decide (x = y)) r := fun H b hp Q k => h1 H b hp _ fun v H1 b1 q1 l1 => h2 H1 (b.trans b1) q1 _ fun u H2 b2 q2 l2 =>
  ⟨_, _, dp_optE (Rp.mv l1 (Mv.bu W.hB b2)), dp_optE l2, shap_opt hd x, shap_opt hd y, by rw [eqv_opt]; exact k _ H2 (b1.trans b2) q2 rfl⟩
theorem ex_neO [DecidableEq α] [Enc α] [RpD α] [EncN α] {x y : Option α} (W : Wd B ms H0) (hd : Enc.dep α ≤ 64) (h1 : Ex B ms ta σ H0 p x q) (h2 : Ex B ms tb σ H0 q y r) : Ex B ms (tOp (rNeD K) ta tb) σ H0 p (!decide (x = y)) r := fun H b hp Q k => h1 H b hp _ fun v H1 b1 q1 l1 => h2 H1 (b.trans b1) q1 _ fun u H2 b2 q2 l2 =>
  ⟨_, _, dp_optE (Rp.mv l1 (Mv.bu W.hB b2)), dp_optE l2, shap_opt hd x, shap_opt hd y, by rw [eqv_opt]; exact k _ H2 (b1.trans b2) q2 rfl⟩
/-! x += e -/
theorem s_aug {f : Int → Int → Int} {D : Ends} {i : Nat} {a c : Int} {H : Hp} (W : Wd B ms H) (hs : σ[i]? = some (some (.int a))) (h : Ex B ms te σ H p c q) (hp : p ms H) (k : ∀ H', Bu B H H' → q ms H' → Wd B ms H' → Mv ms H ms H' → D.nx (σ.set i (some (.int (f a c)))) H') : tAug i te (ipI f) D σ H :=
  ⟨_, hs, h.use hp fun v H1 b1 q1 e1 => ⟨a, c, rfl, e1, k H1 b1 q1 (W.bu b1) (W.mv b1)⟩⟩
theorem r_nextU {t : TS} {D : Ends} {H : Hp} (h : t D σ H) : t D σ H := h
theorem r_seqU {t u : TS} {D : Ends} {H : Hp} (h : t { D with nx := u D } σ H) : tSeq t u D σ H := h
theorem r_seqF' {wi : TI} {g : TG} {tb u : TS} {D : Ends} {H : Hp} (h : tFor wi g tb { D with nx := u D } σ H) : tSeq (tFor wi g tb) u D σ H := h
theorem r_forL {t : TS} {D : Ends} {H : Hp} (h : t D σ H) : t D σ H := h
theorem r_ret' {D : Ends} {H : Hp} (h : te σ H D.rt) : tRet te D σ H := h
/-! the draws -/
def drawF (bx : List Int × Nat) (m : Int) : Option (Int × (List Int × Nat)) := if 0 < m then some ((if bx.2 < bx.1.length then bx.1.getD bx.2 0 % m else 0), (bx.1, bx.2 + 1)) else none
abbrev law_drawM := drawF
theorem drawF_ok {bx : List Int × Nat} {m : Int} (h : 0 < m) : ∃ r n, drawF bx m = some (r, (bx.1, n)) ∧ 0 ≤ r ∧ r < m := by
  unfold drawF
  rw [if_pos h]
  refine ⟨_, _, rfl, ?_⟩
  split
  · exact ⟨Int.emod_nonneg _ (by omega), Int.emod_lt_of_pos _ h⟩
  · omega
end
end Pf

namespace Pf
open PySem L2
/-! facts of the models' words -/
theorem appF_ok {α : Type} {xs : List α} {x : α} (h : xs.length ≤ 1000000) : appF xs x = some (xs ++ [x]) := by
  unfold appF
  rw [if_pos (by rw [sizeLine_eq]; omega)]
theorem catF_ok {α : Type} {xs ys : List α} (h : xs.length + ys.length ≤ 1000000) : catF xs ys = some (xs ++ ys) := by
  unfold catF
  rw [if_pos (by rw [sizeLine_eq]; omega)]
theorem rng1_ok {j : Int} (h1 : j ≤ 1000000) (h0 : -1000000 ≤ j := by omega) : rng1 j = some (rngL 0 j.toNat) := by
  unfold rng1
  rw [if_pos ⟨by omega, by omega, by rw [sizeLine_eq]; omega⟩]
theorem rng2_ok {i j : Int} (h0 : -1000000 ≤ i) (h1 : i ≤ 1000000) (h2 : -1000000 ≤ j) (h3 : j ≤ 1000000) : rng2 i j = some (rngL i (j - i).toNat) := by
  unfold rng2
  rw [if_pos ⟨by omega, by omega, by omega, by omega, by rw [sizeLine_eq]; omega⟩]
theorem rngL_len (lo : Int) (n : Nat) : (rngL lo n).length = n := by simp [rngL]
theorem rngL_get {lo : Int} {n i : Nat} (h : i < n) : (rngL lo n)[i]? = some (lo + i) := by
  unfold rngL
  rw [List.getElem?_map, List.getElem?_range h]
  rfl
theorem rngL_mem {lo x : Int} {n : Nat} : x ∈ rngL lo n ↔ lo ≤ x ∧ x < lo + n := by
  unfold rngL
  rw [List.mem_map]
  constructor
  · rintro ⟨i, hi, rfl⟩
    have := List.mem_range.mp hi
    omega
  · rintro ⟨h1, h2⟩
    exact ⟨(x - lo).toNat, List.mem_range.mpr (by omega), by omega⟩
theorem rngL_succ (lo : Int) (n : Nat) : rngL lo (n + 1) = rngL lo n ++ [lo + n] := by
  unfold rngL
  rw [List.range_succ, List.map_append]
  rfl
theorem rngL_cons (lo : Int) (n : Nat) : rngL lo (n + 1) = lo :: rngL (lo + 1) n := by
  unfold rngL
  rw [List.range_succ_eq_map]
  rw [List.map_cons, List.map_map]
  congr 1
  · omega
  · refine List.map_congr_left fun i _ => ?_
    simp only [Function.comp]
    omega
theorem at_ok {α : Type} {xs : List α} {i : Nat} {x : α} (h : xs[i]? = some x) : atI xs (i : Int) = some x := atI_nat h
theorem at_mem {α : Type} {xs : List α} {i : Int} (h0 : 0 ≤ i) (h1 : i < (xs.length : Int)) : ∃ v, v ∈ xs ∧ atI xs i = some v := by
  have hi : i.toNat < xs.length := by omega
  refine ⟨xs[i.toNat], List.getElem_mem hi, ?_⟩
  have e := at_ok (List.getElem?_eq_getElem hi)
  rw [show ((i.toNat : Nat) : Int) = i by omega] at e
  exact e
theorem modF_pos {a m : Int} (h : 0 < m) : modF a m = some (a % m) := by unfold modF; rw [if_pos h]
theorem fold_ex {α s : Type} {f : α → s → Option s} {xs : List α} {x0 : s} (I : Nat → s → Prop) (h0 : I 0 x0) (step : ∀ i a x, xs[i]? = some a → I i x → ∃ x', f a x = some x' ∧ I (i + 1) x') : ∃ out, fold f xs x0 = some out ∧ I xs.length out := by
  have go : ∀ (n i : Nat) (x : s), n = xs.length - i → i ≤ xs.length → I i x → ∃ out, fold f (xs.drop i) x = some out ∧ I xs.length out := by
    intro n
    induction n with
    | zero =>
      intro i x hn hi h
      have e : i = xs.length := by omega
      subst e
      rw [List.drop_length]
      exact ⟨x, rfl, h⟩
    | succ n ih =>
      intro i x hn hi h
      have below : i < xs.length := by omega
      have ex := List.getElem?_eq_getElem below
      rw [drop_get ex]
      obtain ⟨x', h1, h2⟩ := step i _ x ex h
      obtain ⟨out, h3, h4⟩ := ih (i + 1) x' (by omega) (by omega) h2
      refine ⟨out, ?_, h4⟩
      show (f _ x).bind _ = _
      rw [h1]
      exact h3
  exact go _ 0 x0 rfl (Nat.zero_le _) h0
theorem loop_ex {α s ρ : Type} {f : α → s → Option (Fl ρ s)} {xs : List α} {x0 : s} (I : Nat → s → Prop) (R : ρ → Prop) (h0 : I 0 x0) (step : ∀ i a x, xs[i]? = some a → I i x → (∃ r, f a x = some (.ret r) ∧ R r) ∨ ∃ x', f a x = some (.go x') ∧ I (i + 1) x') : (∃ r, loop f xs x0 = some (.ret r) ∧ R r) ∨ ∃ out, loop f xs x0 = some (.go out) ∧ I xs.length out := by
  have go : ∀ (n i : Nat) (x : s), n = xs.length - i → i ≤ xs.length → I i x → (∃ r, loop f (xs.drop i) x = some (.ret r) ∧ R r) ∨ ∃ out, loop f (xs.drop i) x = some (.go out) ∧ I xs.length out := by
    intro n
    induction n with
    | zero =>
      intro i x hn hi h
      have e : i = xs.length := by omega
      subst e
      rw [List.drop_length]
      exact .inr ⟨x, rfl, h⟩
    | succ n ih =>
      intro i x hn hi h
      have below : i < xs.length := by omega
      have ex := List.getElem?_eq_getElem below
      rw [drop_get ex]
      rcases step i _ x ex h with ⟨r, h1, h2⟩ | ⟨x', h1, h2⟩
      · refine .inl ⟨r, ?_, h2⟩
        show (f _ x).bind _ = _
        rw [h1]
        rfl
      · have e : loop f (xs[i] :: xs.drop (i + 1)) x = loop f (xs.drop (i + 1)) x' := by
          show (f _ x).bind _ = _
          rw [h1]
          rfl
        rw [e]
        exact ih (i + 1) x' (by omega) (by omega) h2
  exact go _ 0 x0 rfl (Nat.zero_le _) h0
/-- a loop whose turns never go out -/
theorem loop_go {α s ρ : Type} {f : α → s → Option (Fl ρ s)} {xs : List α} {x0 : s} (I : Nat → s → Prop) (h0 : I 0 x0) (step : ∀ i a x, xs[i]? = some a → I i x → ∃ x', f a x = some (.go x') ∧ I (i + 1) x') : ∃ out, loop f xs x0 = some (.go out) ∧ I xs.length out := by
  rcases loop_ex I (fun _ => False) h0 (fun i a x e h => .inr (step i a x e h)) with ⟨r, _, h⟩ | h
  · cases h
  · exact h
theorem colP_map {α β : Type} {f : α → Option (Option β)} {g : α → β} : ∀ {xs : List α}, (∀ x ∈ xs, f x = some (some (g x))) → colP f xs = some (xs.map g)
  | [], _ => rfl
  | x :: xs, h => by
    show (f x).bind _ = _
    rw [h x List.mem_cons_self]
    show (colP f xs).bind _ = _
    rw [colP_map fun y hy => h y (List.mem_cons_of_mem _ hy)]
    rfl
theorem colP_filter {α β : Type} {f : α → Option (Option β)} {g : α → Option β} : ∀ {xs : List α}, (∀ x ∈ xs, f x = some (g x)) → colP f xs = some (xs.filterMap g)
  | [], _ => rfl
  | x :: xs, h => by
    show (f x).bind _ = _
    rw [h x List.mem_cons_self]
    show (colP f xs).bind _ = _
    rw [colP_filter fun y hy => h y (List.mem_cons_of_mem _ hy), List.filterMap_cons]
    cases g x <;> rfl
theorem colL_map {α β : Type} {f : α → Option (Option β)} {g : α → β} {xs : List α} (hl : xs.length ≤ 1000000) (h : ∀ x ∈ xs, f x = some (some (g x))) : colL f xs = some (xs.map g) := by
  unfold colL
  rw [if_pos (by rw [sizeLine_eq]; omega), colP_map h]
theorem colL_filter {α β : Type} {f : α → Option (Option β)} {g : α → Option β} {xs : List α} (hl : xs.length ≤ 1000000) (h : ∀ x ∈ xs, f x = some (g x)) : colL f xs = some (xs.filterMap g) := by
  unfold colL
  rw [if_pos (by rw [sizeLine_eq]; omega), colP_filter h]
theorem colL_id {α : Type} {xs : List α} (hl : xs.length ≤ 1000000) : colL (fun x : α => some (some x)) xs = some xs := by
  have := colL_map (f := fun x : α => some (some x)) (g := id) hl (fun x _ => rfl)
  rw [List.map_id] at this
  exact this
theorem col2_flat {α γ β : Type} {g : α → Option (List γ)} {f : α → γ → Option (Option β)} {G : α → List γ} {F : α → γ → β} : ∀ {xs : List α}, (∀ x ∈ xs, g x = some (G x)) → (∀ x ∈ xs, ∀ c ∈ G x, f x c = some (some (F x c))) → col2 g f xs = some (xs.flatMap fun x => (G x).map (F x))
  | [], _, _ => rfl
  | x :: xs, h1, h2 => by
    show (g x).bind _ = _
    rw [h1 x List.mem_cons_self]
    show (colP (f x) (G x)).bind _ = _
    rw [colP_map fun c hc => h2 x List.mem_cons_self c hc]
    show (col2 g f xs).bind _ = _
    rw [col2_flat (fun y hy => h1 y (List.mem_cons_of_mem _ hy)) fun y hy => h2 y (List.mem_cons_of_mem _ hy), List.flatMap_cons]
    rfl
theorem col2L_flat {α γ β : Type} {g : α → Option (List γ)} {f : α → γ → Option (Option β)} {G : α → List γ} {F : α → γ → β} {xs : List α} (hl : (xs.flatMap fun x => (G x).map (F x)).length ≤ 1000000) (h1 : ∀ x ∈ xs, g x = some (G x)) (h2 : ∀ x ∈ xs, ∀ c ∈ G x, f x c = some (some (F x c))) : col2L g f xs = some (xs.flatMap fun x => (G x).map (F x)) := by
  unfold col2L
  rw [col2_flat h1 h2]
  show (if _ then _ else _) = _
  rw [if_pos (by rw [sizeLine_eq]; omega)]
theorem setF_ok {α : Type} {xs : List α} {i : Nat} {x : α} (h : i < xs.length) : setF xs (i : Int) x = some (xs.set i x) := by
  unfold setF ixN
  rw [if_pos (by omega)]
  rw [if_pos (by omega)]
  rfl
theorem at_last {α : Type} (xs : List α) (x : α) : atI (xs ++ [x]) (-1) = some x := by
  unfold atI
  rw [List.length_append, List.length_singleton, ixN_last]
  show (xs ++ [x])[xs.length]? = some x
  rw [List.getElem?_append_right (Nat.le_refl _), Nat.sub_self]
  rfl
theorem setF_last {α : Type} (xs : List α) (x y : α) : setF (xs ++ [x]) (-1) y = some (xs ++ [y]) := by
  unfold setF
  rw [List.length_append, List.length_singleton, ixN_last]
  show some ((xs ++ [x]).set xs.length y) = _
  rw [List.set_append_right _ _ (Nat.le_refl _), Nat.sub_self]
  rfl
theorem fold_foldl {α s : Type} {f : α → s → Option s} {g : s → α → s} (N : s → Nat) (m : Nat) (h : ∀ a x, N x < m → f a x = some (g x a) ∧ N (g x a) ≤ N x + 1) : ∀ (ys : List α) (x : s), N x + ys.length ≤ m → fold f ys x = some (ys.foldl g x)
  | [], x, _ => rfl
  | y :: ys, x, l => by
    rw [List.length_cons] at l
    obtain ⟨h1, h2⟩ := h y x (by omega)
    show (f y x).bind _ = _
    rw [h1, Option.bind_some, fold_foldl N m h ys _ (by omega)]
    rfl
theorem rngL_nodup (lo : Int) (n : Nat) : (rngL lo n).Nodup := by
  unfold rngL
  rw [List.Nodup, List.pairwise_map]
  exact List.nodup_range.imp fun h e => h (by omega)
theorem pop_perm {α : Type} {xs : List α} {i : Int} (h0 : 0 ≤ i) (h1 : i < (xs.length : Int)) (hl : xs.length ≤ 1000) : ∃ x ys, popF xs i = some (x, ys) ∧ xs.Perm (x :: ys) := by
  have hi : i.toNat < xs.length := by omega
  refine ⟨xs[i.toNat], xs.eraseIdx i.toNat, ?_, ?_⟩
  · unfold popF
    rw [if_pos (by omega)]
    unfold ixN
    rw [if_pos h0, if_pos h1, Option.bind_some, List.getElem?_eq_getElem hi]
    rfl
  · have e := drop_get (List.getElem?_eq_getElem hi)
    have e2 : xs = xs.take i.toNat ++ xs[i.toNat] :: xs.drop (i.toNat + 1) := by rw [← e, List.take_append_drop]
    rw [List.eraseIdx_eq_take_drop_succ]
    refine (List.Perm.of_eq e2).trans ?_
    exact List.perm_middle
theorem rem_perm {xs : List Int} {x : Int} (h : x ∈ xs) : ∃ ys, remF xs x = some ys ∧ xs.Perm (x :: ys) := ⟨_, if_pos h, List.perm_cons_erase h⟩
theorem filterMap_all {α β : Type} {f : α → Option β} {g : α → β} : ∀ {xs : List α}, (∀ x ∈ xs, f x = some (g x)) → xs.filterMap f = xs.map g
  | [], _ => rfl
  | x :: xs, h => by
    rw [List.filterMap_cons, h x List.mem_cons_self, List.map_cons, filterMap_all fun y hy => h y (List.mem_cons_of_mem _ hy)]
theorem cut_to {α : Type} (xs : List α) {i : Nat} (h : i ≤ xs.length) : cutF xs none (some (i : Int)) = xs.take i := by
  unfold cutF
  rw [HT.sIx_none, HT.sIx_nat, Nat.min_eq_left h, List.drop_zero, Nat.sub_zero]
theorem cut_from {α : Type} (xs : List α) {i : Nat} (h : i ≤ xs.length) : cutF xs (some (i : Int)) none = xs.drop i := by
  unfold cutF
  rw [HT.sIx_none, HT.sIx_nat, Nat.min_eq_left h]
  exact List.take_of_length_le (by rw [List.length_drop]; omega)
theorem colL_keep {α : Type} {f : α → Option (Option α)} {p : α → Bool} {xs : List α} (hl : xs.length ≤ 1000000) (h : ∀ x ∈ xs, f x = some (if p x = true then some x else none)) : colL f xs = some (xs.filter p) := by
  rw [colL_filter hl h]
  congr 1
  clear h hl
  induction xs with
  | nil => rfl
  | cons x xs ih =>
    rw [List.filterMap_cons, List.filter_cons]
    by_cases c : p x = true
    · rw [if_pos c, if_pos c, ih]
    · rw [if_neg c, if_neg c, ih]
theorem whl_ex {s ρ : Type} {c : s → Option Bool} {f : s → Option (Fl ρ s)} (N : s → Nat) (I : s → Prop) (R : ρ → Prop) (h : ∀ x, I x → ∃ b, c x = some b ∧ (b = true → (∃ r, f x = some (.ret r) ∧ R r) ∨ ∃ x', f x = some (.go x') ∧ I x' ∧ N x' < N x)) : ∀ (m : Nat) (x : s), I x → N x < m → (∃ r, whl c f m x = some (.ret r) ∧ R r) ∨ ∃ out, whl c f m x = some (.go out) ∧ I out ∧ c out = some false
  | 0, x, _, hm => absurd hm (Nat.not_lt_zero _)
  | m + 1, x, hI, hm => by
    obtain ⟨b, hb, hk⟩ := h x hI
    show (∃ r, (c x).bind _ = _ ∧ _) ∨ ∃ out, (c x).bind _ = _ ∧ _
    rw [hb, Option.bind_some]
    cases b with
    | false =>
      rw [if_neg (by decide)]
      exact .inr ⟨x, rfl, hI, hb⟩
    | true =>
      rw [if_pos rfl]
      rcases hk rfl with ⟨r, h1, h2⟩ | ⟨x', h1, h2, h3⟩
      · rw [h1]
        exact .inl ⟨r, rfl, h2⟩
      · rw [h1]
        exact whl_ex N I R h m x' h2 (by omega)
/-! a model's answer, step by step -/
theorem bind_of {α β : Type} {x : Option α} {k : α → Option β} {a : α} {r : Option β} (e : x = some a) (h : k a = r) : x.bind k = r := by rw [e]; exact h
theorem bnd_of {α β : Type} {x : α} {k : α → Option β} {r : Option β} (h : k x = r) : bnd x k = r := h
theorem if_of {α : Type} {c : Prop} {_ : Decidable c} {a b r : α} (hc : c) (h : a = r) : (if c then a else b) = r := by rw [if_pos hc]; exact h
theorem else_of {α : Type} {c : Prop} {_ : Decidable c} {a b r : α} (hc : ¬ c) (h : b = r) : (if c then a else b) = r := by rw [if_neg hc]; exact h
theorem bind_ex {α β : Type} {x : Option α} {k : α → Option β} {P : α → Prop} {r : Option β} (e : ∃ a, x = some a ∧ P a) (h : ∀ a, P a → k a = r) : x.bind k = r := by
  obtain ⟨a, e, p⟩ := e
  rw [e]
  exact h a p
theorem bind_exL {ρ s β : Type} {x : Option (Fl ρ s)} {k : Fl ρ s → Option β} {P : s → Prop} {r : Option β} (e : ∃ a, x = some (.go a) ∧ P a) (h : ∀ a, P a → k (.go a) = r) : x.bind k = r := by
  obtain ⟨a, e, p⟩ := e
  rw [e]
  exact h a p
theorem exb {α β γ : Type} {x : Option α} {k : α → Option β} {a : α} {G : γ → Option β} {P : γ → Prop} (e : x = some a) (h : ∃ y, k a = G y ∧ P y) : ∃ y, x.bind k = G y ∧ P y := by rw [e]; exact h
theorem exb_bnd {α β γ : Type} {x : α} {k : α → Option β} {G : γ → Option β} {P : γ → Prop} (h : ∃ y, k x = G y ∧ P y) : ∃ y, bnd x k = G y ∧ P y := h
theorem exb_if {β γ : Type} {c : Prop} {_ : Decidable c} {u v : Option β} {G : γ → Option β} {P : γ → Prop} (hc : c) (h : ∃ y, u = G y ∧ P y) : ∃ y, (if c then u else v) = G y ∧ P y := by rw [if_pos hc]; exact h
theorem exb_else {β γ : Type} {c : Prop} {_ : Decidable c} {u v : Option β} {G : γ → Option β} {P : γ → Prop} (hc : ¬ c) (h : ∃ y, v = G y ∧ P y) : ∃ y, (if c then u else v) = G y ∧ P y := by rw [if_neg hc]; exact h
theorem exb_ex {α β γ : Type} {x : Option α} {k : α → Option β} {Q : α → Prop} {G : γ → Option β} {P : γ → Prop} (e : ∃ a, x = some a ∧ Q a) (h : ∀ a, Q a → ∃ y, k a = G y ∧ P y) : ∃ y, x.bind k = G y ∧ P y := by
  obtain ⟨a, e, q⟩ := e
  rw [e]
  exact h a q
theorem exb_exL {ρ s β γ : Type} {x : Option (Fl ρ s)} {k : Fl ρ s → Option β} {Q : s → Prop} {G : γ → Option β} {P : γ → Prop} (e : ∃ a, x = some (.go a) ∧ Q a) (h : ∀ a, Q a → ∃ y, k (.go a) = G y ∧ P y) : ∃ y, x.bind k = G y ∧ P y := by
  obtain ⟨a, e, q⟩ := e
  rw [e]
  exact h a q
theorem loop_ret {α s ρ : Type} {f : α → s → Option (Fl ρ s)} {a : α} {as : List α} {x : s} {r : ρ} (h : f a x = some (.ret r)) : loop f (a :: as) x = some (.ret r) := by unfold loop; rw [h]; rfl
theorem loop_next {α s ρ : Type} {f : α → s → Option (Fl ρ s)} {a : α} {as : List α} {x y : s} {R : Option (Fl ρ s)} (h : f a x = some (.go y)) (k : loop f as y = R) : loop f (a :: as) x = R := by unfold loop; rw [h]; exact k
/-! layouts -/
def lenS (bs : List (Int × Int)) : Int := (bs.map (·.2)).sum
theorem VL.live {size : Int} : ∀ {bs : List (Int × Int)} {e : Int}, VL size e bs → e + lenS bs ≤ size ∧ 0 ≤ lenS bs
  | [], e, h => by have h' : e ≤ size := h; simp [lenS]; omega
  | (s, l) :: r, e, h => by
    have ih := VL.live h.2.2
    have h1 := h.1
    have h2 := h.2.1
    unfold lenS at *
    simp only [List.sum_cons, List.map_cons]
    omega
theorem VL.le {size : Int} {bs : List (Int × Int)} {e e' : Int} (h : VL size e bs) (l : e' ≤ e) : VL size e' bs := by
  cases bs with
  | nil => have h' : e ≤ size := h; show e' ≤ size; omega
  | cons b r =>
    obtain ⟨s, l2⟩ := b
    exact ⟨by have := h.1; omega, h.2⟩
end Pf

namespace Pf
open PySem L2
theorem List.reverseRecOn' {α : Type} {P : List α → Prop} (xs : List α) (nil : P []) (snoc : ∀ ys y, P ys → P (ys ++ [y])) : P xs := by
  have go : ∀ n (xs : List α), xs.length = n → P xs := by
    intro n
    induction n with
    | zero => intro xs h; rw [List.length_eq_zero_iff.mp h]; exact nil
    | succ n ih =>
      intro xs h
      cases e : xs.getLast? with
      | none => rw [List.getLast?_eq_none_iff.mp e] at h; cases h
      | some y =>
        obtain ⟨ys, rfl⟩ := List.getLast?_eq_some_iff.mp e
        refine snoc ys y (ih ys ?_)
        rw [List.length_append] at h
        simpa using h
  exact go _ xs rfl
/-! ### blocks, told by their indices -/
def Sep (x y : Int × Int) : Prop := x.1 + x.2 ≤ y.1 ∨ y.1 + y.2 ≤ x.1
def Dis (bs : List (Int × Int)) : Prop := ∀ (i j : Nat) (x y : Int × Int), i ≠ j → bs[i]? = some x → bs[j]? = some y → Sep x y
def Ins (size : Int) (bs : List (Int × Int)) : Prop := ∀ (i : Nat) (x : Int × Int), bs[i]? = some x → 0 ≤ x.1 ∧ 1 ≤ x.2 ∧ x.1 + x.2 ≤ size
theorem Sep.symm {x y : Int × Int} (h : Sep x y) : Sep y x := h.elim .inr .inl
theorem VL.dis {size e : Int} {bs : List (Int × Int)} (h : VL size e bs) : Dis bs := by
  intro i j x y ne hx hy
  have pw := List.pairwise_iff_getElem.mp h.pw
  obtain ⟨hi, ei⟩ := List.getElem?_eq_some_iff.mp hx
  obtain ⟨hj, ej⟩ := List.getElem?_eq_some_iff.mp hy
  rcases Nat.lt_or_gt_of_ne ne with c | c
  · have := pw i j hi hj c
    rw [ei, ej] at this
    exact .inl this
  · have := pw j i hj hi c
    rw [ei, ej] at this
    exact .inr this
theorem VL.ins {size : Int} {bs : List (Int × Int)} (h : VL size 0 bs) : Ins size bs := fun i x hx => h.mem x (List.mem_of_getElem? hx)
/-- the blocks at their new starts -/
def plF (bs : List (Int × Int)) (st : List Int) : List (Int × Int) := (bs.zip st).map fun p => (p.2, p.1.2)
theorem plF_get {bs : List (Int × Int)} {st : List Int} {i : Nat} {x : Int × Int} {s : Int} (h1 : bs[i]? = some x) (h2 : st[i]? = some s) : (plF bs st)[i]? = some (s, x.2) := by
  unfold plF
  rw [List.getElem?_map, (List.getElem?_zip_eq_some (z := (x, s))).mpr ⟨h1, h2⟩]
  rfl
theorem plF_inv {bs : List (Int × Int)} {st : List Int} {i : Nat} {y : Int × Int} (h : (plF bs st)[i]? = some y) : ∃ x s, bs[i]? = some x ∧ st[i]? = some s ∧ y = (s, x.2) := by
  unfold plF at h
  rw [List.getElem?_map] at h
  obtain ⟨⟨x, s⟩, hz, e⟩ := Option.map_eq_some_iff.mp h
  obtain ⟨h1, h2⟩ := List.getElem?_zip_eq_some.mp hz
  exact ⟨x, s, h1, h2, e.symm⟩
theorem plF_len {bs : List (Int × Int)} {st : List Int} (h : st.length = bs.length) : (plF bs st).length = bs.length := by
  unfold plF
  rw [List.length_map, List.length_zip, h, Nat.min_self]
theorem plF_same (bs : List (Int × Int)) : plF bs (bs.map (·.1)) = bs := by
  refine List.ext_getElem? fun i => ?_
  cases h : bs[i]? with
  | none =>
    have := List.getElem?_eq_none_iff.mp h
    exact List.getElem?_eq_none_iff.mpr (by rw [plF_len (by rw [List.length_map])]; exact this)
  | some x => exact plF_get h (by rw [List.getElem?_map, h]; rfl)
theorem get_of_lt {α : Type} {xs : List α} {i : Nat} (h : i < xs.length) : ∃ x, xs[i]? = some x := ⟨_, List.getElem?_eq_getElem h⟩
theorem lt_of_get {α : Type} {xs : List α} {i : Nat} {x : α} (h : xs[i]? = some x) : i < xs.length := (List.getElem?_eq_some_iff.mp h).1
theorem set_get_ne {α : Type} {xs : List α} {i j : Nat} {x : α} (h : i ≠ j) : (xs.set i x)[j]? = xs[j]? := List.getElem?_set_ne h
theorem set_get {α : Type} {xs : List α} {i : Nat} {x : α} (h : i < xs.length) : (xs.set i x)[i]? = some x := List.getElem?_set_self h
theorem nodup_le {α : Type} [DecidableEq α] : ∀ {xs ys : List α}, xs.Nodup → (∀ x ∈ xs, x ∈ ys) → xs.length ≤ ys.length
  | [], _, _, _ => Nat.zero_le _
  | x :: xs, ys, h, s => by
    have h' := List.nodup_cons.mp h
    have hx := s x List.mem_cons_self
    have := nodup_le (ys := ys.erase x) h'.2 fun y hy => (List.mem_erase_of_ne (fun e => h'.1 (by rw [← e]; exact hy))).mpr (s y (List.mem_cons_of_mem _ hy))
    rw [List.length_erase_of_mem hx] at this
    have := List.length_pos_of_mem hx
    rw [List.length_cons]
    omega
theorem perm_sum {xs ys : List Int} (h : xs.Perm ys) : xs.sum = ys.sum := by
  induction h with
  | nil => rfl
  | cons x _ ih => rw [List.sum_cons, List.sum_cons, ih]
  | swap x y l => simp only [List.sum_cons]; omega
  | trans _ _ a b => exact a.trans b
theorem nodup_get {α : Type} {xs : List α} (h : xs.Nodup) {i j : Nat} {x : α} (hi : xs[i]? = some x) (hj : xs[j]? = some x) : i = j := by
  have pw := List.pairwise_iff_getElem.mp h
  obtain ⟨li, ei⟩ := List.getElem?_eq_some_iff.mp hi
  obtain ⟨lj, ej⟩ := List.getElem?_eq_some_iff.mp hj
  obtain c | c | c := Nat.lt_trichotomy i j
  · exact absurd (ei.trans ej.symm) (pw i j li lj c)
  · exact c
  · exact absurd (ej.trans ei.symm) (pw j i lj li c)
/-! ### single moves -/
def meetB (x y : Int × Int) : Bool := decide (max x.1 y.1 < min (x.1 + x.2) (y.1 + y.2))
theorem meetB_sep {x y : Int × Int} (hx : 1 ≤ x.2) (hy : 1 ≤ y.2) : meetB x y = false ↔ Sep x y := by
  unfold meetB Sep
  rw [decide_eq_false_iff_not]
  omega
def othF (bs : List (Int × Int)) (i : Nat) : List (Int × Int) := bs.take i ++ bs.drop (i + 1)
def canB (bs : List (Int × Int)) (i : Nat) (g : Int × Int) : Bool := !((othF bs i).map (meetB g)).any id
def CanP (bs : List (Int × Int)) (i : Nat) (g : Int × Int) : Prop := ∀ (j : Nat) (y : Int × Int), j ≠ i → bs[j]? = some y → Sep g y
theorem oth_mem {bs : List (Int × Int)} {i : Nat} {y : Int × Int} (hi : i ≤ bs.length) : y ∈ othF bs i ↔ ∃ j : Nat, j ≠ i ∧ bs[j]? = some y := by
  unfold othF
  rw [List.mem_append]
  constructor
  · rintro (h | h)
    · obtain ⟨j, hj⟩ := List.mem_iff_getElem?.mp h
      have := lt_of_get hj
      rw [List.length_take] at this
      rw [List.getElem?_take_of_lt (by omega)] at hj
      exact ⟨j, by omega, hj⟩
    · obtain ⟨j, hj⟩ := List.mem_iff_getElem?.mp h
      rw [List.getElem?_drop] at hj
      exact ⟨_, by omega, hj⟩
  · rintro ⟨j, ne, hj⟩
    rcases Nat.lt_or_gt_of_ne ne with c | c
    · exact .inl (List.mem_iff_getElem?.mpr ⟨j, by rw [List.getElem?_take_of_lt c]; exact hj⟩)
    · exact .inr (List.mem_iff_getElem?.mpr ⟨j - (i + 1), by rw [List.getElem?_drop, show i + 1 + (j - (i + 1)) = j by omega]; exact hj⟩)
theorem canB_iff {bs : List (Int × Int)} {i : Nat} {g : Int × Int} {size : Int} (hi : i ≤ bs.length) (hg : 1 ≤ g.2) (hb : Ins size bs) : canB bs i g = true ↔ CanP bs i g := by
  unfold canB
  rw [Bool.not_eq_true', List.any_map, List.any_eq_false]
  constructor
  · intro h j y ne hj
    have := h y ((oth_mem hi).mpr ⟨j, ne, hj⟩)
    have h2 : meetB g y = false := by simpa using this
    exact (meetB_sep hg (hb j y hj).2.1).mp h2
  · intro h y hy
    obtain ⟨j, ne, hj⟩ := (oth_mem hi).mp hy
    have := (meetB_sep hg (hb j y hj).2.1).mpr (h j y ne hj)
    simpa using this
/-- where the blocks lie behind some moves -/
def gAt (gs : List (Int × Int)) (k : Int) : Int × Int := gs.getD k.toNat (0, 0)
def stF (gs : List (Int × Int)) (bs : List (Int × Int)) (os : List Int) : List (Int × Int) := os.foldl (fun now k => now.set k.toNat (gAt gs k)) bs
theorem gAt_of {gs : List (Int × Int)} {i : Nat} {g : Int × Int} (h : gs[i]? = some g) : gAt gs (i : Int) = g := by
  unfold gAt
  rw [Int.toNat_natCast, List.getD_eq_getElem?_getD, h]
  rfl
theorem stF_snoc (gs bs : List (Int × Int)) (os : List Int) (k : Int) : stF gs bs (os ++ [k]) = (stF gs bs os).set k.toNat (gAt gs k) := by
  unfold stF
  rw [List.foldl_append]
  rfl
theorem stF_len (gs bs : List (Int × Int)) : ∀ os : List Int, (stF gs bs os).length = bs.length := by
  intro os
  induction os using List.reverseRecOn' with
  | nil => rfl
  | snoc os k ih => rw [stF_snoc, List.length_set, ih]
theorem stF_get {gs bs : List (Int × Int)} (hl : gs.length = bs.length) : ∀ (os : List Int), (∀ k ∈ os, 0 ≤ k ∧ k < (bs.length : Int)) → ∀ i : Nat, (stF gs bs os)[i]? = if (i : Int) ∈ os then gs[i]? else bs[i]? := by
  intro os
  induction os using List.reverseRecOn' with
  | nil => intro _ i; simp [stF]
  | snoc os k ih =>
    intro h i
    have ih := ih (fun k hk => h k (List.mem_append_left _ hk)) i
    have hk := h k (by simp)
    rw [stF_snoc]
    by_cases c : k.toNat = i
    · have e : k = (i : Int) := by omega
      subst e
      obtain ⟨g, hg⟩ := get_of_lt (xs := gs) (i := i) (by omega)
      rw [Int.toNat_natCast, set_get (by rw [stF_len]; omega), if_pos (by simp), gAt_of hg, hg]
    · rw [set_get_ne c, ih]
      have : ((i : Int) ∈ os ++ [k]) ↔ ((i : Int) ∈ os) := by
        rw [List.mem_append, List.mem_singleton]
        exact ⟨fun z => z.elim id fun z => absurd (by omega) c, .inl⟩
      by_cases c2 : (i : Int) ∈ os
      · rw [if_pos c2, if_pos (this.mpr c2)]
      · rw [if_neg c2, if_neg (fun z => c2 (this.mp z))]
/-- each of the moves is possible when it is made -/
def SafeO (gs bs : List (Int × Int)) (os : List Int) : Prop := ∀ (i : Nat) (k : Int), os[i]? = some k → CanP (stF gs bs (os.take i)) k.toNat (gAt gs k)
/-- and no move of a lesser index is possible then -/
def LeastO (gs bs : List (Int × Int)) (W os : List Int) : Prop := ∀ (i : Nat) (k : Int), os[i]? = some k → ∀ k' ∈ W, k' < k → k' ∉ os.take i → ¬ CanP (stF gs bs (os.take i)) k'.toNat (gAt gs k')
/-- the moved blocks -/
def mvF (bs : List (Int × Int)) (st : List Int) : List Int := (rngL 0 bs.length).filter fun k => !decide (st.getD k.toNat 0 = (bs.getD k.toNat (0, 0)).1)
theorem mv_lt {bs : List (Int × Int)} {st : List Int} {k : Int} (h : k ∈ mvF bs st) : ∃ i : Nat, k = i ∧ i < bs.length := by
  have := rngL_mem.mp (List.mem_filter.mp h).1
  exact ⟨k.toNat, by omega, by omega⟩
theorem mv_nodup (bs : List (Int × Int)) (st : List Int) : (mvF bs st).Nodup := (rngL_nodup 0 bs.length).filter _
theorem rngL_asc (lo : Int) (n : Nat) : (rngL lo n).Pairwise (· < ·) := by
  unfold rngL
  rw [List.pairwise_map]
  exact List.pairwise_lt_range.imp fun h => by omega
theorem mv_asc (bs : List (Int × Int)) (st : List Int) : (mvF bs st).Pairwise (· < ·) := (rngL_asc 0 bs.length).filter _
theorem mv_not {bs : List (Int × Int)} {st : List Int} (hl : st.length = bs.length) {i : Nat} (h : (i : Int) ∉ mvF bs st) : (plF bs st)[i]? = bs[i]? := by
  by_cases c : i < bs.length
  · obtain ⟨b, hb⟩ := get_of_lt c
    obtain ⟨s, hs⟩ := get_of_lt (xs := st) (i := i) (by omega)
    have : ¬ ((!decide (st.getD (i : Int).toNat 0 = (bs.getD (i : Int).toNat (0, 0)).1)) = true) := fun z => h (List.mem_filter.mpr ⟨rngL_mem.mpr (by omega), z⟩)
    rw [Int.toNat_natCast, List.getD_eq_getElem?_getD, List.getD_eq_getElem?_getD, hb, hs] at this
    have e : s = b.1 := by simpa using this
    rw [plF_get hb hs, hb, e]
  · rw [List.getElem?_eq_none_iff.mpr (by rw [plF_len hl]; omega), List.getElem?_eq_none_iff.mpr (by omega)]
end Pf

namespace Pf
open PySem L2
local macro_rules | `(tactic| walk_at "rd1") => `(tactic| first
  | with_reducible refine r_seqA ?_
  | with_reducible refine r_seqD ?_
  | with_reducible refine r_seqF ?_
  | with_reducible refine r_seqN ?_
  | with_reducible refine r_asg ?_
  | with_reducible refine r_drop ?_
  | with_reducible refine r_ret ?_
  | with_reducible refine r_ifS ?_
  | ((with_reducible refine r_next ?_); try dsimp only)
  | ((with_reducible refine r_name ?_); try dsimp only [List.set_cons_succ, List.set_cons_zero, wipe])
  | ((with_reducible refine' r_var ?rdh ?_); (case rdh => rfl))
  | with_reducible refine r_c ?_
  | with_reducible refine r_op ?_
  | with_reducible refine r_un ?_
  | with_reducible refine r_I0 ?_
  | ((with_reducible refine r_I ?_ ?_); (· first | decide | exact Or.inl (by decide) | exact Or.inr (by decide) | (show _ ∧ _; constructor <;> decide) | (show (0:Int) < _; omega) | (show CDiv _ _; unfold CDiv; omega) ))
  | with_reducible refine r_U ?_
  | with_reducible refine r_eqI ?_
  | with_reducible refine r_neI ?_
  | with_reducible refine r_eqB ?_
  | with_reducible refine r_neB ?_
  | with_reducible refine r_test ?_
  | with_reducible refine r_B ?_
  | with_reducible refine r_bl ?_
  | with_reducible refine r_bl2 ?_
  | with_reducible refine r_yes ?_
  | with_reducible refine r_wipe (by rfl) ?_
  | with_reducible refine r_rfl ?_
  | ((with_reducible refine' r_eqA ?rdh ?_); (case rdh => rfl))
  | with_reducible refine r_and ?_
  | with_reducible refine r_or ?_
  | with_reducible refine r_not ?_
  | with_reducible refine r_andV ?_
  | with_reducible refine r_orV ?_
  | with_reducible refine r_notV ?_
  | with_reducible refine r_ifE ?_
  | with_reducible refine r_nil ?_
  | with_reducible refine r_cons ?_
  | with_reducible refine r_tup ?_
  | with_reducible refine r_lst ?_
  | with_reducible refine r_CB ?_
  | with_reducible refine r_call ?_
  | with_reducible refine r_bm ?_
  | with_reducible refine r_bm0 ?_
  | with_reducible refine r_int ?_
  | with_reducible refine r_i2 ?_
  | with_reducible refine r_i1 ?_
  | with_reducible refine r_gcons ?_
  | with_reducible refine r_gnil ?_
  | with_reducible refine r_gsub ?_
  | with_reducible refine iteT ?_
  | with_reducible refine iteF ?_
  | with_reducible refine ite_notT ?_
  | with_reducible refine ite_notF ?_
  | with_reducible refine r_isi_ib ?_
  | with_reducible refine r_isi_ii ?_
  | with_reducible refine r_isi_bb ?_
  | with_reducible refine r_isi_nb ?_
  | with_reducible refine r_isi_nt ?_
  | ((with_reducible refine' r_isi_ll ?rdh ?_); (case rdh => first | assumption | exact upd_same))
  | ((with_reducible refine' r_isi_tt ?rdh ?_); (case rdh => first | assumption | exact upd_same))
  | with_reducible refine r_sl ?_
  | with_reducible refine r_noPart ?_
  | with_reducible refine r_part ?_
  | with_reducible refine r_int1 ?_
  | with_reducible refine r_tru ?_
  | with_reducible refine r_ckw ?_
  | with_reducible refine r_lc ?_
  | with_reducible refine r_lc2 ?_
  | with_reducible refine r_forS ?_
  | with_reducible refine r_iR1 ?_
  | with_reducible refine r_iR2 ?_
  | with_reducible refine r_iL ?_
  | ((with_reducible refine' r_lenL ?rdh ?_); (case rdh => walk_at "sq"))
  | ((with_reducible refine' r_ixL ?rdh ?rda ?_); (case rdh => walk_at "sq"); (case rda => walk_at "at"))
  | ((with_reducible refine' r_ixT ?rdh ?rda ?_); (case rdh => walk_at "sq"); (case rda => walk_at "at")))
local macro_rules | `(tactic| walk_at "sq") => `(tactic| first
  | assumption
  | exact SqL.of (by assumption)
  | exact SqL.of upd_same
  | exact SqT.of (by assumption)
  | exact SqT.of upd_same)
local macro_rules | `(tactic| walk_at "sml") => `(tactic| (rw [sizeLine_eq]; simp))
local macro_rules | `(tactic| walk_at "at") => `(tactic| first | assumption | rfl)
local macro_rules | `(tactic| walk_at "rd") => `(tactic| repeat walk_at "rd1")
section
variable {w : World} {P : Program} {base : Heap} {K : PySem.W.Frag} {mg : Str → Option Value}
def topS (i : Nat) : Stmt := PySem.Challenge.pw_heapgame_k14_first_safe_order_or_a_ring.main.body.getD i (.Pass ⟨0, 0, 0, 0⟩)
abbrev s_law_cell : Stmt := topS 7
theorem sc_law_cell : FnScope ["script", "k"] ["script", "k"] (defScope s_law_cell) := ⟨rfl, rfl, rfl, by decide +kernel, rfl, by decide +kernel, by decide +kernel⟩
abbrev s_law_digits : Stmt := topS 8
theorem sc_law_digits : FnScope ["script", "first", "last", "digits", "k", "cell", "turn", "seed"] ["script", "first", "last"] (defScope s_law_digits) := ⟨rfl, rfl, rfl, by decide +kernel, rfl, by decide +kernel, by decide +kernel⟩
abbrev s_law_draw : Stmt := topS 9
theorem sc_law_draw : FnScope ["box", "many", "at"] ["box", "many"] (defScope s_law_draw) := ⟨rfl, rfl, rfl, by decide +kernel, rfl, by decide +kernel, by decide +kernel⟩
abbrev s_law_order : Stmt := topS 12
theorem sc_law_order : FnScope ["box", "many", "left", "k", "order"] ["box", "many"] (defScope s_law_order) := ⟨rfl, rfl, rfl, by decide +kernel, rfl, by decide +kernel, by decide +kernel⟩
abbrev s_law_blocks : Stmt := topS 15
theorem sc_law_blocks : FnScope ["box", "size", "most", "blocks", "at", "k", "start", "length"] ["box", "size", "most"] (defScope s_law_blocks) := ⟨rfl, rfl, rfl, by decide +kernel, rfl, by decide +kernel, by decide +kernel⟩
abbrev s_law_starts : Stmt := topS 19
theorem sc_law_starts : FnScope ["box", "size", "layout", "order", "k", "free", "block", "starts", "at", "step"] ["box", "size", "layout"] (defScope s_law_starts) := ⟨rfl, rfl, rfl, by decide +kernel, rfl, by decide +kernel, by decide +kernel⟩
abbrev s_law_meets : Stmt := topS 21
theorem sc_law_meets : FnScope ["one", "other"] ["one", "other"] (defScope s_law_meets) := ⟨rfl, rfl, rfl, by decide +kernel, rfl, by decide +kernel, by decide +kernel⟩
abbrev s_law_can : Stmt := topS 22
theorem sc_law_can : FnScope ["now", "goals", "k", "other"] ["now", "goals", "k"] (defScope s_law_can) := ⟨rfl, rfl, rfl, by decide +kernel, rfl, by decide +kernel, by decide +kernel⟩
abbrev s_law_first : Stmt := topS 23
theorem sc_law_first : FnScope ["layout", "goals", "moving", "rows", "block", "turn", "later", "row", "k", "now"] ["layout", "goals", "moving"] (defScope s_law_first) := ⟨rfl, rfl, rfl, by decide +kernel, rfl, by decide +kernel, by decide +kernel⟩
abbrev s_law_ring : Stmt := topS 24
theorem sc_law_ring : FnScope ["layout", "goals", "moving", "left", "k", "turn", "free", "other"] ["layout", "goals", "moving"] (defScope s_law_ring) := ⟨rfl, rfl, rfl, by decide +kernel, rfl, by decide +kernel, by decide +kernel⟩
abbrev s_placed : Stmt := topS 1
theorem sc_placed : FnScope ["layout", "starts", "start", "_", "length"] ["layout", "starts"] (defScope s_placed) := ⟨rfl, rfl, rfl, by decide +kernel, rfl, by decide +kernel, by decide +kernel⟩
abbrev s_meets : Stmt := topS 3
theorem sc_meets : FnScope ["block", "other"] ["block", "other"] (defScope s_meets) := ⟨rfl, rfl, rfl, by decide +kernel, rfl, by decide +kernel, by decide +kernel⟩
abbrev s_can_move : Stmt := topS 5
theorem sc_can_move : FnScope ["blocks", "index", "goal", "others", "other"] ["blocks", "index", "goal"] (defScope s_can_move) := ⟨rfl, rfl, rfl, by decide +kernel, rfl, by decide +kernel, by decide +kernel⟩
abbrev s_schedule_moves : Stmt := topS 4
theorem sc_schedule_moves : FnScope ["size", "layout", "starts", "goals", "blocks", "waiting", "index", "goal", "order", "possible"] ["size", "layout", "starts"] (defScope s_schedule_moves) := ⟨rfl, rfl, rfl, by decide +kernel, rfl, by decide +kernel, by decide +kernel⟩
abbrev s_law : Stmt := topS 25
theorem sc_law : FnScope ["script", "box", "size", "layout", "starts", "goals", "k", "moving", "actual"] ["script"] (defScope s_law) := ⟨rfl, rfl, rfl, by decide +kernel, rfl, by decide +kernel, by decide +kernel⟩
structure Txt (mg : Str → Option Value) : Prop where
  any : mg "any" = none
  enumerate : mg "enumerate" = none
  int : mg "int" = none
  len : mg "len" = none
  list : mg "list" = none
  max : mg "max" = none
  min : mg "min" = none
  range : mg "range" = none
  sum : mg "sum" = none
  zip : mg "zip" = none
def sp_cell (K : PySem.W.Frag) : Sp := fun vs H Q _ => ∃ (a : Addr) (ns : List Int) (k : Nat), vs = [.ref a, .int k] ∧ SqL K H a (ns.map V.int) ∧ ∀ c, Q (.int c) H
theorem mk_law_cell {f : Addr} {fd : FuncData} (T : Txt mg) (F : Fun K "_law_cell" "_law_cell" s_law_cell f fd) (m : mg "_law_cell" = some (.ref f)) (b : Binds K fd ["script", "k"] []) :
    Cal P w K mg base "_law_cell" 1 f fd ["script", "k"] (sp_cell K) := by
  refine ⟨F.ok sc_law_cell (fun vs H Q E h => ?_) (fun cdv A outer s H vs Q E hr h => ?_), m, F.kp, b⟩
  · rcases h with ⟨a, ns, k, rfl, _⟩
    rfl
  obtain ⟨a, ns, k, rfl, hS, q⟩ := h
  refine ⟨_, (pss_cons (ps_if (pt_cmpR op_lt (pv 1) (pe_callB (show CallR _ _ (fun xs H Q => ∃ p ys, xs = [V.ref p] ∧ (SqL K H p ys ∨ SqT K H p ys) ∧ Q (.int ys.length) H) from call_len_seq) (by rfl) T.len PySem.boot_len (pa_cons (pv 0) pa_nil)) (nomark _))
      (pss_one (ps_ret (pe_ix (show IxR _ (rIxL K) from ix_list) (pv 0) (pv 1) (fun _ _ => rfl))))
      pss_nil) (pss_one (ps_ret pe_int))), ?_⟩
  try dsimp only [cxOf, Cx.nox, Cx.wish]
  rw [show start ["script", "k"] [V.ref a, V.int k] = [some (V.ref a), some (V.int k)] from rfl]
  refine r_seq ?_
  walk_at "rd"
  refine r_ite (fun c => ?_) (fun c => ?_)
  · rw [List.length_map] at c
    walk_at "rd"
    refine r_ixL hS (at_int (by omega) (by omega)) ?_
    exact q _
  · walk_at "rd"
    exact q _
def sp_digits (K : PySem.W.Frag) : Sp := fun vs H Q _ => ∃ (a : Addr) (ns : List Int) (f l : Nat), vs = [.ref a, .int f, .int l] ∧ SqL K H a (ns.map V.int) ∧ f ≤ l ∧ l ≤ 63 ∧
  ∀ (p : Addr) (ds : List Int) (H' : Hp), H p = none → Same H H' → H' p = some (.lst (ds.map V.int)) → ds.length ≤ 60 * (l - f) → Q (.ref p) H'
theorem mk_law_digits {f f1 : Addr} {fd fd1 : FuncData} (T : Txt mg) (F : Fun K "_law_digits" "_law_digits" s_law_digits f fd) (m : mg "_law_digits" = some (.ref f)) (b : Binds K fd ["script", "first", "last"] [])
    (C_law_cell : Cal P w K mg base "_law_cell" 1 f1 fd1 ["script", "k"] (sp_cell K)) :
    Cal P w K mg base "_law_digits" 2 f fd ["script", "first", "last"] (sp_digits K) := by
  refine ⟨F.ok sc_law_digits (fun vs H Q E h => ?_) (fun cdv A outer s H vs Q E hr h => ?_), m, F.kp, b⟩
  · obtain ⟨a, ns, f, l, rfl, _⟩ := h
    rfl
  obtain ⟨a, ns, f, l, rfl, hS, hfl, hl, q⟩ := h
  refine ⟨_, (pss_cons (ps_set (i := 3) sc_law_digits.nd rfl (Or.inl rfl) (pe_lst pa_nil)) (pss_cons (ps_for PassesOwn.never rfl (pi_range2 rfl T.range (pa_cons (pv 1) (pa_cons (pv 2) pa_nil))) (pg_name (i := 4) sc_law_digits.nd rfl (Or.inl rfl))
      (pss_cons (ps_set (i := 5) sc_law_digits.nd rfl (Or.inl rfl) (pe_call C_law_cell.ok (hr.mono (by first | decide | omega)) rfl C_law_cell.mg C_law_cell.kp C_law_cell.b .nil pass0 (pa_cons (pv 0) (pa_cons (pv 4) pa_nil)))) (pss_cons (ps_if (pt_cmpR op_lt (pv 5) pe_int (nomark _))
      (pss_one (ps_set (i := 5) sc_law_digits.nd rfl (Or.inl rfl) (pe_op op_sub pe_int (pe_op op_mul pe_int (pv 5)))))
      pss_nil) (pss_one (ps_if (pt_cmpR op_ge (pv 5) (pe_op op_pow pe_int pe_int) (nomark _))
      (pss_one (ps_for PassesOwn.never rfl (pi_range1 rfl T.range (pa_cons pe_int pa_nil)) (pg_name (i := 6) sc_law_digits.nd rfl (Or.inl rfl))
      (pss_one (ps_if (pt_cmpR op_gt (pv 5) pe_int (nomark _))
      (pss_cons (ps_expr (pe_bm PySem.F.plainAttrs_list PySem.F.slot_list_append PySem.F.type_list_append mt_append (pv 3) (pa_cons (pe_op op_mod (pe_callTy call_int1 (by rfl) T.int (by decide +kernel) (pa_cons (pv 5) pa_nil)) pe_int) pa_nil))) (pss_one (ps_set (i := 5) sc_law_digits.nd rfl (Or.inl rfl) (pe_op op_fdiv (pv 5) pe_int))))
      pss_nil))))
      (pss_cons (ps_set (i := 7) sc_law_digits.nd rfl (Or.inl rfl) (pe_op op_mod (pe_callTy call_int1 (by rfl) T.int (by decide +kernel) (pa_cons (pe_op op_add (pe_op op_add (pe_op op_mul (pv 5) pe_int) (pe_op op_mul (pv 4) pe_int)) pe_int) pa_nil)) pe_int)) (pss_one (ps_for PassesOwn.never rfl (pi_range1 rfl T.range (pa_cons pe_int pa_nil)) (pg_name (i := 6) sc_law_digits.nd rfl (Or.inl rfl))
      (pss_cons (ps_set (i := 7) sc_law_digits.nd rfl (Or.inl rfl) (pe_op op_mod (pe_callTy call_int1 (by rfl) T.int (by decide +kernel) (pa_cons (pe_op op_add (pe_op op_add (pe_op op_mul (pv 7) pe_int) (pe_op op_mul pe_int (pv 6))) pe_int) pa_nil)) pe_int)) (pss_one (ps_expr (pe_bm PySem.F.plainAttrs_list PySem.F.slot_list_append PySem.F.type_list_append mt_append (pv 3) (pa_cons (pe_op op_mod (pe_callTy call_int1 (by rfl) T.int (by decide +kernel) (pa_cons (pe_op op_fdiv (pv 7) pe_int) pa_nil)) pe_int) pa_nil))))))))))))) (pss_one (ps_ret (pv 3))))), ?_⟩
  try dsimp only [cxOf, Cx.nox, Cx.wish]
  rw [show start ["script", "first", "last", "digits", "k", "cell", "turn", "seed"] [V.ref a, V.int f, V.int l] = [some (V.ref a), some (V.int f), some (V.int l), none, none, none, none, none] from rfl]
  walk_at "rd"
  refine ⟨by decide, fun p np => ?_⟩
  walk_at "rd"
  refine ⟨by omega, ?_⟩
  refine for_range (lo := (f : Int)) (n := ((l : Int) - f).toNat) (fun i σ H' => ∃ x4 x5 x6 x7 ds, σ = [some (.ref a), some (.int f), some (.int l), some (.ref p), x4, x5, x6, x7] ∧ Same H H' ∧ H' p = some (.lst (ds.map V.int)) ∧ ds.length ≤ 60 * i)
    ⟨none, none, none, none, [], rfl, same_upd np, upd_same, by simp⟩ ?_ ?_
  · rintro i σ H1 hi ⟨x4, x5, x6, x7, ds, rfl, s1, hp, hd⟩
    have npa : ∀ z, H1 p = some z → True := fun _ _ => trivial
    walk_at "rd"
    refine ⟨a, ns, f + i, by simp, s1.seq hS, fun c => ?_⟩
    walk_at "rd"
    refine r_seqG fun R hR => ?_
    have key : ∀ c2 : Int, R [some (.ref a), some (.int f), some (.int l), some (.ref p), some (.int (f + i)), some (.int c2), x6, x7] H1 := by
      intro c2
      refine hR _ _ ?_
      walk_at "rd"
      refine r_ite (fun c => ?_) (fun c => ?_)
      · walk_at "rd"
        refine ⟨by decide, by decide, ?_⟩
        refine for_range (lo := 0) (n := 60) (fun j σ H' => ∃ (y6 : Option V) (es : List Int) (c3 : Int), σ = [some (.ref a), some (.int f), some (.int l), some (.ref p), some (.int (f + i)), some (.int c3), y6, x7] ∧ Same H H' ∧ H' p = some (.lst (es.map V.int)) ∧ es.length ≤ 60 * i + j)
          ⟨x6, ds, c2, rfl, s1, hp, by omega⟩ ?_ ?_
        · rintro j σ H2 hj ⟨y6, es, c3, rfl, s2, hp2, he⟩
          walk_at "rd"
          refine r_ite (fun c => ?_) (fun c => ?_)
          · walk_at "rd"
            refine ⟨ty_lst hp2, ?_⟩
            walk_at "rd"
            refine r_app hp2 (by rw [List.length_map, sizeLine_eq]; omega) fun H3 hp3 u3 => ?_
            walk_at "rd"
            exact ⟨_, es ++ [c3 % 1000], _, rfl, u3.new np s2, by rw [hp3, List.map_append]; rfl, by rw [List.length_append]; simp; omega⟩
          · walk_at "rd"
            exact ⟨_, es, c3, rfl, s2, hp2, by omega⟩
        · rintro σ H2 ⟨y6, es, c3, rfl, s2, hp2, he⟩
          exact ⟨_, _, _, _, es, rfl, s2, hp2, by omega⟩
      · walk_at "rd"
        refine ⟨by decide, by decide, ?_⟩
        refine for_range (lo := 0) (n := 12) (fun j σ H' => ∃ (y6 : Option V) (es : List Int) (c3 : Int), σ = [some (.ref a), some (.int f), some (.int l), some (.ref p), some (.int (f + i)), some (.int c2), y6, some (.int c3)] ∧ Same H H' ∧ H' p = some (.lst (es.map V.int)) ∧ es.length ≤ 60 * i + j)
          ⟨x6, ds, _, rfl, s1, hp, by omega⟩ ?_ ?_
        · rintro j σ H2 hj ⟨y6, es, c3, rfl, s2, hp2, he⟩
          walk_at "rd"
          refine ⟨ty_lst hp2, ?_⟩
          walk_at "rd"
          refine r_app hp2 (by rw [List.length_map, sizeLine_eq]; omega) fun H3 hp3 u3 => ?_
          walk_at "rd"
          exact ⟨_, es ++ [_], _, rfl, u3.new np s2, by rw [hp3, List.map_append]; rfl, by rw [List.length_append]; simp; omega⟩
        · rintro σ H2 ⟨y6, es, c3, rfl, s2, hp2, he⟩
          exact ⟨_, _, _, _, es, rfl, s2, hp2, by omega⟩
    walk_at "rd"
    refine r_ite (fun c => ?_) (fun c => ?_)
    · walk_at "rd"
      exact key _
    · walk_at "rd"
      exact key _
  · rintro σ H1 ⟨x4, x5, x6, x7, ds, rfl, s1, hp, hd⟩
    walk_at "rd"
    exact q p ds H1 np s1 hp (by omega)
theorem mk_law_draw {f : Addr} {fd : FuncData} (T : Txt mg) (F : Fun K "_law_draw" "_law_draw" s_law_draw f fd) (m : mg "_law_draw" = some (.ref f)) (b : Binds K fd ["box", "many"] []) :
    Cal P w K mg base "_law_draw" 1 f fd ["box", "many"] (spB (fun bx (i : Int × Unit) => drawF bx i.1)) := by
  refine ⟨F.ok sc_law_draw (fun vs H Q E h => ?_) (fun cdv A outer s H vs Q E hr h => ?_), m, F.kp, b⟩
  · obtain ⟨ms, b, us, bx0, bx', ⟨i, ⟨⟩⟩, r, rfl, _, _, _, ⟨v, _, rfl, f1, e0⟩, _⟩ := h
    cases e0
    rfl
  obtain ⟨ms, b, us, ⟨ds, k⟩, ⟨ds', k'⟩, ⟨i, ⟨⟩⟩, r, rfl, hbm, al, ⟨d, hb, nd, ndm, hd⟩, ⟨v, _, rfl, f1, e0⟩, hm, Q⟩ := h
  cases e0
  obtain rfl : v = V.int i := f1
  have hm : drawF (ds, k) i = some (r, (ds', k')) := hm
  unfold drawF at hm
  split at hm
  case isFalse => cases hm
  rename_i hi
  obtain ⟨e1, e2⟩ := Prod.mk.inj (Option.some.inj hm)
  obtain ⟨e3, e4⟩ := Prod.mk.inj e2
  subst e1 e3 e4
  dsimp only at hb hd
  refine ⟨_, (pss_cons (ps_set (i := 2) sc_law_draw.nd rfl (Or.inl rfl) (pe_ix (show IxR _ (rIxL K) from ix_list) (pv 0) pe_int (fun _ _ => rfl))) (pss_cons (ps_asg (pe_op op_add (pv 2) pe_int) (pg_sub (pv 0) pe_int set_list)) (pss_cons (ps_if (pt_cmpR op_lt (pv 2) (pe_callB (show CallR _ _ (fun xs H Q => ∃ p ys, xs = [V.ref p] ∧ (SqL K H p ys ∨ SqT K H p ys) ∧ Q (.int ys.length) H) from call_len_seq) (by rfl) T.len PySem.boot_len (pa_cons (pe_ix (show IxR _ (rIxL K) from ix_list) (pv 0) pe_int (fun _ _ => rfl)) pa_nil)) (nomark _))
      (pss_one (ps_ret (pe_op op_mod (pe_callTy call_int1 (by rfl) T.int (by decide +kernel) (pa_cons (pe_ix (show IxR _ (rIxL K) from ix_list) (pe_ix (show IxR _ (rIxL K) from ix_list) (pv 0) pe_int (fun _ _ => rfl)) (pv 2) (fun _ _ => rfl)) pa_nil)) (pv 1))))
      pss_nil) (pss_one (ps_ret pe_int))))), ?_⟩
  try dsimp only [cxOf, Cx.nox, Cx.wish]
  rw [show start ["box", "many", "at"] [V.ref b, V.int i] = [some (V.ref b), some (V.int i), none] from rfl]
  walk_at "rd"
  refine r_setL hb (j := 1) rfl fun H1 hb1 u1 => ?_
  have hd1 := u1 _ _ nd hd
  have al1 := al.but u1 hb1
  have bu : Bu [b] H H1 := ⟨fun a o n e => u1 a o (fun z => n (by rw [z]; exact List.mem_cons_self)) e, fun a e => by
    by_cases q : a = b
    · rw [q, hb1]; exact fun z => by cases z
    · cases h' : H a with
      | none => exact absurd h' e
      | some o' => rw [u1 a o' q h']; exact fun z => by cases z⟩
  have hq1 : Bxs b (ds, k + 1) ms H1 := ⟨d, hb1, nd, ndm, hd1⟩
  refine r_seq ?_
  walk_at "rd"
  refine r_ite (fun c => ?_) (fun c => ?_)
  · rw [List.length_map] at c
    walk_at "rd"
    refine r_ixL (SqL.of hd1) (at_int (by omega) (by omega)) ?_
    walk_at "rd"
    refine Q _ _ bu hq1 ?_
    rw [if_pos (by dsimp only; omega)]
    rfl
  · walk_at "rd"
    refine Q _ _ bu hq1 ?_
    rw [List.length_map] at c
    rw [if_neg (by dsimp only; omega)]
    rfl
end
end Pf

namespace Pf
open PySem L2
local macro_rules | `(tactic| walk_at "rd1") => `(tactic| first
  | with_reducible refine r_seqA ?_
  | with_reducible refine r_seqD ?_
  | with_reducible refine r_seqF ?_
  | with_reducible refine r_seqN ?_
  | with_reducible refine r_asg ?_
  | with_reducible refine r_drop ?_
  | with_reducible refine r_ret ?_
  | with_reducible refine r_ifS ?_
  | ((with_reducible refine r_next ?_); try dsimp only)
  | ((with_reducible refine r_name ?_); try dsimp only [List.set_cons_succ, List.set_cons_zero, wipe])
  | ((with_reducible refine' r_var ?rdh ?_); (case rdh => rfl))
  | with_reducible refine r_c ?_
  | with_reducible refine r_op ?_
  | with_reducible refine r_un ?_
  | with_reducible refine r_I0 ?_
  | ((with_reducible refine r_I ?_ ?_); (· first | decide | exact Or.inl (by decide) | exact Or.inr (by decide) | (show _ ∧ _; constructor <;> decide) | (show (0:Int) < _; omega) | (show CDiv _ _; unfold CDiv; omega) ))
  | with_reducible refine r_U ?_
  | with_reducible refine r_eqI ?_
  | with_reducible refine r_neI ?_
  | with_reducible refine r_eqB ?_
  | with_reducible refine r_neB ?_
  | with_reducible refine r_test ?_
  | with_reducible refine r_B ?_
  | with_reducible refine r_bl ?_
  | with_reducible refine r_bl2 ?_
  | with_reducible refine r_yes ?_
  | with_reducible refine r_wipe (by rfl) ?_
  | with_reducible refine r_rfl ?_
  | ((with_reducible refine' r_eqA ?rdh ?_); (case rdh => rfl))
  | with_reducible refine r_and ?_
  | with_reducible refine r_or ?_
  | with_reducible refine r_not ?_
  | with_reducible refine r_andV ?_
  | with_reducible refine r_orV ?_
  | with_reducible refine r_notV ?_
  | with_reducible refine r_ifE ?_
  | with_reducible refine r_nil ?_
  | with_reducible refine r_cons ?_
  | with_reducible refine r_tup ?_
  | with_reducible refine r_lst ?_
  | with_reducible refine r_CB ?_
  | with_reducible refine r_call ?_
  | with_reducible refine r_bm ?_
  | with_reducible refine r_bm0 ?_
  | with_reducible refine r_int ?_
  | with_reducible refine r_i2 ?_
  | with_reducible refine r_i1 ?_
  | with_reducible refine r_gcons ?_
  | with_reducible refine r_gnil ?_
  | with_reducible refine r_gsub ?_
  | with_reducible refine iteT ?_
  | with_reducible refine iteF ?_
  | with_reducible refine ite_notT ?_
  | with_reducible refine ite_notF ?_
  | with_reducible refine r_isi_ib ?_
  | with_reducible refine r_isi_ii ?_
  | with_reducible refine r_isi_bb ?_
  | with_reducible refine r_isi_nb ?_
  | with_reducible refine r_isi_nt ?_
  | ((with_reducible refine' r_isi_ll ?rdh ?_); (case rdh => first | assumption | exact upd_same))
  | ((with_reducible refine' r_isi_tt ?rdh ?_); (case rdh => first | assumption | exact upd_same))
  | with_reducible refine r_sl ?_
  | with_reducible refine r_noPart ?_
  | with_reducible refine r_part ?_
  | with_reducible refine r_int1 ?_
  | with_reducible refine r_tru ?_
  | with_reducible refine r_ckw ?_
  | with_reducible refine r_lc ?_
  | with_reducible refine r_lc2 ?_
  | with_reducible refine r_forS ?_
  | with_reducible refine r_iR1 ?_
  | with_reducible refine r_iR2 ?_
  | with_reducible refine r_iL ?_
  | ((with_reducible refine' r_lenL ?rdh ?_); (case rdh => walk_at "sq"))
  | ((with_reducible refine' r_ixL ?rdh ?rda ?_); (case rdh => walk_at "sq"); (case rda => walk_at "at"))
  | ((with_reducible refine' r_ixT ?rdh ?rda ?_); (case rdh => walk_at "sq"); (case rda => walk_at "at")))
local macro_rules | `(tactic| walk_at "sq") => `(tactic| first
  | assumption
  | exact SqL.of (by assumption)
  | exact SqL.of upd_same
  | exact SqT.of (by assumption)
  | exact SqT.of upd_same)
local macro_rules | `(tactic| walk_at "sml") => `(tactic| (rw [sizeLine_eq]; simp))
local macro_rules | `(tactic| walk_at "at") => `(tactic| first | assumption | rfl)
local macro_rules | `(tactic| walk_at "rd") => `(tactic| repeat walk_at "rd1")
section
variable {w : World} {P : Program} {base : Heap} {K : PySem.W.Frag} {mg : Str → Option Value}
def law_blocksM (bx0 : List Int × Nat) (p_size : Int) (p_most : Int) : Option ((List (Int × Int)) × (List Int × Nat)) :=
  bnd (([] : List (Int × Int))) fun blocks_1 => bnd ((0 : Int)) fun at_3 => (rng1 p_most).bind fun rg_6 => (fold (fun (y_13 : Int) (x : ((List (Int × Int)) × Int × (List Int × Nat))) => match x with | (blocks_9, at_10, bx_11) => (law_drawM bx_11 (6 : Int)).bind fun (t_17, bx_18) => (atI [(0 : Int), (0 : Int), (0 : Int), (1 : Int), (1 : Int), (2 : Int)] t_17).bind fun t_19 => bnd ((at_10 + t_19)) fun start_20 => (law_drawM bx_18 (6 : Int)).bind fun (t_23, bx_24) => (atI [(0 : Int), (0 : Int), (1 : Int), (1 : Int), (2 : Int), (3 : Int)] t_23).bind fun t_25 => bnd (((1 : Int) + t_25)) fun length_26 => (if (decide ((start_20 + length_26) ≤ p_size)) = true then (law_drawM bx_24 (6 : Int)).bind fun (t_31, bx_32) => some ((decide ((0 : Int) < t_31)), bx_32) else some (false, bx_24)).bind fun (t_33, bx_34) => if t_33 = true then ((appF blocks_9 (start_20, length_26)).bind fun blocks_36 => bnd ((start_20 + length_26)) fun at_38 => some (blocks_36, at_38, bx_34)) else (some (blocks_9, at_10, bx_34)) : Int → ((List (Int × Int)) × Int × (List Int × Nat)) → Option ((List (Int × Int)) × Int × (List Int × Nat))) rg_6 (blocks_1, at_3, bx0)).bind fun x => match x with | (blocks_9, at_10, bx_11) => some (blocks_9, bx_11)
theorem mk_law_blocks {f f1 : Addr} {fd fd1 : FuncData} (T : Txt mg) (F : Fun K "_law_blocks" "_law_blocks" s_law_blocks f fd) (m : mg "_law_blocks" = some (.ref f)) (b : Binds K fd ["box", "size", "most"] [])
    (C_law_draw : Cal P w K mg base "_law_draw" 1 f1 fd1 ["box", "many"] (spB (fun bx (i : Int × Unit) => law_drawM bx i.1))) :
    Cal P w K mg base "_law_blocks" 2 f fd ["box", "size", "most"] (spB (fun bx (i : Int × Int × Unit) => law_blocksM bx i.1 i.2.1)) := by
  refine ⟨F.ok sc_law_blocks (fun vs H Q E h => ?_) (fun cdv A outer s H vs Q E hr h => ?_), m, F.kp, b⟩
  · obtain ⟨ms, b, us, bx0, bx', ⟨p_size, p_most, ⟨⟩⟩, r, rfl, _, _, _, ⟨v_p_size, _, rfl, f_p_size, ⟨v_p_most, _, rfl, f_p_most, e0⟩⟩, _⟩ := h
    cases e0
    rfl
  obtain ⟨ms, b, us, bx0, bx', ⟨p_size, p_most, ⟨⟩⟩, r, rfl, hb, al, hq, ⟨v_p_size, _, rfl, f_p_size, ⟨v_p_most, _, rfl, f_p_most, e0⟩⟩, hm, Q⟩ := h
  cases e0
  obtain rfl : v_p_size = V.int p_size := f_p_size
  obtain rfl : v_p_most = V.int p_most := f_p_most
  refine ⟨_, (pss_cons (ps_set (i := 3) sc_law_blocks.nd rfl (Or.inl rfl) (pe_lst pa_nil)) (pss_cons (ps_set (i := 4) sc_law_blocks.nd rfl (Or.inl rfl) pe_int) (pss_cons (ps_for PassesOwn.never rfl (pi_range1 rfl T.range (pa_cons (pv 2) pa_nil)) (pg_name (i := 5) sc_law_blocks.nd rfl (Or.inl rfl))
      (pss_cons (ps_set (i := 6) sc_law_blocks.nd rfl (Or.inl rfl) (pe_op op_add (pv 4) (pe_ix (show IxR _ (rIxL K) from ix_list) (pe_lst (pa_cons pe_int (pa_cons pe_int (pa_cons pe_int (pa_cons pe_int (pa_cons pe_int (pa_cons pe_int pa_nil))))))) (pe_call C_law_draw.ok (hr.mono (by first | decide | omega)) rfl C_law_draw.mg C_law_draw.kp C_law_draw.b .nil pass0 (pa_cons (pv 0) (pa_cons pe_int pa_nil))) (fun _ _ => rfl)))) (pss_cons (ps_set (i := 7) sc_law_blocks.nd rfl (Or.inl rfl) (pe_op op_add pe_int (pe_ix (show IxR _ (rIxL K) from ix_list) (pe_lst (pa_cons pe_int (pa_cons pe_int (pa_cons pe_int (pa_cons pe_int (pa_cons pe_int (pa_cons pe_int pa_nil))))))) (pe_call C_law_draw.ok (hr.mono (by first | decide | omega)) rfl C_law_draw.mg C_law_draw.kp C_law_draw.b .nil pass0 (pa_cons (pv 0) (pa_cons pe_int pa_nil))) (fun _ _ => rfl)))) (pss_one (ps_if (PW.pt (pw_and (pt_cmpR op_le (pe_op op_add (pv 6) (pv 7)) (pv 1) (nomark _)) (pw_and1 (pt_cmpR op_gt (pe_call C_law_draw.ok (hr.mono (by first | decide | omega)) rfl C_law_draw.mg C_law_draw.kp C_law_draw.b .nil pass0 (pa_cons (pv 0) (pa_cons pe_int pa_nil))) pe_int (nomark _)))))
      (pss_cons (ps_expr (pe_bm PySem.F.plainAttrs_list PySem.F.slot_list_append PySem.F.type_list_append mt_append (pv 3) (pa_cons (pe_tup (pa_cons (pv 6) (pa_cons (pv 7) pa_nil))) pa_nil))) (pss_one (ps_set (i := 4) sc_law_blocks.nd rfl (Or.inl rfl) (pe_op op_add (pv 6) (pv 7)))))
      pss_nil))))) (pss_one (ps_ret (pv 3)))))), ?_⟩
  try dsimp only [cxOf, Cx.nox, Cx.wish]
  rw [show start ["box", "size", "most", "blocks", "at", "k", "start", "length"] [V.ref b, V.int p_size, V.int p_most] = [some (V.ref b), some (V.int p_size), some (V.int p_most), none, none, none, none, none] from rfl]
  have hB0 : ∀ a ∈ [b], a ∈ ms := fun a h => by rw [List.mem_singleton.mp h]; exact hb
  have W : Wd [b] ms H := ⟨hB0, al⟩
  have hm : law_blocksM bx0 p_size p_most = some (r, bx') := hm
  have u : Bu [b] H H := Bu.refl _ H
  unfold law_blocksM at hm
  obtain ⟨blocks_1, e_blocks_1, hm⟩ := bnd_inv hm
  refine r_seqA ?_
  refine En.mk W (en_lst (xs := ([] : List (Int × Int))) W sb_bxs (by simp) es_nil) hq fun ablocks_1 H_2 bb na hq' W' M l_ablocks_1 => ?_
  rw [← e_blocks_1] at l_ablocks_1
  have o_ablocks_1 := W.al.not na
  have n_ablocks_1 : ablocks_1 ∉ [b] := fun z => W.al.not na (W.hB _ z)
  have m_ablocks_1 : ablocks_1 ∈ ablocks_1 :: ms := List.mem_cons_self
  have h_ablocks_1 := u.none na
  have u := u.trans bb
  have W := W'
  have hq := hq'
  refine r_name ?_
  dsimp only [List.set_cons_succ, List.set_cons_zero]
  obtain ⟨at_3, e_at_3, hm⟩ := bnd_inv hm
  refine r_seqA ?_
  refine Ex.go W (ex_int 0) hq fun v_5 H_4 bb hq W M rv => ?_
  rw [← e_at_3] at rv
  have l_ablocks_1 := l_ablocks_1.step M fun o e => bb.1 _ o n_ablocks_1 e
  have u := u.trans bb
  obtain rfl : v_5 = V.int at_3 := rv
  refine (bnd_name : Bnd _ _ _ _ _) _ ?_
  dsimp only [List.set_cons_succ, List.set_cons_zero]
  obtain ⟨rg_6, e_rg_6, hm⟩ := bind_inv hm
  refine r_seqF' ?_
  refine r_for W (ei_rng1 (ea_cons W (ex_vi rfl) ea_nil) e_rg_6) hq fun J N_8 H_7 bb hq W M st_nN_8 nN_8 ok_N_8 => ?_
  have l_ablocks_1 := l_ablocks_1.step M fun o e => bb.1 _ o n_ablocks_1 e
  have u := u.trans bb
  obtain ⟨out_14, e_out_14, hm⟩ := bind_inv hm
  have hgoN_8 := hm
  clear hm
  refine wk_fold (ms := ablocks_1 :: ms) ok_N_8 e_out_14 (fun x σ H' => match x with | (blocks_9, at_10, bx_11) => ∃ (xl_k : Option V), ∃ (xl_start : Option V), ∃ (xl_length : Option V), σ = [some (.ref b), some (.int p_size), some (.int p_most), some (.ref ablocks_1), some (.int at_10), xl_k, xl_start, xl_length] ∧ Bu [b] H H' ∧ (Bxs b bx_11) (ablocks_1 :: ms) H' ∧ Wd [b] (ablocks_1 :: ms) H' ∧ N_8 (ablocks_1 :: ms) H' ∧ Ls (ablocks_1 :: ms) H' ablocks_1 blocks_9) ⟨_, _, _, rfl, u, hq, W, nN_8, l_ablocks_1⟩ ?_ ?_ ?_
  · intro x σ H' hI
    obtain ⟨blocks_9, at_10, bx_11⟩ := x
    try dsimp only at hI
    obtain ⟨xl_k, xl_start, xl_length, rfl, u, hq, W, nN_8, l_ablocks_1⟩ := hI
    exact ⟨nN_8, W.al⟩
  · intro y_13 v x x' σ H_15 H_16 hI s1 rv hf
    obtain ⟨blocks_9, at_10, bx_11⟩ := x
    try dsimp only at hI
    obtain ⟨xl_k, xl_start, xl_length, rfl, u, hq, W, nN_8, l_ablocks_1⟩ := hI
    have hm := hf
    try dsimp only at hm
    have bb : Bu [b] H_15 H_16 := Bu.same s1
    have M : Mv (ablocks_1 :: ms) H_15 (ablocks_1 :: ms) H_16 := Mv.same s1
    have hq := sb_bxs.same s1 hq
    have W := W.bu bb
    have l_ablocks_1 := l_ablocks_1.step M fun o e => bb.1 _ o n_ablocks_1 e
    have nN_8 := st_nN_8.mv nN_8 M
    have u := u.trans bb
    obtain rfl : v = V.int y_13 := rv
    refine (bnd_name : Bnd _ _ _ _ _) _ ?_
    dsimp only [List.set_cons_succ, List.set_cons_zero]
    obtain ⟨⟨t_17, bx_18⟩, e_t_17, hm⟩ := bind_inv hm
    dsimp only at hm
    obtain ⟨t_19, e_t_19, hm⟩ := bind_inv hm
    obtain ⟨start_20, e_start_20, hm⟩ := bnd_inv hm
    refine r_seqA ?_
    refine Ex.go W (ex_opI0 (z := (at_10 + t_19)) (fun _ _ => rfl) (ex_vi rfl) (ex_ixL (el_of W.hB (En.ex sb_bxs (en_lst (xs := [(0 : Int), (0 : Int), (0 : Int), (1 : Int), (1 : Int), (2 : Int)]) W sb_bxs (by simp) (es_cons W (ex_int 0) (es_cons W (ex_int 0) (es_cons W (ex_int 0) (es_cons W (ex_int 1) (es_cons W (ex_int 1) (es_cons W (ex_int 2) es_nil))))))))) (ex_callB (i := ((6 : Int), ())) W (v := 0) rfl (ea_cons W (ex_int 6) ea_nil) e_t_17) W e_t_19)) hq fun v_22 H_21 bb hq W M rv => ?_
    rw [← e_start_20] at rv
    have l_ablocks_1 := l_ablocks_1.step M fun o e => bb.1 _ o n_ablocks_1 e
    have nN_8 := st_nN_8.mv nN_8 M
    have u := u.trans bb
    obtain rfl : v_22 = V.int start_20 := rv
    refine (bnd_name : Bnd _ _ _ _ _) _ ?_
    dsimp only [List.set_cons_succ, List.set_cons_zero]
    obtain ⟨⟨t_23, bx_24⟩, e_t_23, hm⟩ := bind_inv hm
    dsimp only at hm
    obtain ⟨t_25, e_t_25, hm⟩ := bind_inv hm
    obtain ⟨length_26, e_length_26, hm⟩ := bnd_inv hm
    refine r_seqA ?_
    refine Ex.go W (ex_opI0 (z := ((1 : Int) + t_25)) (fun _ _ => rfl) (ex_int 1) (ex_ixL (el_of W.hB (En.ex sb_bxs (en_lst (xs := [(0 : Int), (0 : Int), (1 : Int), (1 : Int), (2 : Int), (3 : Int)]) W sb_bxs (by simp) (es_cons W (ex_int 0) (es_cons W (ex_int 0) (es_cons W (ex_int 1) (es_cons W (ex_int 1) (es_cons W (ex_int 2) (es_cons W (ex_int 3) es_nil))))))))) (ex_callB (i := ((6 : Int), ())) W (v := 0) rfl (ea_cons W (ex_int 6) ea_nil) e_t_23) W e_t_25)) hq fun v_28 H_27 bb hq W M rv => ?_
    rw [← e_length_26] at rv
    have l_ablocks_1 := l_ablocks_1.step M fun o e => bb.1 _ o n_ablocks_1 e
    have nN_8 := st_nN_8.mv nN_8 M
    have u := u.trans bb
    obtain rfl : v_28 = V.int length_26 := rv
    refine (bnd_name : Bnd _ _ _ _ _) _ ?_
    dsimp only [List.set_cons_succ, List.set_cons_zero]
    obtain ⟨⟨t_33, bx_34⟩, e_t_33, hm⟩ := bind_inv hm
    dsimp only at hm
    refine r_ifS ?_
    refine Et.go W (et_and (d := t_33) (r := Bxs b bx_34) (et_test (ex_opI0 (z := (decide ((start_20 + length_26) ≤ p_size))) (fun _ _ => rfl) (ex_opI0 (z := (start_20 + length_26)) (fun _ _ => rfl) (ex_vi rfl) (ex_vi rfl)) (ex_vi rfl))) (fun c => by
            have hm := (if_pos c).symm.trans e_t_33
            obtain ⟨⟨t_31, bx_32⟩, e_t_31, hm⟩ := bind_inv hm
            dsimp only at hm
            rw [← (Prod.mk.inj (Option.some.inj hm)).1, ← (Prod.mk.inj (Option.some.inj hm)).2]
            exact (et_test (ex_opI0 (z := (decide ((0 : Int) < t_31))) (fun _ _ => rfl) (ex_callB (i := ((6 : Int), ())) W (v := 0) rfl (ea_cons W (ex_int 6) ea_nil) e_t_31) (ex_int 0))))
            (fun c => by
            have hm := (if_neg (by rw [c]; decide)).symm.trans e_t_33
            cases hm
            exact ⟨rfl, fun _ h => h⟩)) hq fun H_35 bb hq W M => ?_
    have l_ablocks_1 := l_ablocks_1.step M fun o e => bb.1 _ o n_ablocks_1 e
    have nN_8 := st_nN_8.mv nN_8 M
    have u := u.trans bb
    refine ite_by (fun hc => ?_) (fun hc => ?_)
    · have hm := (if_pos hc).symm.trans hm
      obtain ⟨blocks_36, e_blocks_36, hm⟩ := bind_inv hm
      refine r_seqD ?_
      refine s_app rfl W rfl l_ablocks_1 m_ablocks_1 n_ablocks_1 sb_bxs (ea_cons W (ex_tup2 W sb_bxs (u := (start_20, length_26)) (ea_cons W (ex_vi rfl) (ea_cons W (ex_vi rfl) ea_nil))) ea_nil) hq e_blocks_36 fun H_37 bb hq W M l_ablocks_1 => ?_
      have nN_8 := st_nN_8.mv nN_8 M
      have u := u.own2 h_ablocks_1 bb
      obtain ⟨at_38, e_at_38, hm⟩ := bnd_inv hm
      refine r_asg ?_
      refine Ex.go W (ex_opI0 (z := (start_20 + length_26)) (fun _ _ => rfl) (ex_vi rfl) (ex_vi rfl)) hq fun v_40 H_39 bb hq W M rv => ?_
      rw [← e_at_38] at rv
      have l_ablocks_1 := l_ablocks_1.step M fun o e => bb.1 _ o n_ablocks_1 e
      have nN_8 := st_nN_8.mv nN_8 M
      have u := u.trans bb
      obtain rfl : v_40 = V.int at_38 := rv
      refine (bnd_name : Bnd _ _ _ _ _) _ ?_
      dsimp only [List.set_cons_succ, List.set_cons_zero]
      try dsimp only
      try dsimp only
      try dsimp only
      cases hm
      exact ⟨_, _, _, rfl, u, hq, W, nN_8, l_ablocks_1⟩
    · have hm := (if_neg hc).symm.trans hm
      refine r_next ?_
      try dsimp only
      try dsimp only
      cases hm
      exact ⟨_, _, _, rfl, u, hq, W, nN_8, l_ablocks_1⟩
  · intro σ H_12 hI
    obtain ⟨blocks_9, at_10, bx_11⟩ := out_14
    try dsimp only at hI
    obtain ⟨xl_k, xl_start, xl_length, rfl, u, hq, W, nN_8, l_ablocks_1⟩ := hI
    have hm := hgoN_8
    try dsimp only at hm
    try dsimp only
    have sub : ∀ a ∈ ms, a ∈ ablocks_1 :: ms := ((.cons _ (.refl _)) : List.Sublist (ms) (ablocks_1 :: ms)).subset
    have M : Mv (ablocks_1 :: ms) H_12 (ms) H_12 := Mv.less sub
    have hq := sb_bxs _ _ _ _ hq M fun _ _ _ e => e
    have W : Wd [b] (ms) H_12 := ⟨fun a h => hB0 a h, W.al.less sub⟩
    have f_blocks_9 : Rp.rp (ms) H_12 (.ref ablocks_1) blocks_9 := ⟨ablocks_1, rfl, o_ablocks_1, l_ablocks_1.less sub⟩
    obtain ⟨hm1, hm2⟩ := Prod.mk.inj (Option.some.inj hm)
    subst hm1
    subst hm2
    refine r_ret' ?_
    refine Ex.go W (ex_var W rfl f_blocks_9) hq fun v H_41 bb hq W M rv => ?_
    exact Q v _ (u.trans bb) (hq) (rv)
theorem blocksM_ok (bx : List Int × Nat) {size most : Int} (h0 : 0 ≤ size) (h1 : 0 ≤ most) (h2 : most ≤ 1000) : ∃ bs bx', law_blocksM bx size most = some (bs, bx') ∧ VL size 0 bs ∧ (bs.length : Int) ≤ most := by
  unfold law_blocksM
  simp only [bnd, rng1_ok (j := most) (by omega), Option.bind_some]
  generalize hF : fold _ _ _ = z
  have key : ∃ out, z = some out ∧ VL size 0 out.1 ∧ endOf 0 out.1 = out.2.1 ∧ (out.1.length : Int) ≤ (rngL 0 most.toNat).length := by
    rw [← hF]
    refine fold_ex (fun i (x : List (Int × Int) × Int × (List Int × Nat)) => VL size 0 x.1 ∧ endOf 0 x.1 = x.2.1 ∧ (x.1.length : Int) ≤ i) ⟨h0, rfl, by simp⟩ ?_
    rintro i a ⟨bs, e, bx⟩ ha ⟨hv, he, hl⟩
    have hi := (List.getElem?_eq_some_iff.mp ha).1
    rw [rngL_len] at hi
    dsimp only at hv he hl ⊢
    obtain ⟨r1, n1, e1, p1, q1⟩ := drawF_ok (bx := bx) (m := 6) (by decide)
    obtain ⟨v1, m1, w1⟩ := at_mem (xs := [(0 : Int), 0, 0, 1, 1, 2]) p1 q1
    obtain ⟨r2, n2, e2, p2, q2⟩ := drawF_ok (bx := (bx.1, n1)) (m := 6) (by decide)
    obtain ⟨v2, m2, w2⟩ := at_mem (xs := [(0 : Int), 0, 1, 1, 2, 3]) p2 q2
    obtain ⟨r3, n3, e3, p3, q3⟩ := drawF_ok (bx := (bx.1, n2)) (m := 6) (by decide)
    have g1 : 0 ≤ v1 := by simp at m1; omega
    have g2 : 0 ≤ v2 := by simp at m2; omega
    simp only [e1, w1, e2, w2, Option.bind_some, decide_eq_true_eq]
    by_cases c : e + v1 + (1 + v2) ≤ size
    · simp only [c, if_true, e3, Option.bind_some, decide_eq_true_eq]
      by_cases c2 : 0 < r3
      · simp only [c2, if_true]
        rw [appF_ok (by omega)]
        refine ⟨_, rfl, hv.snoc (by omega) (by omega) (by omega), ?_, ?_⟩
        · dsimp only; rw [endOf_snoc]
        · dsimp only; rw [List.length_append]; simp; omega
      · simp only [c2, if_false]
        exact ⟨_, rfl, hv, he, by dsimp only; omega⟩
    · simp only [c, if_false, Option.bind_some]
      exact ⟨_, rfl, hv, he, by dsimp only; omega⟩
  obtain ⟨⟨bs, e, bx'⟩, rfl, k1, k2, k3⟩ := key
  rw [rngL_len] at k3
  exact ⟨bs, bx', rfl, k1, by dsimp only at k3; omega⟩
end
end Pf

namespace Pf
open PySem L2
local macro_rules | `(tactic| walk_at "rd1") => `(tactic| first
  | with_reducible refine r_seqA ?_
  | with_reducible refine r_seqD ?_
  | with_reducible refine r_seqF ?_
  | with_reducible refine r_seqN ?_
  | with_reducible refine r_asg ?_
  | with_reducible refine r_drop ?_
  | with_reducible refine r_ret ?_
  | with_reducible refine r_ifS ?_
  | ((with_reducible refine r_next ?_); try dsimp only)
  | ((with_reducible refine r_name ?_); try dsimp only [List.set_cons_succ, List.set_cons_zero, wipe])
  | ((with_reducible refine' r_var ?rdh ?_); (case rdh => rfl))
  | with_reducible refine r_c ?_
  | with_reducible refine r_op ?_
  | with_reducible refine r_un ?_
  | with_reducible refine r_I0 ?_
  | ((with_reducible refine r_I ?_ ?_); (· first | decide | exact Or.inl (by decide) | exact Or.inr (by decide) | (show _ ∧ _; constructor <;> decide) | (show (0:Int) < _; omega) | (show CDiv _ _; unfold CDiv; omega) ))
  | with_reducible refine r_U ?_
  | with_reducible refine r_eqI ?_
  | with_reducible refine r_neI ?_
  | with_reducible refine r_eqB ?_
  | with_reducible refine r_neB ?_
  | with_reducible refine r_test ?_
  | with_reducible refine r_B ?_
  | with_reducible refine r_bl ?_
  | with_reducible refine r_bl2 ?_
  | with_reducible refine r_yes ?_
  | with_reducible refine r_wipe (by rfl) ?_
  | with_reducible refine r_rfl ?_
  | ((with_reducible refine' r_eqA ?rdh ?_); (case rdh => rfl))
  | with_reducible refine r_and ?_
  | with_reducible refine r_or ?_
  | with_reducible refine r_not ?_
  | with_reducible refine r_andV ?_
  | with_reducible refine r_orV ?_
  | with_reducible refine r_notV ?_
  | with_reducible refine r_ifE ?_
  | with_reducible refine r_nil ?_
  | with_reducible refine r_cons ?_
  | with_reducible refine r_tup ?_
  | with_reducible refine r_lst ?_
  | with_reducible refine r_CB ?_
  | with_reducible refine r_call ?_
  | with_reducible refine r_bm ?_
  | with_reducible refine r_bm0 ?_
  | with_reducible refine r_int ?_
  | with_reducible refine r_i2 ?_
  | with_reducible refine r_i1 ?_
  | with_reducible refine r_gcons ?_
  | with_reducible refine r_gnil ?_
  | with_reducible refine r_gsub ?_
  | with_reducible refine iteT ?_
  | with_reducible refine iteF ?_
  | with_reducible refine ite_notT ?_
  | with_reducible refine ite_notF ?_
  | with_reducible refine r_isi_ib ?_
  | with_reducible refine r_isi_ii ?_
  | with_reducible refine r_isi_bb ?_
  | with_reducible refine r_isi_nb ?_
  | with_reducible refine r_isi_nt ?_
  | ((with_reducible refine' r_isi_ll ?rdh ?_); (case rdh => first | assumption | exact upd_same))
  | ((with_reducible refine' r_isi_tt ?rdh ?_); (case rdh => first | assumption | exact upd_same))
  | with_reducible refine r_sl ?_
  | with_reducible refine r_noPart ?_
  | with_reducible refine r_part ?_
  | with_reducible refine r_int1 ?_
  | with_reducible refine r_tru ?_
  | with_reducible refine r_ckw ?_
  | with_reducible refine r_lc ?_
  | with_reducible refine r_lc2 ?_
  | with_reducible refine r_forS ?_
  | with_reducible refine r_iR1 ?_
  | with_reducible refine r_iR2 ?_
  | with_reducible refine r_iL ?_
  | ((with_reducible refine' r_lenL ?rdh ?_); (case rdh => walk_at "sq"))
  | ((with_reducible refine' r_ixL ?rdh ?rda ?_); (case rdh => walk_at "sq"); (case rda => walk_at "at"))
  | ((with_reducible refine' r_ixT ?rdh ?rda ?_); (case rdh => walk_at "sq"); (case rda => walk_at "at")))
local macro_rules | `(tactic| walk_at "sq") => `(tactic| first
  | assumption
  | exact SqL.of (by assumption)
  | exact SqL.of upd_same
  | exact SqT.of (by assumption)
  | exact SqT.of upd_same)
local macro_rules | `(tactic| walk_at "sml") => `(tactic| (rw [sizeLine_eq]; simp))
local macro_rules | `(tactic| walk_at "at") => `(tactic| first | assumption | rfl)
local macro_rules | `(tactic| walk_at "rd") => `(tactic| repeat walk_at "rd1")
section
variable {w : World} {P : Program} {base : Heap} {K : PySem.W.Frag} {mg : Str → Option Value}
def law_orderM (bx0 : List Int × Nat) (p_many : Int) : Option ((List Int) × (List Int × Nat)) :=
  (rng1 p_many).bind fun rg_42 => (colL (fun (y_43 : Int) => some (some y_43)) rg_42).bind fun cs_44 => bnd (cs_44) fun left_45 => bnd (([] : List Int)) fun order_47 => (rng1 p_many).bind fun rg_49 => (fold (fun (y_56 : Int) (x : ((List Int) × (List Int) × (List Int × Nat))) => match x with | (left_52, order_53, bx_54) => (law_drawM bx_54 (1000 : Int)).bind fun (t_62, bx_63) => (modF t_62 (left_52.length : Int)).bind fun t_64 => (popF left_52 t_64).bind fun (t_66, left_65) => (appF order_53 t_66).bind fun order_67 => some (left_65, order_67, bx_63) : Int → ((List Int) × (List Int) × (List Int × Nat)) → Option ((List Int) × (List Int) × (List Int × Nat))) rg_49 (left_45, order_47, bx0)).bind fun x => match x with | (left_52, order_53, bx_54) => some (order_53, bx_54)
theorem mk_law_order {f f1 : Addr} {fd fd1 : FuncData} (T : Txt mg) (F : Fun K "_law_order" "_law_order" s_law_order f fd) (m : mg "_law_order" = some (.ref f)) (b : Binds K fd ["box", "many"] [])
    (C_law_draw : Cal P w K mg base "_law_draw" 1 f1 fd1 ["box", "many"] (spB (fun bx (i : Int × Unit) => law_drawM bx i.1))) :
    Cal P w K mg base "_law_order" 2 f fd ["box", "many"] (spB (fun bx (i : Int × Unit) => law_orderM bx i.1)) := by
  refine ⟨F.ok sc_law_order (fun vs H Q E h => ?_) (fun cdv A outer s H vs Q E hr h => ?_), m, F.kp, b⟩
  · obtain ⟨ms, b, us, bx0, bx', ⟨p_many, ⟨⟩⟩, r, rfl, _, _, _, ⟨v_p_many, _, rfl, f_p_many, e0⟩, _⟩ := h
    cases e0
    rfl
  obtain ⟨ms, b, us, bx0, bx', ⟨p_many, ⟨⟩⟩, r, rfl, hb, al, hq, ⟨v_p_many, _, rfl, f_p_many, e0⟩, hm, Q⟩ := h
  cases e0
  obtain rfl : v_p_many = V.int p_many := f_p_many
  refine ⟨_, (pss_cons (show PS _ _ (tAsg (tLc _ _ _ _ [3]) _) from ps_setLc (i := 2) (own := [("k", 3)]) (g := gName 3) (tt := tYes) rfl sc_law_order.nd rfl rfl (sw_true rfl rfl rfl (by decide +kernel)) (pi_range1 rfl T.range (pa_cons (pv 1) pa_nil)) (blkOk_by (own := [("k", 3)]) (N := ["box", "many", "left", "k", "order"]) (sc := defScope s_law_order) (by decide +kernel)) (fun _ _ _ _ _ => (pg_name (i := 3) sc_law_order.nd rfl (Or.inl rfl))) (fun _ _ _ _ _ => pts_nil) (fun _ _ _ _ _ => (pv 3))) (pss_cons (ps_set (i := 4) sc_law_order.nd rfl (Or.inl rfl) (pe_lst pa_nil)) (pss_cons (ps_for PassesOwn.never rfl (pi_range1 rfl T.range (pa_cons (pv 1) pa_nil)) (pg_name (i := 3) sc_law_order.nd rfl (Or.inl rfl))
      (pss_one (ps_expr (pe_bm PySem.F.plainAttrs_list PySem.F.slot_list_append PySem.F.type_list_append mt_append (pv 4) (pa_cons (pe_bm PySem.F.plainAttrs_list PySem.F.slot_list_pop PySem.F.type_list_pop mt_popAt (pv 2) (pa_cons (pe_op op_mod (pe_callTy call_int1 (by rfl) T.int (by decide +kernel) (pa_cons (pe_call C_law_draw.ok (hr.mono (by first | decide | omega)) rfl C_law_draw.mg C_law_draw.kp C_law_draw.b .nil pass0 (pa_cons (pv 0) (pa_cons pe_int pa_nil))) pa_nil)) (pe_callB (show CallR _ _ (fun xs H Q => ∃ p ys, xs = [V.ref p] ∧ (SqL K H p ys ∨ SqT K H p ys) ∧ Q (.int ys.length) H) from call_len_seq) (by rfl) T.len PySem.boot_len (pa_cons (pv 2) pa_nil))) pa_nil)) pa_nil))))) (pss_one (ps_ret (pv 4)))))), ?_⟩
  try dsimp only [cxOf, Cx.nox, Cx.wish]
  rw [show start ["box", "many", "left", "k", "order"] [V.ref b, V.int p_many] = [some (V.ref b), some (V.int p_many), none, none, none] from rfl]
  have hB0 : ∀ a ∈ [b], a ∈ ms := fun a h => by rw [List.mem_singleton.mp h]; exact hb
  have W : Wd [b] ms H := ⟨hB0, al⟩
  have hm : law_orderM bx0 p_many = some (r, bx') := hm
  have u : Bu [b] H H := Bu.refl _ H
  unfold law_orderM at hm
  obtain ⟨rg_42, e_rg_42, hm⟩ := bind_inv hm
  obtain ⟨cs_44, e_cs_44, hm⟩ := bind_inv hm
  obtain ⟨left_45, e_left_45, hm⟩ := bnd_inv hm
  refine r_seqA ?_
  refine En.mk W (en_lcL (f := fun (y_43 : Int) => some (some y_43)) W sb_bxs (Ei.ej (ei_rng1 (ea_cons W (ex_vi rfl) ea_nil) e_rg_42)) e_cs_44 (fun ms' H' y_43 v r' L hq' rv hm => by
          have W := L.W
          obtain rfl : v = V.int y_43 := rv
          cases hm
          exact ⟨_, bnd_name, rfl, true, et_yes, fun h => (by cases h), fun _ => ⟨_, rfl, (ex_vi rfl)⟩⟩)) hq fun aleft_45 H_46 bb na hq' W' M l_aleft_45 => ?_
  rw [← e_left_45] at l_aleft_45
  have o_aleft_45 := W.al.not na
  have n_aleft_45 : aleft_45 ∉ [b] := fun z => W.al.not na (W.hB _ z)
  have m_aleft_45 : aleft_45 ∈ aleft_45 :: ms := List.mem_cons_self
  have h_aleft_45 := u.none na
  have u := u.trans bb
  have W := W'
  have hq := hq'
  refine r_name ?_
  dsimp only [List.set_cons_succ, List.set_cons_zero]
  obtain ⟨order_47, e_order_47, hm⟩ := bnd_inv hm
  refine r_seqA ?_
  refine En.mk W (en_lst (xs := ([] : List Int)) W sb_bxs (by simp) es_nil) hq fun aorder_47 H_48 bb na hq' W' M l_aorder_47 => ?_
  rw [← e_order_47] at l_aorder_47
  have ne_aleft_45_aorder_47 := l_aleft_45.ne na
  have ne_aorder_47_aleft_45 := ne_aleft_45_aorder_47.symm
  have m_aleft_45 := List.mem_cons_of_mem aorder_47 m_aleft_45
  have o_aorder_47 := not_less (W.al.not na) (fun _ h => List.mem_cons_of_mem _ (h))
  have n_aorder_47 : aorder_47 ∉ [b] := fun z => W.al.not na (W.hB _ z)
  have m_aorder_47 : aorder_47 ∈ aorder_47 :: aleft_45 :: ms := List.mem_cons_self
  have h_aorder_47 := u.none na
  have l_aleft_45 := l_aleft_45.step M fun o e => bb.1 _ o n_aleft_45 e
  have u := u.trans bb
  have W := W'
  have hq := hq'
  refine r_name ?_
  dsimp only [List.set_cons_succ, List.set_cons_zero]
  obtain ⟨rg_49, e_rg_49, hm⟩ := bind_inv hm
  refine r_seqF' ?_
  refine r_for W (ei_rng1 (ea_cons W (ex_vi rfl) ea_nil) e_rg_49) hq fun J N_51 H_50 bb hq W M st_nN_51 nN_51 ok_N_51 => ?_
  have l_aleft_45 := l_aleft_45.step M fun o e => bb.1 _ o n_aleft_45 e
  have l_aorder_47 := l_aorder_47.step M fun o e => bb.1 _ o n_aorder_47 e
  have u := u.trans bb
  obtain ⟨out_57, e_out_57, hm⟩ := bind_inv hm
  have hgoN_51 := hm
  clear hm
  refine wk_fold (ms := aorder_47 :: aleft_45 :: ms) ok_N_51 e_out_57 (fun x σ H' => match x with | (left_52, order_53, bx_54) => ∃ (xl_k : Option V), σ = [some (.ref b), some (.int p_many), some (.ref aleft_45), xl_k, some (.ref aorder_47)] ∧ Bu [b] H H' ∧ (Bxs b bx_54) (aorder_47 :: aleft_45 :: ms) H' ∧ Wd [b] (aorder_47 :: aleft_45 :: ms) H' ∧ N_51 (aorder_47 :: aleft_45 :: ms) H' ∧ Ls (aorder_47 :: aleft_45 :: ms) H' aleft_45 left_52 ∧ Ls (aorder_47 :: aleft_45 :: ms) H' aorder_47 order_53) ⟨_, rfl, u, hq, W, nN_51, l_aleft_45, l_aorder_47⟩ ?_ ?_ ?_
  · intro x σ H' hI
    obtain ⟨left_52, order_53, bx_54⟩ := x
    try dsimp only at hI
    obtain ⟨xl_k, rfl, u, hq, W, nN_51, l_aleft_45, l_aorder_47⟩ := hI
    exact ⟨nN_51, W.al⟩
  · intro y_56 v x x' σ H_58 H_59 hI s1 rv hf
    obtain ⟨left_52, order_53, bx_54⟩ := x
    try dsimp only at hI
    obtain ⟨xl_k, rfl, u, hq, W, nN_51, l_aleft_45, l_aorder_47⟩ := hI
    have hm := hf
    try dsimp only at hm
    have bb : Bu [b] H_58 H_59 := Bu.same s1
    have M : Mv (aorder_47 :: aleft_45 :: ms) H_58 (aorder_47 :: aleft_45 :: ms) H_59 := Mv.same s1
    have hq := sb_bxs.same s1 hq
    have W := W.bu bb
    have l_aleft_45 := l_aleft_45.step M fun o e => bb.1 _ o n_aleft_45 e
    have l_aorder_47 := l_aorder_47.step M fun o e => bb.1 _ o n_aorder_47 e
    have nN_51 := st_nN_51.mv nN_51 M
    have u := u.trans bb
    obtain rfl : v = V.int y_56 := rv
    refine (bnd_name : Bnd _ _ _ _ _) _ ?_
    dsimp only [List.set_cons_succ, List.set_cons_zero]
    obtain ⟨⟨t_62, bx_63⟩, e_t_62, hm⟩ := bind_inv hm
    dsimp only at hm
    obtain ⟨t_64, e_t_64, hm⟩ := bind_inv hm
    obtain ⟨⟨t_66, left_65⟩, e_t_66, hm⟩ := bind_inv hm
    dsimp only at hm
    obtain ⟨order_67, e_order_67, hm⟩ := bind_inv hm
    refine r_drop ?_
    refine s_apppop rfl rfl W rfl rfl l_aleft_45 l_aorder_47 m_aleft_45 m_aorder_47 ne_aorder_47_aleft_45 n_aleft_45 n_aorder_47 sb_bxs (ea_cons W (ex_opI (z := t_64) (modF_ok e_t_64).1 (fun _ _ => by rw [(modF_ok e_t_64).2]; rfl) (ex_intI (ea_cons W (ex_callB (i := ((1000 : Int), ())) W (v := 0) rfl (ea_cons W (ex_int 1000) ea_nil) e_t_62) ea_nil)) (ex_len (el_var W rfl n_aleft_45 l_aleft_45))) ea_nil) hq e_t_66 e_order_67 fun H_68 bb hq W M l_aleft_45 l_aorder_47 => ?_
    have nN_51 := st_nN_51.mv nN_51 M
    have u := u.own3 h_aorder_47 h_aleft_45 bb
    try dsimp only
    try dsimp only
    cases hm
    exact ⟨_, rfl, u, hq, W, nN_51, l_aleft_45, l_aorder_47⟩
  · intro σ H_55 hI
    obtain ⟨left_52, order_53, bx_54⟩ := out_57
    try dsimp only at hI
    obtain ⟨xl_k, rfl, u, hq, W, nN_51, l_aleft_45, l_aorder_47⟩ := hI
    have hm := hgoN_51
    try dsimp only at hm
    try dsimp only
    have sub : ∀ a ∈ aleft_45 :: ms, a ∈ aorder_47 :: aleft_45 :: ms := ((.cons _ (.cons_cons _ (.refl _))) : List.Sublist (aleft_45 :: ms) (aorder_47 :: aleft_45 :: ms)).subset
    have M : Mv (aorder_47 :: aleft_45 :: ms) H_55 (aleft_45 :: ms) H_55 := Mv.less sub
    have hq := sb_bxs _ _ _ _ hq M fun _ _ _ e => e
    have W : Wd [b] (aleft_45 :: ms) H_55 := ⟨fun a h => List.mem_cons_of_mem _ (hB0 a h), W.al.less sub⟩
    have l_aleft_45 := l_aleft_45.less sub
    have f_order_53 : Rp.rp (aleft_45 :: ms) H_55 (.ref aorder_47) order_53 := ⟨aorder_47, rfl, (nin ne_aorder_47_aleft_45 o_aorder_47), l_aorder_47.less sub⟩
    have m_aleft_45 : aleft_45 ∈ aleft_45 :: ms := List.mem_cons_self
    obtain ⟨hm1, hm2⟩ := Prod.mk.inj (Option.some.inj hm)
    subst hm1
    subst hm2
    refine r_ret' ?_
    refine Ex.go W (ex_var W rfl f_order_53) hq fun v H_69 bb hq W M rv => ?_
    exact Q v _ (u.trans bb) (sb_bxs _ _ _ _ hq (Mv.less (fun _ h => List.mem_cons_of_mem _ (h))) fun _ _ _ e => e) (Rp.mv rv (Mv.less (fun _ h => List.mem_cons_of_mem _ (h))))
theorem law_orderM_ok (bx : List Int × Nat) {n : Nat} (hn : n ≤ 1000) : ∃ ord bx', law_orderM bx (n : Int) = some (ord, bx') ∧ ord.Perm (rngL 0 n) := by
  unfold law_orderM
  rw [rng1_ok (by omega)]
  simp only [bnd, Option.bind_some, Int.toNat_natCast]
  rw [colL_id (by rw [rngL_len]; omega)]
  simp only [Option.bind_some]
  generalize hF : fold _ _ _ = z
  have key : ∃ out, z = some out ∧ (out.1 ++ out.2.1).Perm (rngL 0 n) ∧ out.2.1.length = (rngL 0 n).length := by
    rw [← hF]
    refine fold_ex (fun i (x : List Int × List Int × (List Int × Nat)) => (x.1 ++ x.2.1).Perm (rngL 0 n) ∧ x.2.1.length = i) ⟨by simp, rfl⟩ ?_
    rintro i a ⟨lf, os, bx1⟩ ha ⟨hl, hi⟩
    dsimp only at hl hi
    have hr := (List.getElem?_eq_some_iff.mp ha).1
    rw [rngL_len] at hr
    have l1 := hl.length_eq
    simp only [List.length_append, rngL_len] at l1
    obtain ⟨r1, n1, e1, _, _⟩ := drawF_ok (bx := bx1) (m := 1000) (by decide)
    have d1 : (0 : Int) < lf.length := by omega
    obtain ⟨x, lf', f1, g1⟩ := pop_perm (xs := lf) (i := r1 % (lf.length : Int)) (Int.emod_nonneg _ (by omega)) (Int.emod_lt_of_pos _ d1) (by omega)
    simp only [e1, Option.bind_some, modF_pos d1, f1]
    rw [appF_ok (by omega)]
    refine ⟨_, rfl, ?_, ?_⟩
    · dsimp only
      rw [← List.append_assoc]
      refine List.Perm.trans ?_ hl
      refine List.Perm.trans List.perm_append_comm ?_
      exact (g1.append_right _).symm
    · dsimp only
      rw [List.length_append]; simp; omega
  obtain ⟨⟨lf, os, bx'⟩, rfl, k1, k2⟩ := key
  dsimp only at k1 k2
  rw [rngL_len] at k2
  have l1 := k1.length_eq
  simp only [List.length_append, rngL_len] at l1
  have : lf = [] := List.length_eq_zero_iff.mp (by omega)
  subst this
  exact ⟨os, bx', rfl, k1⟩
end
end Pf

namespace Pf
open PySem L2
local macro_rules | `(tactic| walk_at "rd1") => `(tactic| first
  | with_reducible refine r_seqA ?_
  | with_reducible refine r_seqD ?_
  | with_reducible refine r_seqF ?_
  | with_reducible refine r_seqN ?_
  | with_reducible refine r_asg ?_
  | with_reducible refine r_drop ?_
  | with_reducible refine r_ret ?_
  | with_reducible refine r_ifS ?_
  | ((with_reducible refine r_next ?_); try dsimp only)
  | ((with_reducible refine r_name ?_); try dsimp only [List.set_cons_succ, List.set_cons_zero, wipe])
  | ((with_reducible refine' r_var ?rdh ?_); (case rdh => rfl))
  | with_reducible refine r_c ?_
  | with_reducible refine r_op ?_
  | with_reducible refine r_un ?_
  | with_reducible refine r_I0 ?_
  | ((with_reducible refine r_I ?_ ?_); (· first | decide | exact Or.inl (by decide) | exact Or.inr (by decide) | (show _ ∧ _; constructor <;> decide) | (show (0:Int) < _; omega) | (show CDiv _ _; unfold CDiv; omega) ))
  | with_reducible refine r_U ?_
  | with_reducible refine r_eqI ?_
  | with_reducible refine r_neI ?_
  | with_reducible refine r_eqB ?_
  | with_reducible refine r_neB ?_
  | with_reducible refine r_test ?_
  | with_reducible refine r_B ?_
  | with_reducible refine r_bl ?_
  | with_reducible refine r_bl2 ?_
  | with_reducible refine r_yes ?_
  | with_reducible refine r_wipe (by rfl) ?_
  | with_reducible refine r_rfl ?_
  | ((with_reducible refine' r_eqA ?rdh ?_); (case rdh => rfl))
  | with_reducible refine r_and ?_
  | with_reducible refine r_or ?_
  | with_reducible refine r_not ?_
  | with_reducible refine r_andV ?_
  | with_reducible refine r_orV ?_
  | with_reducible refine r_notV ?_
  | with_reducible refine r_ifE ?_
  | with_reducible refine r_nil ?_
  | with_reducible refine r_cons ?_
  | with_reducible refine r_tup ?_
  | with_reducible refine r_lst ?_
  | with_reducible refine r_CB ?_
  | with_reducible refine r_call ?_
  | with_reducible refine r_bm ?_
  | with_reducible refine r_bm0 ?_
  | with_reducible refine r_int ?_
  | with_reducible refine r_i2 ?_
  | with_reducible refine r_i1 ?_
  | with_reducible refine r_gcons ?_
  | with_reducible refine r_gnil ?_
  | with_reducible refine r_gsub ?_
  | with_reducible refine iteT ?_
  | with_reducible refine iteF ?_
  | with_reducible refine ite_notT ?_
  | with_reducible refine ite_notF ?_
  | with_reducible refine r_isi_ib ?_
  | with_reducible refine r_isi_ii ?_
  | with_reducible refine r_isi_bb ?_
  | with_reducible refine r_isi_nb ?_
  | with_reducible refine r_isi_nt ?_
  | ((with_reducible refine' r_isi_ll ?rdh ?_); (case rdh => first | assumption | exact upd_same))
  | ((with_reducible refine' r_isi_tt ?rdh ?_); (case rdh => first | assumption | exact upd_same))
  | with_reducible refine r_sl ?_
  | with_reducible refine r_noPart ?_
  | with_reducible refine r_part ?_
  | with_reducible refine r_int1 ?_
  | with_reducible refine r_tru ?_
  | with_reducible refine r_ckw ?_
  | with_reducible refine r_lc ?_
  | with_reducible refine r_lc2 ?_
  | with_reducible refine r_forS ?_
  | with_reducible refine r_iR1 ?_
  | with_reducible refine r_iR2 ?_
  | with_reducible refine r_iL ?_
  | ((with_reducible refine' r_lenL ?rdh ?_); (case rdh => walk_at "sq"))
  | ((with_reducible refine' r_ixL ?rdh ?rda ?_); (case rdh => walk_at "sq"); (case rda => walk_at "at"))
  | ((with_reducible refine' r_ixT ?rdh ?rda ?_); (case rdh => walk_at "sq"); (case rda => walk_at "at")))
local macro_rules | `(tactic| walk_at "sq") => `(tactic| first
  | assumption
  | exact SqL.of (by assumption)
  | exact SqL.of upd_same
  | exact SqT.of (by assumption)
  | exact SqT.of upd_same)
local macro_rules | `(tactic| walk_at "sml") => `(tactic| (rw [sizeLine_eq]; simp))
local macro_rules | `(tactic| walk_at "at") => `(tactic| first | assumption | rfl)
local macro_rules | `(tactic| walk_at "rd") => `(tactic| repeat walk_at "rd1")
section
variable {w : World} {P : Program} {base : Heap} {K : PySem.W.Frag} {mg : Str → Option Value}
def law_startsM (bx0 : List Int × Nat) (p_size : Int) (p_layout : (List (Int × Int))) : Option ((List Int) × (List Int × Nat)) :=
  (rng1 (p_layout.length : Int)).bind fun rg_70 => (colL (fun (y_71 : Int) => some (some y_71)) rg_70).bind fun cs_72 => bnd (cs_72) fun order_73 => (law_drawM bx0 (2 : Int)).bind fun (t_78, bx_79) => (if (decide (t_78 = (0 : Int))) = true then ((law_orderM bx_79 (p_layout.length : Int)).bind fun (t_85, bx_86) => bnd (t_85) fun order_87 => some (order_87, bx_86)) else (some (order_73, bx_79))).bind fun (order_81, bx_82) => (colL (fun (y_90 : (Int × Int)) => some (some y_90.2)) p_layout).bind fun cs_91 => bnd ((p_size - cs_91.sum)) fun free_92 => (colL (fun (y_95 : (Int × Int)) => some (some (0 : Int))) p_layout).bind fun cs_96 => bnd (cs_96) fun starts_97 => bnd ((0 : Int)) fun at_99 => (fold (fun (y_109 : Int) (x : (Int × (List Int) × Int × (List Int × Nat))) => match x with | (free_104, starts_105, at_106, bx_107) => (law_drawM bx_107 (60 : Int)).bind fun (t_115, bx_116) => (modF t_115 (free_104 + (1 : Int))).bind fun t_117 => bnd (t_117) fun step_118 => (law_drawM bx_116 (2 : Int)).bind fun (t_123, bx_124) => (if (decide (t_123 = (0 : Int))) = true then (bnd ((0 : Int)) fun step_130 => some (step_130, bx_124)) else (some (step_118, bx_124))).bind fun (step_126, bx_127) => bnd ((at_106 + step_126)) fun at_133 => bnd ((free_104 - step_126)) fun free_136 => (setF starts_105 y_109 at_133).bind fun starts_139 => (atI p_layout y_109).bind fun t_142 => bnd ((at_133 + t_142.2)) fun at_143 => some (free_136, starts_139, at_143, bx_127) : Int → (Int × (List Int) × Int × (List Int × Nat)) → Option (Int × (List Int) × Int × (List Int × Nat))) order_81 (free_92, starts_97, at_99, bx_82)).bind fun x => match x with | (free_104, starts_105, at_106, bx_107) => (law_drawM bx_107 (4 : Int)).bind fun (t_148, bx_149) => if (decide (t_148 = (0 : Int))) = true then ((colL (fun (y_151 : (Int × Int)) => some (some y_151.1)) p_layout).bind fun cs_152 => some (cs_152, bx_149)) else (some (starts_105, bx_149))
theorem mk_law_starts {f f1 f2 : Addr} {fd fd1 fd2 : FuncData} (T : Txt mg) (F : Fun K "_law_starts" "_law_starts" s_law_starts f fd) (m : mg "_law_starts" = some (.ref f)) (b : Binds K fd ["box", "size", "layout"] [])
    (C_law_draw : Cal P w K mg base "_law_draw" 1 f1 fd1 ["box", "many"] (spB (fun bx (i : Int × Unit) => law_drawM bx i.1)))
    (C_law_order : Cal P w K mg base "_law_order" 2 f2 fd2 ["box", "many"] (spB (fun bx (i : Int × Unit) => law_orderM bx i.1))) :
    Cal P w K mg base "_law_starts" 3 f fd ["box", "size", "layout"] (spB (fun bx (i : Int × (List (Int × Int)) × Unit) => law_startsM bx i.1 i.2.1)) := by
  refine ⟨F.ok sc_law_starts (fun vs H Q E h => ?_) (fun cdv A outer s H vs Q E hr h => ?_), m, F.kp, b⟩
  · obtain ⟨ms, b, us, bx0, bx', ⟨p_size, p_layout, ⟨⟩⟩, r, rfl, _, _, _, ⟨v_p_size, _, rfl, f_p_size, ⟨v_p_layout, _, rfl, f_p_layout, e0⟩⟩, _⟩ := h
    cases e0
    rfl
  obtain ⟨ms, b, us, bx0, bx', ⟨p_size, p_layout, ⟨⟩⟩, r, rfl, hb, al, hq, ⟨v_p_size, _, rfl, f_p_size, ⟨v_p_layout, _, rfl, f_p_layout, e0⟩⟩, hm, Q⟩ := h
  cases e0
  obtain rfl : v_p_size = V.int p_size := f_p_size
  refine ⟨_, (pss_cons (show PS _ _ (tAsg (tLc _ _ _ _ [4]) _) from ps_setLc (i := 3) (own := [("k", 4)]) (g := gName 4) (tt := tYes) rfl sc_law_starts.nd rfl rfl (sw_true rfl rfl rfl (by decide +kernel)) (pi_range1 rfl T.range (pa_cons (pe_callB (show CallR _ _ (fun xs H Q => ∃ p ys, xs = [V.ref p] ∧ (SqL K H p ys ∨ SqT K H p ys) ∧ Q (.int ys.length) H) from call_len_seq) (by rfl) T.len PySem.boot_len (pa_cons (pv 2) pa_nil)) pa_nil)) (blkOk_by (own := [("k", 4)]) (N := ["box", "size", "layout", "order", "k", "free", "block", "starts", "at", "step"]) (sc := defScope s_law_starts) (by decide +kernel)) (fun _ _ _ _ _ => (pg_name (i := 4) sc_law_starts.nd rfl (Or.inl rfl))) (fun _ _ _ _ _ => pts_nil) (fun _ _ _ _ _ => (pv 4))) (pss_cons (ps_if (pt_cmpR op_eq (pe_call C_law_draw.ok (hr.mono (by first | decide | omega)) rfl C_law_draw.mg C_law_draw.kp C_law_draw.b .nil pass0 (pa_cons (pv 0) (pa_cons pe_int pa_nil))) pe_int (nomark _))
      (pss_one (ps_set (i := 3) sc_law_starts.nd rfl (Or.inl rfl) (pe_call C_law_order.ok (hr.mono (by first | decide | omega)) rfl C_law_order.mg C_law_order.kp C_law_order.b .nil pass0 (pa_cons (pv 0) (pa_cons (pe_callB (show CallR _ _ (fun xs H Q => ∃ p ys, xs = [V.ref p] ∧ (SqL K H p ys ∨ SqT K H p ys) ∧ Q (.int ys.length) H) from call_len_seq) (by rfl) T.len PySem.boot_len (pa_cons (pv 2) pa_nil)) pa_nil)))))
      pss_nil) (pss_cons (ps_set (i := 5) sc_law_starts.nd rfl (Or.inl rfl) (pe_op op_sub (pv 1) (pe_callB (show CallR _ _ (rSum K) from cr_sum rfl) (by rfl) T.sum (by decide +kernel) (pa_cons (show PE _ _ (tLc _ _ _ _ [6]) from pe_lc (own := [("block", 6)]) (g := gName 6) (tt := tYes) rfl sc_law_starts.nd (pi_list (pv 2)) (blkOk_by (own := [("block", 6)]) (N := ["box", "size", "layout", "order", "k", "free", "block", "starts", "at", "step"]) (sc := defScope s_law_starts) (by decide +kernel)) (fun _ _ _ _ _ => (pg_name (i := 6) sc_law_starts.nd rfl (Or.inl rfl))) (fun _ _ _ _ _ => pts_nil) (fun _ _ _ _ _ => (pe_ix (show IxR _ (rIxT K) from ix_tup) (pv 6) pe_int (fun _ _ => rfl)))) pa_nil)))) (pss_cons (show PS _ _ (tAsg (tLc _ _ _ _ [6]) _) from ps_setLc (i := 7) (own := [("block", 6)]) (g := gName 6) (tt := tYes) rfl sc_law_starts.nd rfl rfl (sw_true rfl rfl rfl (by decide +kernel)) (pi_list (pv 2)) (blkOk_by (own := [("block", 6)]) (N := ["box", "size", "layout", "order", "k", "free", "block", "starts", "at", "step"]) (sc := defScope s_law_starts) (by decide +kernel)) (fun _ _ _ _ _ => (pg_name (i := 6) sc_law_starts.nd rfl (Or.inl rfl))) (fun _ _ _ _ _ => pts_nil) (fun _ _ _ _ _ => pe_int)) (pss_cons (ps_set (i := 8) sc_law_starts.nd rfl (Or.inl rfl) pe_int) (pss_cons (ps_for PassesOwn.never rfl (pi_list (pv 3)) (pg_name (i := 4) sc_law_starts.nd rfl (Or.inl rfl))
      (pss_cons (ps_set (i := 9) sc_law_starts.nd rfl (Or.inl rfl) (pe_op op_mod (pe_callTy call_int1 (by rfl) T.int (by decide +kernel) (pa_cons (pe_call C_law_draw.ok (hr.mono (by first | decide | omega)) rfl C_law_draw.mg C_law_draw.kp C_law_draw.b .nil pass0 (pa_cons (pv 0) (pa_cons pe_int pa_nil))) pa_nil)) (pe_op op_add (pv 5) pe_int))) (pss_cons (ps_if (pt_cmpR op_eq (pe_call C_law_draw.ok (hr.mono (by first | decide | omega)) rfl C_law_draw.mg C_law_draw.kp C_law_draw.b .nil pass0 (pa_cons (pv 0) (pa_cons pe_int pa_nil))) pe_int (nomark _))
      (pss_one (ps_set (i := 9) sc_law_starts.nd rfl (Or.inl rfl) pe_int))
      pss_nil) (pss_cons (ps_set (i := 8) sc_law_starts.nd rfl (Or.inl rfl) (pe_op op_add (pv 8) (pv 9))) (pss_cons (ps_set (i := 5) sc_law_starts.nd rfl (Or.inl rfl) (pe_op op_sub (pv 5) (pv 9))) (pss_cons (ps_asg (pv 8) (pg_sub (pv 7) (pv 4) set_list)) (pss_one (ps_set (i := 8) sc_law_starts.nd rfl (Or.inl rfl) (pe_op op_add (pv 8) (pe_ix (show IxR _ (rIxT K) from ix_tup) (pe_ix (show IxR _ (rIxL K) from ix_list) (pv 2) (pv 4) (fun _ _ => rfl)) pe_int (fun _ _ => rfl))))))))))) (pss_cons (ps_if (pt_cmpR op_eq (pe_call C_law_draw.ok (hr.mono (by first | decide | omega)) rfl C_law_draw.mg C_law_draw.kp C_law_draw.b .nil pass0 (pa_cons (pv 0) (pa_cons pe_int pa_nil))) pe_int (nomark _))
      (pss_one (ps_ret (show PE _ _ (tLc _ _ _ _ [6]) from pe_lc (own := [("block", 6)]) (g := gName 6) (tt := tYes) rfl sc_law_starts.nd (pi_list (pv 2)) (blkOk_by (own := [("block", 6)]) (N := ["box", "size", "layout", "order", "k", "free", "block", "starts", "at", "step"]) (sc := defScope s_law_starts) (by decide +kernel)) (fun _ _ _ _ _ => (pg_name (i := 6) sc_law_starts.nd rfl (Or.inl rfl))) (fun _ _ _ _ _ => pts_nil) (fun _ _ _ _ _ => (pe_ix (show IxR _ (rIxT K) from ix_tup) (pv 6) pe_int (fun _ _ => rfl))))))
      pss_nil) (pss_one (ps_ret (pv 7)))))))))), ?_⟩
  try dsimp only [cxOf, Cx.nox, Cx.wish]
  rw [show start ["box", "size", "layout", "order", "k", "free", "block", "starts", "at", "step"] [V.ref b, V.int p_size, v_p_layout] = [some (V.ref b), some (V.int p_size), some (v_p_layout), none, none, none, none, none, none, none] from rfl]
  have hB0 : ∀ a ∈ [b], a ∈ ms := fun a h => by rw [List.mem_singleton.mp h]; exact hb
  have W : Wd [b] ms H := ⟨hB0, al⟩
  have hm : law_startsM bx0 p_size p_layout = some (r, bx') := hm
  have u : Bu [b] H H := Bu.refl _ H
  unfold law_startsM at hm
  obtain ⟨rg_70, e_rg_70, hm⟩ := bind_inv hm
  obtain ⟨cs_72, e_cs_72, hm⟩ := bind_inv hm
  obtain ⟨order_73, e_order_73, hm⟩ := bnd_inv hm
  refine r_seqA ?_
  refine Ex.go W (En.ex sb_bxs (en_lcL (f := fun (y_71 : Int) => some (some y_71)) W sb_bxs (Ei.ej (ei_rng1 (ea_cons W (ex_len (el_of W.hB (ex_var W rfl f_p_layout))) ea_nil) e_rg_70)) e_cs_72 (fun ms' H' y_71 v r' L hq' rv hm => by
          have W := L.W
          have f_p_layout := Rp.mv f_p_layout L.M
          obtain rfl : v = V.int y_71 := rv
          cases hm
          exact ⟨_, bnd_name, rfl, true, et_yes, fun h => (by cases h), fun _ => ⟨_, rfl, (ex_vi rfl)⟩⟩))) hq fun v_75 H_74 bb hq W M rv => ?_
  rw [← e_order_73] at rv
  have f_p_layout := Rp.mv f_p_layout M
  have u := u.trans bb
  have f_order_73 := rv
  refine (bnd_name : Bnd _ _ _ _ _) _ ?_
  dsimp only [List.set_cons_succ, List.set_cons_zero]
  obtain ⟨⟨t_78, bx_79⟩, e_t_78, hm⟩ := bind_inv hm
  dsimp only at hm
  obtain ⟨j_84, e_j_84, hm⟩ := bind_inv hm
  obtain ⟨order_81, bx_82⟩ := j_84
  try dsimp only at hm
  refine r_seqG fun R hR => ?_
  have key : ∀ (vj_order_81 : V), ∀ H_83, Bu [b] H H_83 → (Bxs b bx_82) (ms) H_83 → Wd [b] (ms) H_83 → Rp.rp (ms) H_83 (v_p_layout) p_layout → Rp.rp (ms) H_83 (vj_order_81) order_81 → R [some (.ref b), some (.int p_size), some v_p_layout, some vj_order_81, none, none, none, none, none, none] H_83 := by
    intro vj_order_81 H_83 u hq W f_p_layout f_order_81
    refine hR _ _ ?_
    obtain ⟨cs_91, e_cs_91, hm⟩ := bind_inv hm
    obtain ⟨free_92, e_free_92, hm⟩ := bnd_inv hm
    refine r_seqA ?_
    refine Ex.go W (ex_opI0 (z := (p_size - cs_91.sum)) (fun _ _ => rfl) (ex_vi rfl) (ex_sum (el_of W.hB (En.ex sb_bxs (en_lcL (f := fun (y_90 : (Int × Int)) => some (some y_90.2)) W sb_bxs (Ei.ej (ei_list (ex_var W rfl f_p_layout))) e_cs_91 (fun ms' H' y_90 v r' L hq' rv hm => by
            have W := L.W
            have f_p_layout := Rp.mv f_p_layout L.M
            have f_order_81 := Rp.mv f_order_81 L.M
            have f_y_90 := rv
            cases hm
            exact ⟨_, bnd_name, rfl, true, et_yes, fun h => (by cases h), fun _ => ⟨_, rfl, (ex_snd (u := y_90) (ex_var W rfl f_y_90))⟩⟩)))))) hq fun v_94 H_93 bb hq W M rv => ?_
    rw [← e_free_92] at rv
    have f_p_layout := Rp.mv f_p_layout M
    have f_order_81 := Rp.mv f_order_81 M
    have u := u.trans bb
    obtain rfl : v_94 = V.int free_92 := rv
    refine (bnd_name : Bnd _ _ _ _ _) _ ?_
    dsimp only [List.set_cons_succ, List.set_cons_zero]
    obtain ⟨cs_96, e_cs_96, hm⟩ := bind_inv hm
    obtain ⟨starts_97, e_starts_97, hm⟩ := bnd_inv hm
    refine r_seqA ?_
    refine En.mk W (en_lcL (f := fun (y_95 : (Int × Int)) => some (some (0 : Int))) W sb_bxs (Ei.ej (ei_list (ex_var W rfl f_p_layout))) e_cs_96 (fun ms' H' y_95 v r' L hq' rv hm => by
            have W := L.W
            have f_p_layout := Rp.mv f_p_layout L.M
            have f_order_81 := Rp.mv f_order_81 L.M
            have f_y_95 := rv
            cases hm
            exact ⟨_, bnd_name, rfl, true, et_yes, fun h => (by cases h), fun _ => ⟨_, rfl, (ex_int 0)⟩⟩)) hq fun astarts_97 H_98 bb na hq' W' M l_astarts_97 => ?_
    rw [← e_starts_97] at l_astarts_97
    have o_astarts_97 := W.al.not na
    have n_astarts_97 : astarts_97 ∉ [b] := fun z => W.al.not na (W.hB _ z)
    have m_astarts_97 : astarts_97 ∈ astarts_97 :: ms := List.mem_cons_self
    have h_astarts_97 := u.none na
    have f_p_layout := Rp.mv f_p_layout M
    have f_order_81 := Rp.mv f_order_81 M
    have u := u.trans bb
    have W := W'
    have hq := hq'
    refine r_name ?_
    dsimp only [List.set_cons_succ, List.set_cons_zero]
    obtain ⟨at_99, e_at_99, hm⟩ := bnd_inv hm
    refine r_seqA ?_
    refine Ex.go W (ex_int 0) hq fun v_101 H_100 bb hq W M rv => ?_
    rw [← e_at_99] at rv
    have f_p_layout := Rp.mv f_p_layout M
    have f_order_81 := Rp.mv f_order_81 M
    have l_astarts_97 := l_astarts_97.step M fun o e => bb.1 _ o n_astarts_97 e
    have u := u.trans bb
    obtain rfl : v_101 = V.int at_99 := rv
    refine (bnd_name : Bnd _ _ _ _ _) _ ?_
    dsimp only [List.set_cons_succ, List.set_cons_zero]
    refine r_seqF' ?_
    refine r_for W (ei_list (ex_var W rfl f_order_81)) hq fun J N_103 H_102 bb hq W M st_nN_103 nN_103 ok_N_103 => ?_
    have f_p_layout := Rp.mv f_p_layout M
    have f_order_81 := Rp.mv f_order_81 M
    have l_astarts_97 := l_astarts_97.step M fun o e => bb.1 _ o n_astarts_97 e
    have u := u.trans bb
    obtain ⟨out_110, e_out_110, hm⟩ := bind_inv hm
    have hgoN_103 := hm
    clear hm
    refine wk_fold (ms := astarts_97 :: ms) ok_N_103 e_out_110 (fun x σ H' => match x with | (free_104, starts_105, at_106, bx_107) => ∃ (xl_k : Option V), ∃ (xl_step : Option V), σ = [some (.ref b), some (.int p_size), some v_p_layout, some vj_order_81, xl_k, some (.int free_104), none, some (.ref astarts_97), some (.int at_106), xl_step] ∧ Bu [b] H H' ∧ (Bxs b bx_107) (astarts_97 :: ms) H' ∧ Wd [b] (astarts_97 :: ms) H' ∧ N_103 (astarts_97 :: ms) H' ∧ Rp.rp (astarts_97 :: ms) H' (v_p_layout) p_layout ∧ Rp.rp (astarts_97 :: ms) H' (vj_order_81) order_81 ∧ Ls (astarts_97 :: ms) H' astarts_97 starts_105) ⟨_, _, rfl, u, hq, W, nN_103, f_p_layout, f_order_81, l_astarts_97⟩ ?_ ?_ ?_
    · intro x σ H' hI
      obtain ⟨free_104, starts_105, at_106, bx_107⟩ := x
      try dsimp only at hI
      obtain ⟨xl_k, xl_step, rfl, u, hq, W, nN_103, f_p_layout, f_order_81, l_astarts_97⟩ := hI
      exact ⟨nN_103, W.al⟩
    · intro y_109 v x x' σ H_111 H_112 hI s1 rv hf
      obtain ⟨free_104, starts_105, at_106, bx_107⟩ := x
      try dsimp only at hI
      obtain ⟨xl_k, xl_step, rfl, u, hq, W, nN_103, f_p_layout, f_order_81, l_astarts_97⟩ := hI
      have hm := hf
      try dsimp only at hm
      have bb : Bu [b] H_111 H_112 := Bu.same s1
      have M : Mv (astarts_97 :: ms) H_111 (astarts_97 :: ms) H_112 := Mv.same s1
      have hq := sb_bxs.same s1 hq
      have W := W.bu bb
      have f_p_layout := Rp.mv f_p_layout M
      have f_order_81 := Rp.mv f_order_81 M
      have l_astarts_97 := l_astarts_97.step M fun o e => bb.1 _ o n_astarts_97 e
      have nN_103 := st_nN_103.mv nN_103 M
      have u := u.trans bb
      obtain rfl : v = V.int y_109 := rv
      refine (bnd_name : Bnd _ _ _ _ _) _ ?_
      dsimp only [List.set_cons_succ, List.set_cons_zero]
      obtain ⟨⟨t_115, bx_116⟩, e_t_115, hm⟩ := bind_inv hm
      dsimp only at hm
      obtain ⟨t_117, e_t_117, hm⟩ := bind_inv hm
      obtain ⟨step_118, e_step_118, hm⟩ := bnd_inv hm
      refine r_seqA ?_
      refine Ex.go W (ex_opI (z := t_117) (modF_ok e_t_117).1 (fun _ _ => by rw [(modF_ok e_t_117).2]; rfl) (ex_intI (ea_cons W (ex_callB (i := ((60 : Int), ())) W (v := 0) rfl (ea_cons W (ex_int 60) ea_nil) e_t_115) ea_nil)) (ex_opI0 (z := (free_104 + (1 : Int))) (fun _ _ => rfl) (ex_vi rfl) (ex_int 1))) hq fun v_120 H_119 bb hq W M rv => ?_
      rw [← e_step_118] at rv
      have f_p_layout := Rp.mv f_p_layout M
      have f_order_81 := Rp.mv f_order_81 M
      have l_astarts_97 := l_astarts_97.step M fun o e => bb.1 _ o n_astarts_97 e
      have nN_103 := st_nN_103.mv nN_103 M
      have u := u.trans bb
      obtain rfl : v_120 = V.int step_118 := rv
      refine (bnd_name : Bnd _ _ _ _ _) _ ?_
      dsimp only [List.set_cons_succ, List.set_cons_zero]
      obtain ⟨⟨t_123, bx_124⟩, e_t_123, hm⟩ := bind_inv hm
      dsimp only at hm
      obtain ⟨j_129, e_j_129, hm⟩ := bind_inv hm
      obtain ⟨step_126, bx_127⟩ := j_129
      try dsimp only at hm
      refine r_seqG fun R hR => ?_
      have key : ∀ H_128, Bu [b] H H_128 → (Bxs b bx_127) (astarts_97 :: ms) H_128 → Wd [b] (astarts_97 :: ms) H_128 → N_103 (astarts_97 :: ms) H_128 → Rp.rp (astarts_97 :: ms) H_128 (v_p_layout) p_layout → Rp.rp (astarts_97 :: ms) H_128 (vj_order_81) order_81 → Ls (astarts_97 :: ms) H_128 astarts_97 starts_105 → R [some (.ref b), some (.int p_size), some v_p_layout, some vj_order_81, some (.int y_109), some (.int free_104), none, some (.ref astarts_97), some (.int at_106), some (.int step_126)] H_128 := by
        intro H_128 u hq W nN_103 f_p_layout f_order_81 l_astarts_97
        refine hR _ _ ?_
        obtain ⟨at_133, e_at_133, hm⟩ := bnd_inv hm
        refine r_seqA ?_
        refine Ex.go W (ex_opI0 (z := (at_106 + step_126)) (fun _ _ => rfl) (ex_vi rfl) (ex_vi rfl)) hq fun v_135 H_134 bb hq W M rv => ?_
        rw [← e_at_133] at rv
        have f_p_layout := Rp.mv f_p_layout M
        have f_order_81 := Rp.mv f_order_81 M
        have l_astarts_97 := l_astarts_97.step M fun o e => bb.1 _ o n_astarts_97 e
        have nN_103 := st_nN_103.mv nN_103 M
        have u := u.trans bb
        obtain rfl : v_135 = V.int at_133 := rv
        refine (bnd_name : Bnd _ _ _ _ _) _ ?_
        dsimp only [List.set_cons_succ, List.set_cons_zero]
        obtain ⟨free_136, e_free_136, hm⟩ := bnd_inv hm
        refine r_seqA ?_
        refine Ex.go W (ex_opI0 (z := (free_104 - step_126)) (fun _ _ => rfl) (ex_vi rfl) (ex_vi rfl)) hq fun v_138 H_137 bb hq W M rv => ?_
        rw [← e_free_136] at rv
        have f_p_layout := Rp.mv f_p_layout M
        have f_order_81 := Rp.mv f_order_81 M
        have l_astarts_97 := l_astarts_97.step M fun o e => bb.1 _ o n_astarts_97 e
        have nN_103 := st_nN_103.mv nN_103 M
        have u := u.trans bb
        obtain rfl : v_138 = V.int free_136 := rv
        refine (bnd_name : Bnd _ _ _ _ _) _ ?_
        dsimp only [List.set_cons_succ, List.set_cons_zero]
        obtain ⟨starts_139, e_starts_139, hm⟩ := bind_inv hm
        refine r_seqA ?_
        refine s_setix W rfl l_astarts_97 m_astarts_97 n_astarts_97 sb_bxs (ex_vi rfl) (ex_vi rfl) hq e_starts_139 fun H_140 bb hq W M l_astarts_97 => ?_
        have f_p_layout := Rp.mv f_p_layout M
        have f_order_81 := Rp.mv f_order_81 M
        have nN_103 := st_nN_103.mv nN_103 M
        have u := u.own2 h_astarts_97 bb
        obtain ⟨t_142, e_t_142, hm⟩ := bind_inv hm
        obtain ⟨at_143, e_at_143, hm⟩ := bnd_inv hm
        refine r_asg ?_
        refine Ex.go W (ex_opI0 (z := (at_133 + t_142.2)) (fun _ _ => rfl) (ex_vi rfl) (ex_snd (u := t_142) (ex_ixL (el_of W.hB (ex_var W rfl f_p_layout)) (ex_vi rfl) W e_t_142))) hq fun v_145 H_144 bb hq W M rv => ?_
        rw [← e_at_143] at rv
        have f_p_layout := Rp.mv f_p_layout M
        have f_order_81 := Rp.mv f_order_81 M
        have l_astarts_97 := l_astarts_97.step M fun o e => bb.1 _ o n_astarts_97 e
        have nN_103 := st_nN_103.mv nN_103 M
        have u := u.trans bb
        obtain rfl : v_145 = V.int at_143 := rv
        refine (bnd_name : Bnd _ _ _ _ _) _ ?_
        dsimp only [List.set_cons_succ, List.set_cons_zero]
        try dsimp only
        try dsimp only
        cases hm
        exact ⟨_, _, rfl, u, hq, W, nN_103, f_p_layout, f_order_81, l_astarts_97⟩
      clear hR
      have hm := e_j_129
      refine r_ifS ?_
      refine Et.go W (et_test (ex_eqI (ex_callB (i := ((2 : Int), ())) W (v := 0) rfl (ea_cons W (ex_int 2) ea_nil) e_t_123) (ex_int 0))) hq fun H_125 bb hq W M => ?_
      have f_p_layout := Rp.mv f_p_layout M
      have f_order_81 := Rp.mv f_order_81 M
      have l_astarts_97 := l_astarts_97.step M fun o e => bb.1 _ o n_astarts_97 e
      have nN_103 := st_nN_103.mv nN_103 M
      have u := u.trans bb
      refine ite_by (fun hc => ?_) (fun hc => ?_)
      · have hm := (if_pos hc).symm.trans hm
        obtain ⟨step_130, e_step_130, hm⟩ := bnd_inv hm
        refine r_asg ?_
        refine Ex.go W (ex_int 0) hq fun v_132 H_131 bb hq W M rv => ?_
        rw [← e_step_130] at rv
        have f_p_layout := Rp.mv f_p_layout M
        have f_order_81 := Rp.mv f_order_81 M
        have l_astarts_97 := l_astarts_97.step M fun o e => bb.1 _ o n_astarts_97 e
        have nN_103 := st_nN_103.mv nN_103 M
        have u := u.trans bb
        obtain rfl : v_132 = V.int step_130 := rv
        refine (bnd_name : Bnd _ _ _ _ _) _ ?_
        dsimp only [List.set_cons_succ, List.set_cons_zero]
        try dsimp only
        try dsimp only
        cases hm
        exact key _ u hq W nN_103 f_p_layout f_order_81 l_astarts_97
      · have hm := (if_neg hc).symm.trans hm
        refine r_next ?_
        try dsimp only
        cases hm
        exact key _ u hq W nN_103 f_p_layout f_order_81 l_astarts_97
    · intro σ H_108 hI
      obtain ⟨free_104, starts_105, at_106, bx_107⟩ := out_110
      try dsimp only at hI
      obtain ⟨xl_k, xl_step, rfl, u, hq, W, nN_103, f_p_layout, f_order_81, l_astarts_97⟩ := hI
      have hm := hgoN_103
      try dsimp only at hm
      try dsimp only
      obtain ⟨⟨t_148, bx_149⟩, e_t_148, hm⟩ := bind_inv hm
      dsimp only at hm
      refine r_seq ?_
      refine r_ifS ?_
      refine Et.go W (et_test (ex_eqI (ex_callB (i := ((4 : Int), ())) W (v := 0) rfl (ea_cons W (ex_int 4) ea_nil) e_t_148) (ex_int 0))) hq fun H_150 bb hq W M => ?_
      have f_p_layout := Rp.mv f_p_layout M
      have f_order_81 := Rp.mv f_order_81 M
      have l_astarts_97 := l_astarts_97.step M fun o e => bb.1 _ o n_astarts_97 e
      have u := u.trans bb
      refine ite_by (fun hc => ?_) (fun hc => ?_)
      · have hm := (if_pos hc).symm.trans hm
        obtain ⟨cs_152, e_cs_152, hm⟩ := bind_inv hm
        obtain ⟨hm1, hm2⟩ := Prod.mk.inj (Option.some.inj hm)
        subst hm1
        subst hm2
        refine r_ret' ?_
        refine Ex.go W (En.ex sb_bxs (en_lcL (f := fun (y_151 : (Int × Int)) => some (some y_151.1)) W sb_bxs (Ei.ej (ei_list (ex_var W rfl f_p_layout))) e_cs_152 (fun ms' H' y_151 v r' L hq' rv hm => by
                have W := L.W
                have f_p_layout := Rp.mv f_p_layout L.M
                have f_order_81 := Rp.mv f_order_81 L.M
                have l_astarts_97 := l_astarts_97.lt n_astarts_97 L
                have f_y_151 := rv
                cases hm
                exact ⟨_, bnd_name, rfl, true, et_yes, fun h => (by cases h), fun _ => ⟨_, rfl, (ex_fst (u := y_151) (ex_var W rfl f_y_151))⟩⟩))) hq fun v H_153 bb hq W M rv => ?_
        exact Q v _ (u.trans bb) (sb_bxs _ _ _ _ hq (Mv.less (fun _ h => List.mem_cons_of_mem _ (h))) fun _ _ _ e => e) (Rp.mv rv (Mv.less (fun _ h => List.mem_cons_of_mem _ (h))))
      · have hm := (if_neg hc).symm.trans hm
        refine r_next ?_
        try dsimp only
        have sub : ∀ a ∈ ms, a ∈ astarts_97 :: ms := ((.cons _ (.refl _)) : List.Sublist (ms) (astarts_97 :: ms)).subset
        have M : Mv (astarts_97 :: ms) H_150 (ms) H_150 := Mv.less sub
        have hq := sb_bxs _ _ _ _ hq M fun _ _ _ e => e
        have W : Wd [b] (ms) H_150 := ⟨fun a h => hB0 a h, W.al.less sub⟩
        have f_p_layout := Rp.mv f_p_layout M
        have f_order_81 := Rp.mv f_order_81 M
        have f_starts_105 : Rp.rp (ms) H_150 (.ref astarts_97) starts_105 := ⟨astarts_97, rfl, o_astarts_97, l_astarts_97.less sub⟩
        obtain ⟨hm1, hm2⟩ := Prod.mk.inj (Option.some.inj hm)
        subst hm1
        subst hm2
        refine r_ret' ?_
        refine Ex.go W (ex_var W rfl f_starts_105) hq fun v H_154 bb hq W M rv => ?_
        exact Q v _ (u.trans bb) (hq) (rv)
  clear hR
  have hm := e_j_84
  refine r_ifS ?_
  refine Et.go W (et_test (ex_eqI (ex_callB (i := ((2 : Int), ())) W (v := 0) rfl (ea_cons W (ex_int 2) ea_nil) e_t_78) (ex_int 0))) hq fun H_80 bb hq W M => ?_
  have f_p_layout := Rp.mv f_p_layout M
  have f_order_73 := Rp.mv f_order_73 M
  have u := u.trans bb
  refine ite_by (fun hc => ?_) (fun hc => ?_)
  · have hm := (if_pos hc).symm.trans hm
    obtain ⟨⟨t_85, bx_86⟩, e_t_85, hm⟩ := bind_inv hm
    dsimp only at hm
    obtain ⟨order_87, e_order_87, hm⟩ := bnd_inv hm
    refine r_asg ?_
    refine Ex.go W (ex_callB (i := ((p_layout.length : Int), ())) W (v := 0) rfl (ea_cons W (ex_len (el_of W.hB (ex_var W rfl f_p_layout))) ea_nil) e_t_85) hq fun v_89 H_88 bb hq W M rv => ?_
    rw [← e_order_87] at rv
    have f_p_layout := Rp.mv f_p_layout M
    have f_order_73 := Rp.mv f_order_73 M
    have u := u.trans bb
    have f_order_87 := rv
    refine (bnd_name : Bnd _ _ _ _ _) _ ?_
    dsimp only [List.set_cons_succ, List.set_cons_zero]
    try dsimp only
    try dsimp only
    cases hm
    exact key _ _ u hq W f_p_layout f_order_87
  · have hm := (if_neg hc).symm.trans hm
    refine r_next ?_
    try dsimp only
    cases hm
    exact key _ _ u hq W f_p_layout f_order_73
/-- drawn starts: the blocks lie disjoint within the heap -/
theorem law_startsM_ok (bx : List Int × Nat) {size : Int} {bs : List (Int × Int)} (hv : VL size 0 bs) (hl : bs.length ≤ 100) : ∃ st bx', law_startsM bx size bs = some (st, bx') ∧ st.length = bs.length ∧ Dis (plF bs st) ∧ Ins size (plF bs st) := by
  have hsame : Dis (plF bs (bs.map (·.1))) ∧ Ins size (plF bs (bs.map (·.1))) := by rw [plF_same]; exact ⟨hv.dis, hv.ins⟩
  have hm := hv.mem
  have hlive := hv.live
  unfold law_startsM
  rw [rng1_ok (by omega)]
  simp only [bnd, Option.bind_some, Int.toNat_natCast]
  rw [colL_id (by rw [rngL_len]; omega)]
  simp only [Option.bind_some]
  obtain ⟨r0, n0, e0, _, _⟩ := drawF_ok (bx := bx) (m := 2) (by decide)
  simp only [e0, Option.bind_some]
  have hord : ∃ ord bx1, (if (decide (r0 = (0 : Int))) = true then ((law_orderM (bx.1, n0) (bs.length : Int)).bind fun x => some (x.1, x.2)) else some (rngL 0 bs.length, (bx.1, n0))) = some (ord, bx1) ∧ ord.Perm (rngL 0 bs.length) := by
    split
    · obtain ⟨ord, bx1, e, h⟩ := law_orderM_ok (bx.1, n0) (n := bs.length) (by omega)
      exact ⟨ord, bx1, by rw [e]; rfl, h⟩
    · exact ⟨_, _, rfl, .refl _⟩
  obtain ⟨ord, bx1, eo, ho⟩ := hord
  rw [eo]
  simp only [Option.bind_some]
  rw [colL_map (g := fun p : Int × Int => p.2) (by omega) (fun _ _ => rfl), Option.bind_some, colL_map (g := fun p : Int × Int => (0 : Int)) (by omega) (fun _ _ => rfl)]
  simp only [Option.bind_some]
  let L : Int → Int := fun k => (bs.getD k.toNat (0, 0)).2
  have hL : ∀ (k : Nat) b, bs[k]? = some b → L k = b.2 := by
    intro k b hb
    show (bs.getD ((k : Int).toNat) (0, 0)).2 = b.2
    rw [Int.toNat_natCast, List.getD_eq_getElem?_getD, hb]
    rfl
  have hsum : (ord.map L).sum = lenS bs := by
    rw [perm_sum (ho.map L)]
    unfold lenS
    congr 1
    refine List.ext_getElem? fun i => ?_
    rw [List.getElem?_map, List.getElem?_map]
    by_cases c : i < bs.length
    · rw [rngL_get c]
      obtain ⟨b, hb⟩ := get_of_lt c
      rw [hb]
      show some (L (0 + (i : Int))) = _
      rw [show (0 : Int) + (i : Int) = (i : Nat) by omega, hL i b hb]
      rfl
    · rw [List.getElem?_eq_none_iff.mpr (by rw [rngL_len]; omega), List.getElem?_eq_none_iff.mpr (by omega)]
      rfl
  have hnd : ord.Nodup := (ho.nodup_iff).mpr (rngL_nodup 0 bs.length)
  have hmem : ∀ k ∈ ord, ∃ i : Nat, k = i ∧ i < bs.length := fun k hk => by
    have := rngL_mem.mp (ho.mem_iff.mp hk)
    exact ⟨k.toNat, by omega, by omega⟩
  generalize hF : fold _ _ _ = z
  have key : ∃ out, z = some out ∧ out.2.1.length = bs.length ∧ ∃ f at_ : Int, out.1 = f ∧ out.2.2.1 = at_ ∧ 0 ≤ f ∧ at_ + f + ((ord.drop ord.length).map L).sum = size ∧ (∀ j (k : Nat), j < ord.length → ord[j]? = some (k : Int) → ∃ s b, out.2.1[k]? = some s ∧ bs[k]? = some b ∧ 0 ≤ s ∧ s + b.2 ≤ at_ ∧ ∀ j' (k' : Nat), j' < j → ord[j']? = some (k' : Int) → ∃ s' b', out.2.1[k']? = some s' ∧ bs[k']? = some b' ∧ s' + b'.2 ≤ s) ∧ 0 ≤ at_ := by
    rw [← hF]
    refine fold_ex (fun i (x : Int × List Int × Int × (List Int × Nat)) => x.2.1.length = bs.length ∧ ∃ f at_ : Int, x.1 = f ∧ x.2.2.1 = at_ ∧ 0 ≤ f ∧ at_ + f + ((ord.drop i).map L).sum = size ∧ (∀ j (k : Nat), j < i → ord[j]? = some (k : Int) → ∃ s b, x.2.1[k]? = some s ∧ bs[k]? = some b ∧ 0 ≤ s ∧ s + b.2 ≤ at_ ∧ ∀ j' (k' : Nat), j' < j → ord[j']? = some (k' : Int) → ∃ s' b', x.2.1[k']? = some s' ∧ bs[k']? = some b' ∧ s' + b'.2 ≤ s) ∧ 0 ≤ at_) ⟨by simp, _, _, rfl, rfl, by unfold lenS at hlive; omega, by rw [List.drop_zero, hsum]; unfold lenS; dsimp only; omega, fun j k hj => absurd hj (Nat.not_lt_zero _), by dsimp only; omega⟩ ?_
    rintro i a ⟨f, st, at_, bx2⟩ ha ⟨hst, f', at', hf, hat, h0, hs, hall, hat0⟩
    dsimp only at hst hf hat hall
    subst hf hat
    obtain ⟨k, rfl, hk⟩ := hmem a (List.mem_of_getElem? ha)
    obtain ⟨b, hb⟩ := get_of_lt hk
    have hbm := hm b (List.mem_of_getElem? hb)
    obtain ⟨r1, n1, e1, _, _⟩ := drawF_ok (bx := bx2) (m := 60) (by decide)
    obtain ⟨r2, n2, e2, _, _⟩ := drawF_ok (bx := (bx2.1, n1)) (m := 2) (by decide)
    have d1 : (0 : Int) < f + 1 := by omega
    simp only [e1, Option.bind_some, modF_pos d1, e2]
    have hstep : ∃ step : Int, 0 ≤ step ∧ step ≤ f ∧ (if (decide (r2 = (0 : Int))) = true then some ((0 : Int), (bx2.1, n2)) else some (r1 % (f + 1), (bx2.1, n2))) = some (step, (bx2.1, n2)) := by
      have a1 := Int.emod_nonneg r1 (show f + 1 ≠ 0 by omega)
      have a2 := Int.emod_lt_of_pos r1 d1
      split
      · exact ⟨0, by omega, h0, rfl⟩
      · exact ⟨_, a1, by omega, rfl⟩
    obtain ⟨step, p0, p1, e3⟩ := hstep
    rw [e3]
    simp only [Option.bind_some]
    rw [setF_ok (by omega), at_ok hb]
    simp only [Option.bind_some]
    refine ⟨_, rfl, ?_⟩
    dsimp only
    have hd := drop_get ha
    have hs2 : at_ + f + (b.2 + ((ord.drop (i + 1)).map L).sum) = size := by
      rw [hd, List.map_cons, List.sum_cons, hL k b hb] at hs
      exact hs
    refine ⟨by rw [List.length_set]; exact hst, _, _, rfl, rfl, by omega, by omega, ?_, by omega⟩
    intro j k1 hj hj1
    by_cases c : j = i
    · subst c
      rw [ha] at hj1
      have : k1 = k := by have := Option.some.inj hj1; omega
      subst this
      refine ⟨at_ + step, b, set_get (by omega), hb, by omega, by omega, fun j' k' hj' hk' => ?_⟩
      obtain ⟨s, b1, g1, g2, g3, g4, _⟩ := hall j' k' hj' hk'
      have ne : k1 ≠ k' := by
        rintro rfl
        have := nodup_get hnd hk' ha
        omega
      exact ⟨s, b1, by rw [set_get_ne ne]; exact g1, g2, by omega⟩
    · have hj' : j < i := by omega
      obtain ⟨s, b1, g1, g2, g3, g4, g5⟩ := hall j k1 hj' hj1
      have ne : ∀ j2 (k2 : Nat), j2 < i → ord[j2]? = some (k2 : Int) → k ≠ k2 := by
        rintro j2 k2 hj2 hk2 rfl
        have := nodup_get hnd hk2 ha
        omega
      refine ⟨s, b1, by rw [set_get_ne (ne j k1 hj' hj1)]; exact g1, g2, g3, by omega, fun j2 k2 hj2 hk2 => ?_⟩
      obtain ⟨s', b', q1, q2, q3⟩ := g5 j2 k2 hj2 hk2
      exact ⟨s', b', by rw [set_get_ne (ne j2 k2 (by omega) hk2)]; exact q1, q2, q3⟩
  obtain ⟨⟨f, st, at_, bx2⟩, rfl, k1, f', at', hf, hat, h0, hs, hall, hat0⟩ := key
  dsimp only at k1 hf hat hall
  subst hf hat
  simp only [Option.bind_some]
  obtain ⟨r3, n3, e3, _, _⟩ := drawF_ok (bx := bx2) (m := 4) (by decide)
  simp only [e3, Option.bind_some]
  split
  · rw [colL_map (g := fun p : Int × Int => p.1) (by omega) (fun _ _ => rfl)]
    exact ⟨_, _, rfl, by rw [List.length_map], hsame⟩
  · refine ⟨st, _, rfl, k1, ?_, ?_⟩
    · have pos : ∀ i : Nat, i < bs.length → ∃ j, j < ord.length ∧ ord[j]? = some (i : Int) := fun i hi => by
        have : (i : Int) ∈ ord := ho.mem_iff.mpr (rngL_mem.mpr (by omega))
        obtain ⟨j, hj⟩ := List.mem_iff_getElem?.mp this
        exact ⟨j, lt_of_get hj, hj⟩
      have half : ∀ (i i' j j' : Nat) (x y : Int × Int), j' < j → ord[j]? = some (i : Int) → ord[j']? = some (i' : Int) → (plF bs st)[i]? = some x → (plF bs st)[i']? = some y → y.1 + y.2 ≤ x.1 := by
        intro i i' j j' x y hjj hj hj' hx hy
        obtain ⟨b1, s1, q1, q2, rfl⟩ := plF_inv hx
        obtain ⟨b2, s2, q3, q4, rfl⟩ := plF_inv hy
        obtain ⟨s, b, g1, g2, g3, g4, g5⟩ := hall j i (lt_of_get hj) hj
        obtain ⟨s', b', g6, g7, g8⟩ := g5 j' i' hjj hj'
        rw [q2] at g1
        rw [q4] at g6
        rw [q3] at g7
        cases g1
        cases g6
        cases g7
        exact g8
      intro i i' x y ne hx hy
      obtain ⟨_, _, q1, _, _⟩ := plF_inv hx
      obtain ⟨_, _, q2, _, _⟩ := plF_inv hy
      obtain ⟨j, hj, ej⟩ := pos i (lt_of_get q1)
      obtain ⟨j', hj', ej'⟩ := pos i' (lt_of_get q2)
      rcases Nat.lt_trichotomy j j' with c | c | c
      · exact .inl (half i' i j' j y x c ej' ej hy hx)
      · subst c
        rw [ej] at ej'
        have := Option.some.inj ej'
        exact absurd (by omega) ne
      · exact .inr (half i i' j j' x y c ej ej' hx hy)
    · intro i x hx
      obtain ⟨b, s, q1, q2, rfl⟩ := plF_inv hx
      have : (i : Int) ∈ ord := ho.mem_iff.mpr (rngL_mem.mpr (by have := lt_of_get q1; omega))
      obtain ⟨j, hj⟩ := List.mem_iff_getElem?.mp this
      obtain ⟨s', b', g1, g2, g3, g4, _⟩ := hall j i (lt_of_get hj) hj
      rw [q2] at g1
      rw [q1] at g2
      cases g1
      cases g2
      have := hm b (List.mem_of_getElem? q1)
      have hs' : at_ + f = size := by
        rw [List.drop_length] at hs
        simpa using hs
      dsimp only
      omega
end
end Pf

namespace Pf
open PySem L2
local macro_rules | `(tactic| walk_at "rd1") => `(tactic| first
  | with_reducible refine r_seqA ?_
  | with_reducible refine r_seqD ?_
  | with_reducible refine r_seqF ?_
  | with_reducible refine r_seqN ?_
  | with_reducible refine r_asg ?_
  | with_reducible refine r_drop ?_
  | with_reducible refine r_ret ?_
  | with_reducible refine r_ifS ?_
  | ((with_reducible refine r_next ?_); try dsimp only)
  | ((with_reducible refine r_name ?_); try dsimp only [List.set_cons_succ, List.set_cons_zero, wipe])
  | ((with_reducible refine' r_var ?rdh ?_); (case rdh => rfl))
  | with_reducible refine r_c ?_
  | with_reducible refine r_op ?_
  | with_reducible refine r_un ?_
  | with_reducible refine r_I0 ?_
  | ((with_reducible refine r_I ?_ ?_); (· first | decide | exact Or.inl (by decide) | exact Or.inr (by decide) | (show _ ∧ _; constructor <;> decide) | (show (0:Int) < _; omega) | (show CDiv _ _; unfold CDiv; omega) ))
  | with_reducible refine r_U ?_
  | with_reducible refine r_eqI ?_
  | with_reducible refine r_neI ?_
  | with_reducible refine r_eqB ?_
  | with_reducible refine r_neB ?_
  | with_reducible refine r_test ?_
  | with_reducible refine r_B ?_
  | with_reducible refine r_bl ?_
  | with_reducible refine r_bl2 ?_
  | with_reducible refine r_yes ?_
  | with_reducible refine r_wipe (by rfl) ?_
  | with_reducible refine r_rfl ?_
  | ((with_reducible refine' r_eqA ?rdh ?_); (case rdh => rfl))
  | with_reducible refine r_and ?_
  | with_reducible refine r_or ?_
  | with_reducible refine r_not ?_
  | with_reducible refine r_andV ?_
  | with_reducible refine r_orV ?_
  | with_reducible refine r_notV ?_
  | with_reducible refine r_ifE ?_
  | with_reducible refine r_nil ?_
  | with_reducible refine r_cons ?_
  | with_reducible refine r_tup ?_
  | with_reducible refine r_lst ?_
  | with_reducible refine r_CB ?_
  | with_reducible refine r_call ?_
  | with_reducible refine r_bm ?_
  | with_reducible refine r_bm0 ?_
  | with_reducible refine r_int ?_
  | with_reducible refine r_i2 ?_
  | with_reducible refine r_i1 ?_
  | with_reducible refine r_gcons ?_
  | with_reducible refine r_gnil ?_
  | with_reducible refine r_gsub ?_
  | with_reducible refine iteT ?_
  | with_reducible refine iteF ?_
  | with_reducible refine ite_notT ?_
  | with_reducible refine ite_notF ?_
  | with_reducible refine r_isi_ib ?_
  | with_reducible refine r_isi_ii ?_
  | with_reducible refine r_isi_bb ?_
  | with_reducible refine r_isi_nb ?_
  | with_reducible refine r_isi_nt ?_
  | ((with_reducible refine' r_isi_ll ?rdh ?_); (case rdh => first | assumption | exact upd_same))
  | ((with_reducible refine' r_isi_tt ?rdh ?_); (case rdh => first | assumption | exact upd_same))
  | with_reducible refine r_sl ?_
  | with_reducible refine r_noPart ?_
  | with_reducible refine r_part ?_
  | with_reducible refine r_int1 ?_
  | with_reducible refine r_tru ?_
  | with_reducible refine r_ckw ?_
  | with_reducible refine r_lc ?_
  | with_reducible refine r_lc2 ?_
  | with_reducible refine r_forS ?_
  | with_reducible refine r_iR1 ?_
  | with_reducible refine r_iR2 ?_
  | with_reducible refine r_iL ?_
  | ((with_reducible refine' r_lenL ?rdh ?_); (case rdh => walk_at "sq"))
  | ((with_reducible refine' r_ixL ?rdh ?rda ?_); (case rdh => walk_at "sq"); (case rda => walk_at "at"))
  | ((with_reducible refine' r_ixT ?rdh ?rda ?_); (case rdh => walk_at "sq"); (case rda => walk_at "at")))
local macro_rules | `(tactic| walk_at "sq") => `(tactic| first
  | assumption
  | exact SqL.of (by assumption)
  | exact SqL.of upd_same
  | exact SqT.of (by assumption)
  | exact SqT.of upd_same)
local macro_rules | `(tactic| walk_at "sml") => `(tactic| (rw [sizeLine_eq]; simp))
local macro_rules | `(tactic| walk_at "at") => `(tactic| first | assumption | rfl)
local macro_rules | `(tactic| walk_at "rd") => `(tactic| repeat walk_at "rd1")
section
variable {w : World} {P : Program} {base : Heap} {K : PySem.W.Frag} {mg : Str → Option Value}
def placedM (p_layout : (List (Int × Int))) (p_starts : (List Int)) : Option (List (Int × Int)) :=
  (colL (fun (y_155 : ((Int × Int) × Int)) => bnd (y_155.1) fun p_157 => bnd (p_157.1) fun __159 => bnd (p_157.2) fun length_160 => bnd (y_155.2) fun start_161 => some (some (start_161, length_160))) (p_layout.zip p_starts)).bind fun cs_162 => some cs_162
theorem mk_placed {f  : Addr} {fd  : FuncData} (T : Txt mg) (F : Fun K "placed" "placed" s_placed f fd) (m : mg "placed" = some (.ref f)) (b : Binds K fd ["layout", "starts"] []) :
    Cal P w K mg base "placed" 1 f fd ["layout", "starts"] (spP (fun (i : (List (Int × Int)) × (List Int) × Unit) => placedM i.1 i.2.1)) := by
  refine ⟨F.ok sc_placed (fun vs H Q E h => ?_) (fun cdv A outer s H vs Q E hr h => ?_), m, F.kp, b⟩
  · obtain ⟨ms, ⟨p_layout, p_starts, ⟨⟩⟩, r, _, ⟨v_p_layout, _, rfl, f_p_layout, ⟨v_p_starts, _, rfl, f_p_starts, e0⟩⟩, _⟩ := h
    cases e0
    rfl
  obtain ⟨ms, ⟨p_layout, p_starts, ⟨⟩⟩, r, al, ⟨v_p_layout, _, rfl, f_p_layout, ⟨v_p_starts, _, rfl, f_p_starts, e0⟩⟩, hm, Q⟩ := h
  cases e0
  refine ⟨_, (pss_one (ps_ret (show PE _ _ (tLc _ _ _ _ [2, 3, 4]) from pe_lc (own := [("start", 2), ("_", 3), ("length", 4)]) (g := gTup K 2 (gCons (gTup K 2 (gCons (gName 3) (gCons (gName 4) gNil))) (gCons (gName 2) gNil))) (tt := tYes) rfl sc_placed.nd (pi_zip rfl T.zip (pa_cons (pv 0) (pa_cons (pv 1) pa_nil))) (blkOk_by (own := [("start", 2), ("_", 3), ("length", 4)]) (N := ["layout", "starts", "start", "_", "length"]) (sc := defScope s_placed) (by decide +kernel)) (fun _ _ _ _ _ => (pg_tup rfl (pgs_cons (pg_tup rfl (pgs_cons (pg_name (i := 3) sc_placed.nd rfl (Or.inl rfl)) (pgs_cons (pg_name (i := 4) sc_placed.nd rfl (Or.inl rfl)) pgs_nil))) (pgs_cons (pg_name (i := 2) sc_placed.nd rfl (Or.inl rfl)) pgs_nil)))) (fun _ _ _ _ _ => pts_nil) (fun _ _ _ _ _ => (pe_tup (pa_cons (pv 2) (pa_cons (pv 4) pa_nil))))))), ?_⟩
  try dsimp only [cxOf, Cx.nox, Cx.wish]
  rw [show start ["layout", "starts", "start", "_", "length"] [v_p_layout, v_p_starts] = [some (v_p_layout), some (v_p_starts), none, none, none] from rfl]
  have W : Wd [] ms H := ⟨fun a h => (by cases h), al⟩
  have hq : Tr ms H := trivial
  have hm : placedM p_layout p_starts = some r := hm
  have u : Bu [] H H := Bu.refl _ H
  unfold placedM at hm
  obtain ⟨cs_162, e_cs_162, hm⟩ := bind_inv hm
  have hm := Option.some.inj hm
  subst hm
  refine r_ret' ?_
  refine Ex.go W (En.ex (sb_tr (B := [])) (en_lcL (f := fun (y_155 : ((Int × Int) × Int)) => bnd (y_155.1) fun p_157 => bnd (p_157.1) fun __159 => bnd (p_157.2) fun length_160 => bnd (y_155.2) fun start_161 => some (some (start_161, length_160))) W (sb_tr (B := [])) (Ei.ej (ei_zip (ea_cons W (ex_var W rfl f_p_layout) (ea_cons W (ex_var W rfl f_p_starts) ea_nil)))) e_cs_162 (fun ms' H' y_155 v r' L hq' rv hm => by
          have W := L.W
          have f_p_layout := Rp.mv f_p_layout L.M
          have f_p_starts := Rp.mv f_p_starts L.M
          obtain ⟨p_157, e_p_157, hm⟩ := bnd_inv hm
          obtain ⟨__159, e___159, hm⟩ := bnd_inv hm
          obtain ⟨length_160, e_length_160, hm⟩ := bnd_inv hm
          obtain ⟨start_161, e_start_161, hm⟩ := bnd_inv hm
          obtain ⟨a_k_156, u0_k_156, u1_k_156, rfl, n_k_156, eh_k_156, r0_k_156, r1_k_156⟩ := rv
          rw [← e_p_157] at r0_k_156
          obtain ⟨a_k_158, u0_k_158, u1_k_158, rfl, n_k_158, eh_k_158, r0_k_158, r1_k_158⟩ := r0_k_156
          rw [← e___159] at r0_k_158
          obtain rfl : u0_k_158 = V.int __159 := r0_k_158
          rw [← e_length_160] at r1_k_158
          obtain rfl : u1_k_158 = V.int length_160 := r1_k_158
          rw [← e_start_161] at r1_k_156
          obtain rfl : u1_k_156 = V.int start_161 := r1_k_156
          cases hm
          exact ⟨_, (bnd_tup2 eh_k_156 (bnd_tup2 eh_k_158 bnd_name bnd_name) bnd_name), rfl, true, et_yes, fun h => (by cases h), fun _ => ⟨_, rfl, (ex_tup2 W (sb_tr (B := [])) (u := (start_161, length_160)) (ea_cons W (ex_vi rfl) (ea_cons W (ex_vi rfl) ea_nil)))⟩⟩))) hq fun v H_163 bb hq W M rv => ?_
  exact Q v _ (Bu.to_same (u.trans bb)) (rv)
def meetsM (p_block : (Int × Int)) (p_other : (Int × Int)) : Option Bool :=
  some (decide ((max p_block.1 p_other.1) < (min (p_block.1 + p_block.2) (p_other.1 + p_other.2))))
theorem mk_meets {f  : Addr} {fd  : FuncData} (T : Txt mg) (F : Fun K "meets" "meets" s_meets f fd) (m : mg "meets" = some (.ref f)) (b : Binds K fd ["block", "other"] []) :
    Cal P w K mg base "meets" 1 f fd ["block", "other"] (spP (fun (i : (Int × Int) × (Int × Int) × Unit) => meetsM i.1 i.2.1)) := by
  refine ⟨F.ok sc_meets (fun vs H Q E h => ?_) (fun cdv A outer s H vs Q E hr h => ?_), m, F.kp, b⟩
  · obtain ⟨ms, ⟨p_block, p_other, ⟨⟩⟩, r, _, ⟨v_p_block, _, rfl, f_p_block, ⟨v_p_other, _, rfl, f_p_other, e0⟩⟩, _⟩ := h
    cases e0
    rfl
  obtain ⟨ms, ⟨p_block, p_other, ⟨⟩⟩, r, al, ⟨v_p_block, _, rfl, f_p_block, ⟨v_p_other, _, rfl, f_p_other, e0⟩⟩, hm, Q⟩ := h
  cases e0
  refine ⟨_, (pss_one (ps_ret (pe_cmpR op_lt (pe_callB (call_max2 rfl) (by rfl) T.max (by decide +kernel) (pa_cons (pe_ix (show IxR _ (rIxT K) from ix_tup) (pv 0) pe_int (fun _ _ => rfl)) (pa_cons (pe_ix (show IxR _ (rIxT K) from ix_tup) (pv 1) pe_int (fun _ _ => rfl)) pa_nil))) (pe_callB (call_min2 rfl) (by rfl) T.min (by decide +kernel) (pa_cons (pe_op op_add (pe_ix (show IxR _ (rIxT K) from ix_tup) (pv 0) pe_int (fun _ _ => rfl)) (pe_ix (show IxR _ (rIxT K) from ix_tup) (pv 0) pe_int (fun _ _ => rfl))) (pa_cons (pe_op op_add (pe_ix (show IxR _ (rIxT K) from ix_tup) (pv 1) pe_int (fun _ _ => rfl)) (pe_ix (show IxR _ (rIxT K) from ix_tup) (pv 1) pe_int (fun _ _ => rfl))) pa_nil))) (nomark _)))), ?_⟩
  try dsimp only [cxOf, Cx.nox, Cx.wish]
  rw [show start ["block", "other"] [v_p_block, v_p_other] = [some (v_p_block), some (v_p_other)] from rfl]
  have W : Wd [] ms H := ⟨fun a h => (by cases h), al⟩
  have hq : Tr ms H := trivial
  have hm : meetsM p_block p_other = some r := hm
  have u : Bu [] H H := Bu.refl _ H
  unfold meetsM at hm
  have hm := Option.some.inj hm
  subst hm
  refine r_ret' ?_
  refine Ex.go W (ex_opI0 (z := (decide ((max p_block.1 p_other.1) < (min (p_block.1 + p_block.2) (p_other.1 + p_other.2))))) (fun _ _ => rfl) (ex_max2 (ea_cons W (ex_fst (u := p_block) (ex_var W rfl f_p_block)) (ea_cons W (ex_fst (u := p_other) (ex_var W rfl f_p_other)) ea_nil))) (ex_min2 (ea_cons W (ex_opI0 (z := (p_block.1 + p_block.2)) (fun _ _ => rfl) (ex_fst (u := p_block) (ex_var W rfl f_p_block)) (ex_snd (u := p_block) (ex_var W rfl f_p_block))) (ea_cons W (ex_opI0 (z := (p_other.1 + p_other.2)) (fun _ _ => rfl) (ex_fst (u := p_other) (ex_var W rfl f_p_other)) (ex_snd (u := p_other) (ex_var W rfl f_p_other))) ea_nil)))) hq fun v H_164 bb hq W M rv => ?_
  exact Q v _ (Bu.to_same (u.trans bb)) (rv)
def can_moveM (p_blocks : (List (Int × Int))) (p_index : Int) (p_goal : (Int × Int)) : Option Bool :=
  (catF (cutF p_blocks none (some p_index)) (cutF p_blocks (some (p_index + (1 : Int))) none)).bind fun t_165 => bnd (t_165) fun others_166 => (colL (fun (y_169 : (Int × Int)) => (meetsM p_goal y_169).bind fun t_171 => some (some t_171)) others_166).bind fun cs_170 => some (!(cs_170.any id))
theorem mk_can_move {f f1 : Addr} {fd fd1 : FuncData} (T : Txt mg) (F : Fun K "_can_move" "_can_move" s_can_move f fd) (m : mg "_can_move" = some (.ref f)) (b : Binds K fd ["blocks", "index", "goal"] [])
    (C_meets : Cal P w K mg base "meets" 1 f1 fd1 ["block", "other"] (spP (fun (i : (Int × Int) × (Int × Int) × Unit) => meetsM i.1 i.2.1))) :
    Cal P w K mg base "_can_move" 2 f fd ["blocks", "index", "goal"] (spP (fun (i : (List (Int × Int)) × Int × (Int × Int) × Unit) => can_moveM i.1 i.2.1 i.2.2.1)) := by
  refine ⟨F.ok sc_can_move (fun vs H Q E h => ?_) (fun cdv A outer s H vs Q E hr h => ?_), m, F.kp, b⟩
  · obtain ⟨ms, ⟨p_blocks, p_index, p_goal, ⟨⟩⟩, r, _, ⟨v_p_blocks, _, rfl, f_p_blocks, ⟨v_p_index, _, rfl, f_p_index, ⟨v_p_goal, _, rfl, f_p_goal, e0⟩⟩⟩, _⟩ := h
    cases e0
    rfl
  obtain ⟨ms, ⟨p_blocks, p_index, p_goal, ⟨⟩⟩, r, al, ⟨v_p_blocks, _, rfl, f_p_blocks, ⟨v_p_index, _, rfl, f_p_index, ⟨v_p_goal, _, rfl, f_p_goal, e0⟩⟩⟩, hm, Q⟩ := h
  cases e0
  obtain rfl : v_p_index = V.int p_index := f_p_index
  refine ⟨_, (pss_cons (ps_set (i := 3) sc_can_move.nd rfl (Or.inl rfl) (pe_op op_cat (pe_slice (show SlR _ (rSlL K) from sl_list) (pv 0) po_none (po_some (pv 1))) (pe_slice (show SlR _ (rSlL K) from sl_list) (pv 0) (po_some (pe_op op_add (pv 1) pe_int)) po_none))) (pss_one (ps_ret (pe_not (pe_callB (show CallR _ _ (rAny K) from cr_any rfl) (by rfl) T.any (by decide +kernel) (pa_cons (show PE _ _ (tLc _ _ _ _ [4]) from pe_lc (own := [("other", 4)]) (g := gName 4) (tt := tYes) rfl sc_can_move.nd (pi_list (pv 3)) (blkOk_by (own := [("other", 4)]) (N := ["blocks", "index", "goal", "others", "other"]) (sc := defScope s_can_move) (by decide +kernel)) (fun _ _ _ _ _ => (pg_name (i := 4) sc_can_move.nd rfl (Or.inl rfl))) (fun _ _ _ _ _ => pts_nil) (fun _ _ _ _ _ => (pe_call C_meets.ok (hr.mono (by first | decide | omega)) rfl C_meets.mg C_meets.kp C_meets.b .nil pass0 (pa_cons (pv 2) (pa_cons (pv 4) pa_nil))))) pa_nil)))))), ?_⟩
  try dsimp only [cxOf, Cx.nox, Cx.wish]
  rw [show start ["blocks", "index", "goal", "others", "other"] [v_p_blocks, V.int p_index, v_p_goal] = [some (v_p_blocks), some (V.int p_index), some (v_p_goal), none, none] from rfl]
  have W : Wd [] ms H := ⟨fun a h => (by cases h), al⟩
  have hq : Tr ms H := trivial
  have hm : can_moveM p_blocks p_index p_goal = some r := hm
  have u : Bu [] H H := Bu.refl _ H
  unfold can_moveM at hm
  obtain ⟨t_165, e_t_165, hm⟩ := bind_inv hm
  obtain ⟨others_166, e_others_166, hm⟩ := bnd_inv hm
  refine r_seqA ?_
  refine Ex.go W (En.ex (sb_tr (B := [])) (en_cat W (sb_tr (B := [])) (el_of W.hB (En.ex (sb_tr (B := [])) (en_slice W (sb_tr (B := [])) (el_of W.hB (ex_var W rfl f_p_blocks)) eo_none (eo_some (ex_vi rfl))))) (el_of W.hB (En.ex (sb_tr (B := [])) (en_slice W (sb_tr (B := [])) (el_of W.hB (ex_var W rfl f_p_blocks)) (eo_some (ex_opI0 (z := (p_index + (1 : Int))) (fun _ _ => rfl) (ex_vi rfl) (ex_int 1))) eo_none))) e_t_165)) hq fun v_168 H_167 bb hq W M rv => ?_
  rw [← e_others_166] at rv
  have f_p_blocks := Rp.mv f_p_blocks M
  have f_p_goal := Rp.mv f_p_goal M
  have u := u.trans bb
  have f_others_166 := rv
  refine (bnd_name : Bnd _ _ _ _ _) _ ?_
  dsimp only [List.set_cons_succ, List.set_cons_zero]
  obtain ⟨cs_170, e_cs_170, hm⟩ := bind_inv hm
  have hm := Option.some.inj hm
  subst hm
  refine r_ret' ?_
  refine Ex.go W (ex_not (ex_any (el_of W.hB (En.ex (sb_tr (B := [])) (en_lcL (f := fun (y_169 : (Int × Int)) => (meetsM p_goal y_169).bind fun t_171 => some (some t_171)) W (sb_tr (B := [])) (Ei.ej (ei_list (ex_var W rfl f_others_166))) e_cs_170 (fun ms' H' y_169 v r' L hq' rv hm => by
          have W := L.W
          have f_p_blocks := Rp.mv f_p_blocks L.M
          have f_p_goal := Rp.mv f_p_goal L.M
          have f_others_166 := Rp.mv f_others_166 L.M
          have f_y_169 := rv
          obtain ⟨t_171, e_t_171, hm⟩ := bind_inv hm
          cases hm
          exact ⟨_, bnd_name, rfl, true, et_yes, fun h => (by cases h), fun _ => ⟨_, rfl, (ex_call (i := (p_goal, y_169, ())) W (sb_tr (B := [])) (ea_cons W (ex_var W rfl f_p_goal) (ea_cons W (ex_var W rfl f_y_169) ea_nil)) e_t_171)⟩⟩)))))) hq fun v H_172 bb hq W M rv => ?_
  exact Q v _ (Bu.to_same (u.trans bb)) (rv)
theorem placedM_ok {bs : List (Int × Int)} {st : List Int} (hl : bs.length ≤ 1000) : placedM bs st = some (plF bs st) := by
  unfold placedM
  simp only [bnd]
  rw [colL_map (g := fun p : (Int × Int) × Int => (p.2, p.1.2)) (by rw [List.length_zip]; omega) (fun _ _ => rfl)]
  rfl

theorem meetsM_ok (x y : Int × Int) : meetsM x y = some (meetB x y) := rfl
theorem can_moveM_ok {bs : List (Int × Int)} {i : Nat} {g : Int × Int} (hi : i < bs.length) (hl : bs.length ≤ 1000) : can_moveM bs (i : Int) g = some (canB bs i g) := by
  unfold can_moveM
  rw [cut_to bs (by omega), show (i : Int) + 1 = ((i + 1 : Nat) : Int) by omega, cut_from bs (by omega)]
  rw [catF_ok (by rw [List.length_take, List.length_drop]; omega)]
  simp only [bnd, Option.bind_some, meetsM_ok]
  rw [colL_map (g := meetB g) (by rw [List.length_append, List.length_take, List.length_drop]; omega) (fun _ _ => rfl)]
  rfl
end
end Pf

namespace Pf
open PySem L2
local macro_rules | `(tactic| walk_at "rd1") => `(tactic| first
  | with_reducible refine r_seqA ?_
  | with_reducible refine r_seqD ?_
  | with_reducible refine r_seqF ?_
  | with_reducible refine r_seqN ?_
  | with_reducible refine r_asg ?_
  | with_reducible refine r_drop ?_
  | with_reducible refine r_ret ?_
  | with_reducible refine r_ifS ?_
  | ((with_reducible refine r_next ?_); try dsimp only)
  | ((with_reducible refine r_name ?_); try dsimp only [List.set_cons_succ, List.set_cons_zero, wipe])
  | ((with_reducible refine' r_var ?rdh ?_); (case rdh => rfl))
  | with_reducible refine r_c ?_
  | with_reducible refine r_op ?_
  | with_reducible refine r_un ?_
  | with_reducible refine r_I0 ?_
  | ((with_reducible refine r_I ?_ ?_); (· first | decide | exact Or.inl (by decide) | exact Or.inr (by decide) | (show _ ∧ _; constructor <;> decide) | (show (0:Int) < _; omega) | (show CDiv _ _; unfold CDiv; omega) ))
  | with_reducible refine r_U ?_
  | with_reducible refine r_eqI ?_
  | with_reducible refine r_neI ?_
  | with_reducible refine r_eqB ?_
  | with_reducible refine r_neB ?_
  | with_reducible refine r_test ?_
  | with_reducible refine r_B ?_
  | with_reducible refine r_bl ?_
  | with_reducible refine r_bl2 ?_
  | with_reducible refine r_yes ?_
  | with_reducible refine r_wipe (by rfl) ?_
  | with_reducible refine r_rfl ?_
  | ((with_reducible refine' r_eqA ?rdh ?_); (case rdh => rfl))
  | with_reducible refine r_and ?_
  | with_reducible refine r_or ?_
  | with_reducible refine r_not ?_
  | with_reducible refine r_andV ?_
  | with_reducible refine r_orV ?_
  | with_reducible refine r_notV ?_
  | with_reducible refine r_ifE ?_
  | with_reducible refine r_nil ?_
  | with_reducible refine r_cons ?_
  | with_reducible refine r_tup ?_
  | with_reducible refine r_lst ?_
  | with_reducible refine r_CB ?_
  | with_reducible refine r_call ?_
  | with_reducible refine r_bm ?_
  | with_reducible refine r_bm0 ?_
  | with_reducible refine r_int ?_
  | with_reducible refine r_i2 ?_
  | with_reducible refine r_i1 ?_
  | with_reducible refine r_gcons ?_
  | with_reducible refine r_gnil ?_
  | with_reducible refine r_gsub ?_
  | with_reducible refine iteT ?_
  | with_reducible refine iteF ?_
  | with_reducible refine ite_notT ?_
  | with_reducible refine ite_notF ?_
  | with_reducible refine r_isi_ib ?_
  | with_reducible refine r_isi_ii ?_
  | with_reducible refine r_isi_bb ?_
  | with_reducible refine r_isi_nb ?_
  | with_reducible refine r_isi_nt ?_
  | ((with_reducible refine' r_isi_ll ?rdh ?_); (case rdh => first | assumption | exact upd_same))
  | ((with_reducible refine' r_isi_tt ?rdh ?_); (case rdh => first | assumption | exact upd_same))
  | with_reducible refine r_sl ?_
  | with_reducible refine r_noPart ?_
  | with_reducible refine r_part ?_
  | with_reducible refine r_int1 ?_
  | with_reducible refine r_tru ?_
  | with_reducible refine r_ckw ?_
  | with_reducible refine r_lc ?_
  | with_reducible refine r_lc2 ?_
  | with_reducible refine r_forS ?_
  | with_reducible refine r_iR1 ?_
  | with_reducible refine r_iR2 ?_
  | with_reducible refine r_iL ?_
  | ((with_reducible refine' r_lenL ?rdh ?_); (case rdh => walk_at "sq"))
  | ((with_reducible refine' r_ixL ?rdh ?rda ?_); (case rdh => walk_at "sq"); (case rda => walk_at "at"))
  | ((with_reducible refine' r_ixT ?rdh ?rda ?_); (case rdh => walk_at "sq"); (case rda => walk_at "at")))
local macro_rules | `(tactic| walk_at "sq") => `(tactic| first
  | assumption
  | exact SqL.of (by assumption)
  | exact SqL.of upd_same
  | exact SqT.of (by assumption)
  | exact SqT.of upd_same)
local macro_rules | `(tactic| walk_at "sml") => `(tactic| (rw [sizeLine_eq]; simp))
local macro_rules | `(tactic| walk_at "at") => `(tactic| first | assumption | rfl)
local macro_rules | `(tactic| walk_at "rd") => `(tactic| repeat walk_at "rd1")
section
variable {w : World} {P : Program} {base : Heap} {K : PySem.W.Frag} {mg : Str → Option Value}
def schedule_movesM (p_size : Int) (p_layout : (List (Int × Int))) (p_starts : (List Int)) : Option (Option (List Int)) :=
  (placedM p_layout p_starts).bind fun t_173 => bnd (t_173) fun goals_174 => bnd (p_layout) fun blocks_177 => (colL (fun (y_179 : (Int × (Int × Int))) => bnd (y_179.1) fun index_181 => bnd (y_179.2) fun goal_182 => (atI blocks_177 index_181).bind fun t_185 => if (!decide (goal_182 = t_185)) = true then some (some index_181) else some none) (enumL goals_174)).bind fun cs_183 => bnd (cs_183) fun waiting_186 => bnd (([] : List Int)) fun order_188 => (whl (fun (x : ((List (Int × Int)) × (List Int) × (List Int))) => match x with | (blocks_190, waiting_191, order_192) => some (!waiting_191.isEmpty) : ((List (Int × Int)) × (List Int) × (List Int)) → Option Bool) (fun (x : ((List (Int × Int)) × (List Int) × (List Int))) => match x with | (blocks_190, waiting_191, order_192) => (colL (fun (y_199 : Int) => (atI goals_174 y_199).bind fun t_203 => (can_moveM blocks_190 y_199 t_203).bind fun t_204 => if t_204 = true then some (some y_199) else some none) waiting_191).bind fun cs_200 => bnd (cs_200) fun possible_205 => if (!(!possible_205.isEmpty)) = true then (some (.ret (none : (Option (List Int))))) else ((atI possible_205 (0 : Int)).bind fun t_210 => bnd (t_210) fun index_211 => (atI goals_174 index_211).bind fun t_214 => (setF blocks_190 index_211 t_214).bind fun blocks_215 => (remF waiting_191 index_211).bind fun waiting_217 => (appF order_192 index_211).bind fun order_219 => some (.go (blocks_215, waiting_217, order_219))) : ((List (Int × Int)) × (List Int) × (List Int)) → Option (Fl (Option (List Int)) ((List (Int × Int)) × (List Int) × (List Int)))) 100000 (blocks_177, waiting_186, order_188)).bind fun fl => match fl with | .ret r' => some r' | .go x => match x with | (blocks_190, waiting_191, order_192) => some (some order_192)
theorem mk_schedule_moves {f f1 f2 : Addr} {fd fd1 fd2 : FuncData} (T : Txt mg) (F : Fun K "schedule_moves" "schedule_moves" s_schedule_moves f fd) (m : mg "schedule_moves" = some (.ref f)) (b : Binds K fd ["size", "layout", "starts"] [])
    (C_placed : Cal P w K mg base "placed" 1 f1 fd1 ["layout", "starts"] (spP (fun (i : (List (Int × Int)) × (List Int) × Unit) => placedM i.1 i.2.1)))
    (C_can_move : Cal P w K mg base "_can_move" 2 f2 fd2 ["blocks", "index", "goal"] (spP (fun (i : (List (Int × Int)) × Int × (Int × Int) × Unit) => can_moveM i.1 i.2.1 i.2.2.1))) :
    Cal P w K mg base "schedule_moves" 3 f fd ["size", "layout", "starts"] (spP (fun (i : Int × (List (Int × Int)) × (List Int) × Unit) => schedule_movesM i.1 i.2.1 i.2.2.1)) := by
  refine ⟨F.ok sc_schedule_moves (fun vs H Q E h => ?_) (fun cdv A outer s H vs Q E hr h => ?_), m, F.kp, b⟩
  · obtain ⟨ms, ⟨p_size, p_layout, p_starts, ⟨⟩⟩, r, _, ⟨v_p_size, _, rfl, f_p_size, ⟨v_p_layout, _, rfl, f_p_layout, ⟨v_p_starts, _, rfl, f_p_starts, e0⟩⟩⟩, _⟩ := h
    cases e0
    rfl
  obtain ⟨ms, ⟨p_size, p_layout, p_starts, ⟨⟩⟩, r, al, ⟨v_p_size, _, rfl, f_p_size, ⟨v_p_layout, _, rfl, f_p_layout, ⟨v_p_starts, _, rfl, f_p_starts, e0⟩⟩⟩, hm, Q⟩ := h
  cases e0
  obtain rfl : v_p_size = V.int p_size := f_p_size
  refine ⟨_, (pss_cons (ps_set (i := 3) sc_schedule_moves.nd rfl (Or.inr rfl) (pe_call C_placed.ok (hr.mono (by first | decide | omega)) rfl C_placed.mg C_placed.kp C_placed.b .nil pass0 (pa_cons (pv 1) (pa_cons (pv 2) pa_nil)))) (pss_cons (ps_set (i := 4) sc_schedule_moves.nd rfl (Or.inr rfl) (pe_callTy (show CallR _ _ (fun xs H Q => ∃ p ys, xs = [V.ref p] ∧ (SqL K H p ys ∨ SqT K H p ys) ∧ ∀ l, H l = none → Q (.ref l) (upd H l (.lst ys))) from call_list_of) (by rfl) T.list (by decide +kernel) (pa_cons (pv 1) pa_nil))) (pss_cons (show PS _ _ (tAsg (tLc _ _ _ _ [6, 7]) _) from ps_setLc (i := 5) (own := [("index", 6), ("goal", 7)]) (g := gTup K 2 (gCons (gName 6) (gCons (gName 7) gNil))) rfl sc_schedule_moves.nd rfl rfl (sw_true rfl rfl rfl (by decide +kernel)) (pi_enum rfl T.enumerate (pa_cons (pv 3) pa_nil)) (blkOk_by (own := [("index", 6), ("goal", 7)]) (N := ["size", "layout", "starts", "goals", "blocks", "waiting", "index", "goal", "order", "possible"]) (sc := defScope s_schedule_moves) (by decide +kernel)) (fun _ _ _ _ _ => (pg_tup rfl (pgs_cons (pg_name (i := 6) sc_schedule_moves.nd rfl (Or.inl rfl)) (pgs_cons (pg_name (i := 7) sc_schedule_moves.nd rfl (Or.inl rfl)) pgs_nil)))) (fun _ _ _ _ _ => (pts_one (pt_cmpR (show OpR _ _ (rNeD K) from op_neD hr.units) (pv 7) (pe_ix (show IxR _ (rIxL K) from ix_list) (pv 4) (pv 6) (fun _ _ => rfl)) (nomark _)))) (fun _ _ _ _ _ => (pv 6))) (pss_cons (ps_set (i := 8) sc_schedule_moves.nd rfl (Or.inl rfl) (pe_lst pa_nil)) (pss_cons (ps_while PassesOwn.never (pt_truthN (pv 5))
      (pss_cons (show PS _ _ (tAsg (tLc _ _ _ _ [6]) _) from ps_setLc (i := 9) (own := [("index", 6)]) (g := gName 6) rfl sc_schedule_moves.nd rfl rfl (sw_true rfl rfl rfl (by decide +kernel)) (pi_list (pv 5)) (blkOk_by (own := [("index", 6)]) (N := ["size", "layout", "starts", "goals", "blocks", "waiting", "index", "goal", "order", "possible"]) (sc := defScope s_schedule_moves) (by decide +kernel)) (fun _ _ _ _ _ => (pg_name (i := 6) sc_schedule_moves.nd rfl (Or.inl rfl))) (fun _ _ _ _ _ => (pts_one (pt_val (pe_call C_can_move.ok (hr.mono (by first | decide | omega)) rfl C_can_move.mg C_can_move.kp C_can_move.b .nil pass0 (pa_cons (pv 4) (pa_cons (pv 6) (pa_cons (pe_ix (show IxR _ (rIxL K) from ix_list) (pv 3) (pv 6) (fun _ _ => rfl)) pa_nil))))))) (fun _ _ _ _ _ => (pv 6))) (pss_cons (ps_if (pt_not (pt_truthN (pv 9)))
      (pss_one (ps_ret pe_non))
      pss_nil) (pss_cons (ps_set (i := 6) sc_schedule_moves.nd rfl (Or.inl rfl) (pe_ix (show IxR _ (rIxL K) from ix_list) (pv 9) pe_int (fun _ _ => rfl))) (pss_cons (ps_asg (pe_ix (show IxR _ (rIxL K) from ix_list) (pv 3) (pv 6) (fun _ _ => rfl)) (pg_sub (pv 4) (pv 6) set_list)) (pss_cons (ps_expr (pe_bm PySem.F.plainAttrs_list PySem.F.slot_list_remove PySem.F.type_list_remove mt_remove (pv 5) (pa_cons (pv 6) pa_nil))) (pss_one (ps_expr (pe_bm PySem.F.plainAttrs_list PySem.F.slot_list_append PySem.F.type_list_append mt_append (pv 8) (pa_cons (pv 6) pa_nil)))))))))) (pss_one (ps_ret (pv 8)))))))), ?_⟩
  try dsimp only [cxOf, Cx.nox, Cx.wish]
  rw [show start ["size", "layout", "starts", "goals", "blocks", "waiting", "index", "goal", "order", "possible"] [V.int p_size, v_p_layout, v_p_starts] = [some (V.int p_size), some (v_p_layout), some (v_p_starts), none, none, none, none, none, none, none] from rfl]
  have W : Wd [] ms H := ⟨fun a h => (by cases h), al⟩
  have hq : Tr ms H := trivial
  have hm : schedule_movesM p_size p_layout p_starts = some r := hm
  have u : Bu [] H H := Bu.refl _ H
  unfold schedule_movesM at hm
  obtain ⟨t_173, e_t_173, hm⟩ := bind_inv hm
  obtain ⟨goals_174, e_goals_174, hm⟩ := bnd_inv hm
  refine r_seqA ?_
  refine Ex.go W (ex_call (i := (p_layout, p_starts, ())) W (sb_tr (B := [])) (ea_cons W (ex_var W rfl f_p_layout) (ea_cons W (ex_var W rfl f_p_starts) ea_nil)) e_t_173) hq fun v_176 H_175 bb hq W M rv => ?_
  rw [← e_goals_174] at rv
  have f_p_layout := Rp.mv f_p_layout M
  have f_p_starts := Rp.mv f_p_starts M
  have u := u.trans bb
  have f_goals_174 := rv
  refine (bnd_name : Bnd _ _ _ _ _) _ ?_
  dsimp only [List.set_cons_succ, List.set_cons_zero]
  obtain ⟨blocks_177, e_blocks_177, hm⟩ := bnd_inv hm
  refine r_seqA ?_
  refine En.mk W (en_listof W (sb_tr (B := [])) (el_of W.hB (ex_var W rfl f_p_layout))) hq fun ablocks_177 H_178 bb na hq' W' M l_ablocks_177 => ?_
  rw [← e_blocks_177] at l_ablocks_177
  have o_ablocks_177 := W.al.not na
  have n_ablocks_177 : ablocks_177 ∉ [] := fun z => W.al.not na (W.hB _ z)
  have m_ablocks_177 : ablocks_177 ∈ ablocks_177 :: ms := List.mem_cons_self
  have h_ablocks_177 := u.none na
  have f_p_layout := Rp.mv f_p_layout M
  have f_p_starts := Rp.mv f_p_starts M
  have f_goals_174 := Rp.mv f_goals_174 M
  have u := u.trans bb
  have W := W'
  have hq := hq'
  refine r_name ?_
  dsimp only [List.set_cons_succ, List.set_cons_zero]
  obtain ⟨cs_183, e_cs_183, hm⟩ := bind_inv hm
  obtain ⟨waiting_186, e_waiting_186, hm⟩ := bnd_inv hm
  refine r_seqA ?_
  refine En.mk W (en_lcL (f := fun (y_179 : (Int × (Int × Int))) => bnd (y_179.1) fun index_181 => bnd (y_179.2) fun goal_182 => (atI blocks_177 index_181).bind fun t_185 => if (!decide (goal_182 = t_185)) = true then some (some index_181) else some none) W (sb_tr (B := [])) (Ei.ej (ei_enum (ea_cons W (ex_var W rfl f_goals_174) ea_nil))) e_cs_183 (fun ms' H' y_179 v r' L hq' rv hm => by
          have W := L.W
          have f_p_layout := Rp.mv f_p_layout L.M
          have f_p_starts := Rp.mv f_p_starts L.M
          have f_goals_174 := Rp.mv f_goals_174 L.M
          have l_ablocks_177 := l_ablocks_177.lt n_ablocks_177 L
          obtain ⟨index_181, e_index_181, hm⟩ := bnd_inv hm
          obtain ⟨goal_182, e_goal_182, hm⟩ := bnd_inv hm
          obtain ⟨a_k_180, u0_k_180, u1_k_180, rfl, n_k_180, eh_k_180, r0_k_180, r1_k_180⟩ := rv
          rw [← e_index_181] at r0_k_180
          obtain rfl : u0_k_180 = V.int index_181 := r0_k_180
          rw [← e_goal_182] at r1_k_180
          have f_goal_182 := r1_k_180
          obtain ⟨t_185, e_t_185, hm⟩ := bind_inv hm
          refine ⟨_, (bnd_tup2 eh_k_180 bnd_name bnd_name), rfl, _, (et_test (ex_neE W (by decide) (ex_var W rfl f_goal_182) (ex_ixL (el_var W rfl n_ablocks_177 l_ablocks_177) (ex_vi rfl) W e_t_185))), fun c => ?_, fun c => ?_⟩
          · have hm := (if_neg (by rw [c]; decide)).symm.trans hm
            cases hm
            rfl
          · have hm := (if_pos c).symm.trans hm
            cases hm
            exact ⟨_, rfl, (ex_vi rfl)⟩)) hq fun awaiting_186 H_187 bb na hq' W' M l_awaiting_186 => ?_
  rw [← e_waiting_186] at l_awaiting_186
  have ne_ablocks_177_awaiting_186 := l_ablocks_177.ne na
  have ne_awaiting_186_ablocks_177 := ne_ablocks_177_awaiting_186.symm
  have m_ablocks_177 := List.mem_cons_of_mem awaiting_186 m_ablocks_177
  have o_awaiting_186 := not_less (W.al.not na) (fun _ h => List.mem_cons_of_mem _ (h))
  have n_awaiting_186 : awaiting_186 ∉ [] := fun z => W.al.not na (W.hB _ z)
  have m_awaiting_186 : awaiting_186 ∈ awaiting_186 :: ablocks_177 :: ms := List.mem_cons_self
  have h_awaiting_186 := u.none na
  have f_p_layout := Rp.mv f_p_layout M
  have f_p_starts := Rp.mv f_p_starts M
  have f_goals_174 := Rp.mv f_goals_174 M
  have l_ablocks_177 := l_ablocks_177.step M fun o e => bb.1 _ o n_ablocks_177 e
  have u := u.trans bb
  have W := W'
  have hq := hq'
  refine r_name ?_
  dsimp only [List.set_cons_succ, List.set_cons_zero]
  obtain ⟨order_188, e_order_188, hm⟩ := bnd_inv hm
  refine r_seqA ?_
  refine En.mk W (en_lst (xs := ([] : List Int)) W (sb_tr (B := [])) (by simp) es_nil) hq fun aorder_188 H_189 bb na hq' W' M l_aorder_188 => ?_
  rw [← e_order_188] at l_aorder_188
  have ne_awaiting_186_aorder_188 := l_awaiting_186.ne na
  have ne_aorder_188_awaiting_186 := ne_awaiting_186_aorder_188.symm
  have m_awaiting_186 := List.mem_cons_of_mem aorder_188 m_awaiting_186
  have ne_ablocks_177_aorder_188 := l_ablocks_177.ne na
  have ne_aorder_188_ablocks_177 := ne_ablocks_177_aorder_188.symm
  have m_ablocks_177 := List.mem_cons_of_mem aorder_188 m_ablocks_177
  have o_aorder_188 := not_less (W.al.not na) (fun _ h => List.mem_cons_of_mem _ (List.mem_cons_of_mem _ (h)))
  have n_aorder_188 : aorder_188 ∉ [] := fun z => W.al.not na (W.hB _ z)
  have m_aorder_188 : aorder_188 ∈ aorder_188 :: awaiting_186 :: ablocks_177 :: ms := List.mem_cons_self
  have h_aorder_188 := u.none na
  have f_p_layout := Rp.mv f_p_layout M
  have f_p_starts := Rp.mv f_p_starts M
  have f_goals_174 := Rp.mv f_goals_174 M
  have l_ablocks_177 := l_ablocks_177.step M fun o e => bb.1 _ o n_ablocks_177 e
  have l_awaiting_186 := l_awaiting_186.step M fun o e => bb.1 _ o n_awaiting_186 e
  have u := u.trans bb
  have W := W'
  have hq := hq'
  refine r_name ?_
  dsimp only [List.set_cons_succ, List.set_cons_zero]
  refine r_seqU ?_
  obtain ⟨out_195, e_out_195, hm⟩ := bind_inv hm
  have hretN_194 : ∀ r', out_195 = .ret r' → some r' = some r := fun r' e => by
    rw [e] at hm
    exact hm
  have hgoN_194 := hm
  clear hm
  refine wk_while e_out_195 (fun x σ H' => match x with | (blocks_190, waiting_191, order_192) => ∃ (xl_index : Option V), ∃ (xl_possible : Option V), σ = [some (.int p_size), some v_p_layout, some v_p_starts, some v_176, some (.ref ablocks_177), some (.ref awaiting_186), xl_index, none, some (.ref aorder_188), xl_possible] ∧ Bu [] H H' ∧ Tr (aorder_188 :: awaiting_186 :: ablocks_177 :: ms) H' ∧ Wd [] (aorder_188 :: awaiting_186 :: ablocks_177 :: ms) H' ∧ Rp.rp (aorder_188 :: awaiting_186 :: ablocks_177 :: ms) H' (v_p_layout) p_layout ∧ Rp.rp (aorder_188 :: awaiting_186 :: ablocks_177 :: ms) H' (v_p_starts) p_starts ∧ Rp.rp (aorder_188 :: awaiting_186 :: ablocks_177 :: ms) H' (v_176) goals_174 ∧ Ls (aorder_188 :: awaiting_186 :: ablocks_177 :: ms) H' ablocks_177 blocks_190 ∧ Ls (aorder_188 :: awaiting_186 :: ablocks_177 :: ms) H' awaiting_186 waiting_191 ∧ Ls (aorder_188 :: awaiting_186 :: ablocks_177 :: ms) H' aorder_188 order_192) ⟨_, _, rfl, u, hq, W, f_p_layout, f_p_starts, f_goals_174, l_ablocks_177, l_awaiting_186, l_aorder_188⟩ ?_ ?_ ?_
  · intro x t σ H_196 hI hc R k
    obtain ⟨blocks_190, waiting_191, order_192⟩ := x
    try dsimp only at hI
    obtain ⟨xl_index, xl_possible, rfl, u, hq, W, f_p_layout, f_p_starts, f_goals_174, l_ablocks_177, l_awaiting_186, l_aorder_188⟩ := hI
    have hm := hc
    try dsimp only at hm
    rw [← Option.some.inj hm] at k
    refine Et.go W (et_truL (el_var W rfl n_awaiting_186 l_awaiting_186)) hq fun H_197 bb hq W M => ?_
    have f_p_layout := Rp.mv f_p_layout M
    have f_p_starts := Rp.mv f_p_starts M
    have f_goals_174 := Rp.mv f_goals_174 M
    have l_ablocks_177 := l_ablocks_177.step M fun o e => bb.1 _ o n_ablocks_177 e
    have l_awaiting_186 := l_awaiting_186.step M fun o e => bb.1 _ o n_awaiting_186 e
    have l_aorder_188 := l_aorder_188.step M fun o e => bb.1 _ o n_aorder_188 e
    have u := u.trans bb
    exact k _ ⟨_, _, rfl, u, hq, W, f_p_layout, f_p_starts, f_goals_174, l_ablocks_177, l_awaiting_186, l_aorder_188⟩
  · intro x flN_194 σ H_198 hI hf hret
    obtain ⟨blocks_190, waiting_191, order_192⟩ := x
    try dsimp only at hI
    obtain ⟨xl_index, xl_possible, rfl, u, hq, W, f_p_layout, f_p_starts, f_goals_174, l_ablocks_177, l_awaiting_186, l_aorder_188⟩ := hI
    have hm := hf
    try dsimp only at hm
    have hretN_194' := hret
    have hretN_194 := fun r' e => hretN_194 r' (hretN_194' r' e)
    obtain ⟨cs_200, e_cs_200, hm⟩ := bind_inv hm
    obtain ⟨possible_205, e_possible_205, hm⟩ := bnd_inv hm
    refine r_seqA ?_
    refine Ex.go W (En.ex (sb_tr (B := [])) (en_lcL (f := fun (y_199 : Int) => (atI goals_174 y_199).bind fun t_203 => (can_moveM blocks_190 y_199 t_203).bind fun t_204 => if t_204 = true then some (some y_199) else some none) W (sb_tr (B := [])) (ej_listM W rfl n_awaiting_186 l_awaiting_186) e_cs_200 (fun ms' H' y_199 v r' L hq' rv hm => by
            have W := L.W
            have f_p_layout := Rp.mv f_p_layout L.M
            have f_p_starts := Rp.mv f_p_starts L.M
            have f_goals_174 := Rp.mv f_goals_174 L.M
            have l_ablocks_177 := l_ablocks_177.lt n_ablocks_177 L
            have l_awaiting_186 := l_awaiting_186.lt n_awaiting_186 L
            have l_aorder_188 := l_aorder_188.lt n_aorder_188 L
            obtain rfl : v = V.int y_199 := rv
            obtain ⟨t_203, e_t_203, hm⟩ := bind_inv hm
            obtain ⟨t_204, e_t_204, hm⟩ := bind_inv hm
            refine ⟨_, bnd_name, rfl, _, (et_val (ex_callT [ablocks_177] (i := (blocks_190, y_199, t_203, ())) W (not_dr n_ablocks_177) (sb_tr (B := [])) (fun H1 L W => by
            have f_p_layout := Rp.mv f_p_layout L.M
            have f_p_starts := Rp.mv f_p_starts L.M
            have f_goals_174 := Rp.mv f_goals_174 L.M
            have f_blocks_190 : Rp.rp _ _ _ blocks_190 := ⟨ablocks_177, rfl, drop_nin (by simp), l_ablocks_177.lt n_ablocks_177 L⟩
            have l_awaiting_186 := l_awaiting_186.lt n_awaiting_186 L
            have l_aorder_188 := l_aorder_188.lt n_aorder_188 L
            exact (ea_cons W (ex_var W rfl f_blocks_190) (ea_cons W (ex_vi rfl) (ea_cons W (ex_ixL (el_of W.hB (ex_var W rfl f_goals_174)) (ex_vi rfl) W e_t_203) ea_nil)))) e_t_204)), fun c => ?_, fun c => ?_⟩
            · have hm := (if_neg (by rw [c]; decide)).symm.trans hm
              cases hm
              rfl
            · have hm := (if_pos c).symm.trans hm
              cases hm
              exact ⟨_, rfl, (ex_vi rfl)⟩))) hq fun v_207 H_206 bb hq W M rv => ?_
    rw [← e_possible_205] at rv
    have f_p_layout := Rp.mv f_p_layout M
    have f_p_starts := Rp.mv f_p_starts M
    have f_goals_174 := Rp.mv f_goals_174 M
    have l_ablocks_177 := l_ablocks_177.step M fun o e => bb.1 _ o n_ablocks_177 e
    have l_awaiting_186 := l_awaiting_186.step M fun o e => bb.1 _ o n_awaiting_186 e
    have l_aorder_188 := l_aorder_188.step M fun o e => bb.1 _ o n_aorder_188 e
    have u := u.trans bb
    have f_possible_205 := rv
    refine (bnd_name : Bnd _ _ _ _ _) _ ?_
    dsimp only [List.set_cons_succ, List.set_cons_zero]
    refine r_seq ?_
    refine r_ifS ?_
    refine Et.go W (et_not (et_truL (el_of W.hB (ex_var W rfl f_possible_205)))) hq fun H_208 bb hq W M => ?_
    have f_p_layout := Rp.mv f_p_layout M
    have f_p_starts := Rp.mv f_p_starts M
    have f_goals_174 := Rp.mv f_goals_174 M
    have l_ablocks_177 := l_ablocks_177.step M fun o e => bb.1 _ o n_ablocks_177 e
    have l_awaiting_186 := l_awaiting_186.step M fun o e => bb.1 _ o n_awaiting_186 e
    have l_aorder_188 := l_aorder_188.step M fun o e => bb.1 _ o n_aorder_188 e
    have f_possible_205 := Rp.mv f_possible_205 M
    have u := u.trans bb
    refine ite_by (fun hc => ?_) (fun hc => ?_)
    · have hm := (if_pos hc).symm.trans hm
      have hm := hretN_194 _ (Option.some.inj hm).symm
      have hm := Option.some.inj hm
      subst hm
      refine r_ret' ?_
      refine Ex.go W (ex_non (α := (List Int))) hq fun v H_209 bb hq W M rv => ?_
      exact Q v _ (Bu.to_same (u.trans bb)) (Rp.mv rv (Mv.less (fun _ h => List.mem_cons_of_mem _ (List.mem_cons_of_mem _ (List.mem_cons_of_mem _ (h))))))
    · have hm := (if_neg hc).symm.trans hm
      refine r_next ?_
      try dsimp only
      obtain ⟨t_210, e_t_210, hm⟩ := bind_inv hm
      obtain ⟨index_211, e_index_211, hm⟩ := bnd_inv hm
      refine r_seqA ?_
      refine Ex.go W (ex_ixL (el_of W.hB (ex_var W rfl f_possible_205)) (ex_int 0) W e_t_210) hq fun v_213 H_212 bb hq W M rv => ?_
      rw [← e_index_211] at rv
      have f_p_layout := Rp.mv f_p_layout M
      have f_p_starts := Rp.mv f_p_starts M
      have f_goals_174 := Rp.mv f_goals_174 M
      have l_ablocks_177 := l_ablocks_177.step M fun o e => bb.1 _ o n_ablocks_177 e
      have l_awaiting_186 := l_awaiting_186.step M fun o e => bb.1 _ o n_awaiting_186 e
      have l_aorder_188 := l_aorder_188.step M fun o e => bb.1 _ o n_aorder_188 e
      have f_possible_205 := Rp.mv f_possible_205 M
      have u := u.trans bb
      obtain rfl : v_213 = V.int index_211 := rv
      refine (bnd_name : Bnd _ _ _ _ _) _ ?_
      dsimp only [List.set_cons_succ, List.set_cons_zero]
      obtain ⟨t_214, e_t_214, hm⟩ := bind_inv hm
      obtain ⟨blocks_215, e_blocks_215, hm⟩ := bind_inv hm
      refine r_seqA ?_
      refine s_setix W rfl l_ablocks_177 m_ablocks_177 n_ablocks_177 (sb_tr (B := [])) (ex_ixL (el_of W.hB (ex_var W rfl f_goals_174)) (ex_vi rfl) W e_t_214) (ex_vi rfl) hq e_blocks_215 fun H_216 bb hq W M l_ablocks_177 => ?_
      have f_p_layout := Rp.mv f_p_layout M
      have f_p_starts := Rp.mv f_p_starts M
      have f_goals_174 := Rp.mv f_goals_174 M
      have l_awaiting_186 := l_awaiting_186.step M fun o e => bb.1 _ o (nin ne_awaiting_186_ablocks_177 n_awaiting_186) e
      have l_aorder_188 := l_aorder_188.step M fun o e => bb.1 _ o (nin ne_aorder_188_ablocks_177 n_aorder_188) e
      have f_possible_205 := Rp.mv f_possible_205 M
      have u := u.own2 h_ablocks_177 bb
      obtain ⟨waiting_217, e_waiting_217, hm⟩ := bind_inv hm
      refine r_seqD ?_
      refine s_rem rfl W rfl l_awaiting_186 m_awaiting_186 n_awaiting_186 (sb_tr (B := [])) (ea_cons W (ex_vi rfl) ea_nil) hq e_waiting_217 fun H_218 bb hq W M l_awaiting_186 => ?_
      have f_p_layout := Rp.mv f_p_layout M
      have f_p_starts := Rp.mv f_p_starts M
      have f_goals_174 := Rp.mv f_goals_174 M
      have l_ablocks_177 := l_ablocks_177.step M fun o e => bb.1 _ o (nin ne_ablocks_177_awaiting_186 n_ablocks_177) e
      have l_aorder_188 := l_aorder_188.step M fun o e => bb.1 _ o (nin ne_aorder_188_awaiting_186 n_aorder_188) e
      have f_possible_205 := Rp.mv f_possible_205 M
      have u := u.own2 h_awaiting_186 bb
      obtain ⟨order_219, e_order_219, hm⟩ := bind_inv hm
      refine r_drop ?_
      refine s_app rfl W rfl l_aorder_188 m_aorder_188 n_aorder_188 (sb_tr (B := [])) (ea_cons W (ex_vi rfl) ea_nil) hq e_order_219 fun H_220 bb hq W M l_aorder_188 => ?_
      have f_p_layout := Rp.mv f_p_layout M
      have f_p_starts := Rp.mv f_p_starts M
      have f_goals_174 := Rp.mv f_goals_174 M
      have l_ablocks_177 := l_ablocks_177.step M fun o e => bb.1 _ o (nin ne_ablocks_177_aorder_188 n_ablocks_177) e
      have l_awaiting_186 := l_awaiting_186.step M fun o e => bb.1 _ o (nin ne_awaiting_186_aorder_188 n_awaiting_186) e
      have f_possible_205 := Rp.mv f_possible_205 M
      have u := u.own2 h_aorder_188 bb
      try dsimp only
      try dsimp only
      cases hm
      exact ⟨_, rfl, ⟨_, _, rfl, u, hq, W, f_p_layout, f_p_starts, f_goals_174, l_ablocks_177, l_awaiting_186, l_aorder_188⟩⟩
  · intro x σ H_193 eo hI
    obtain ⟨blocks_190, waiting_191, order_192⟩ := x
    try dsimp only at hI
    obtain ⟨xl_index, xl_possible, rfl, u, hq, W, f_p_layout, f_p_starts, f_goals_174, l_ablocks_177, l_awaiting_186, l_aorder_188⟩ := hI
    have hm := hgoN_194
    rw [eo] at hm
    try dsimp only at hm
    try dsimp only
    have sub : ∀ a ∈ awaiting_186 :: ablocks_177 :: ms, a ∈ aorder_188 :: awaiting_186 :: ablocks_177 :: ms := ((.cons _ (.cons_cons _ (.cons_cons _ (.refl _)))) : List.Sublist (awaiting_186 :: ablocks_177 :: ms) (aorder_188 :: awaiting_186 :: ablocks_177 :: ms)).subset
    have M : Mv (aorder_188 :: awaiting_186 :: ablocks_177 :: ms) H_193 (awaiting_186 :: ablocks_177 :: ms) H_193 := Mv.less sub
    have hq := (sb_tr (B := [])) _ _ _ _ hq M fun _ _ _ e => e
    have W : Wd [] (awaiting_186 :: ablocks_177 :: ms) H_193 := ⟨fun a h => (by cases h), W.al.less sub⟩
    have f_p_layout := Rp.mv f_p_layout M
    have f_p_starts := Rp.mv f_p_starts M
    have f_goals_174 := Rp.mv f_goals_174 M
    have l_ablocks_177 := l_ablocks_177.less sub
    have l_awaiting_186 := l_awaiting_186.less sub
    have f_order_192 : Rp.rp (awaiting_186 :: ablocks_177 :: ms) H_193 (.ref aorder_188) order_192 := ⟨aorder_188, rfl, (nin ne_aorder_188_awaiting_186 (nin ne_aorder_188_ablocks_177 o_aorder_188)), l_aorder_188.less sub⟩
    have m_awaiting_186 : awaiting_186 ∈ awaiting_186 :: ablocks_177 :: ms := List.mem_cons_self
    have m_ablocks_177 : ablocks_177 ∈ awaiting_186 :: ablocks_177 :: ms := List.mem_cons_of_mem _ (List.mem_cons_self)
    have hm := Option.some.inj hm
    subst hm
    refine r_ret' ?_
    refine Ex.go W (ex_some (ex_var W rfl f_order_192)) hq fun v H_221 bb hq W M rv => ?_
    exact Q v _ (Bu.to_same (u.trans bb)) (Rp.mv rv (Mv.less (fun _ h => List.mem_cons_of_mem _ (List.mem_cons_of_mem _ (h)))))
theorem enumL_rng {α : Type} (xs : List α) (d : α) : enumL xs = (rngL 0 xs.length).map fun k => (k, xs.getD k.toNat d) := by
  refine List.ext_getElem? fun i => ?_
  unfold enumL
  rw [List.getElem?_mapIdx, List.getElem?_map]
  by_cases c : i < xs.length
  · rw [rngL_get c]
    obtain ⟨x, hx⟩ := get_of_lt c
    rw [hx]
    show some ((i : Int), x) = some (0 + (i : Int), xs.getD (0 + (i : Int)).toNat d)
    rw [show (0 : Int) + (i : Int) = (i : Nat) by omega, Int.toNat_natCast, List.getD_eq_getElem?_getD, hx]
    rfl
  · rw [List.getElem?_eq_none_iff.mpr (by omega), List.getElem?_eq_none_iff.mpr (by rw [rngL_len]; omega)]
    rfl
/-- what the scheduling tells -/
def SchedOk (bs : List (Int × Int)) (st : List Int) : Option (List Int) → Prop
  | some os => os.Perm (mvF bs st) ∧ SafeO (plF bs st) bs os ∧ LeastO (plF bs st) bs (mvF bs st) os
  | none => ∃ os : List Int, (∀ k ∈ os, k ∈ mvF bs st) ∧ os.Nodup ∧ SafeO (plF bs st) bs os ∧ LeastO (plF bs st) bs (mvF bs st) os ∧ (∃ k ∈ mvF bs st, k ∉ os) ∧ ∀ k ∈ mvF bs st, k ∉ os → ¬ CanP (stF (plF bs st) bs os) k.toNat (gAt (plF bs st) k)
theorem stF_ins {size : Int} {bs gs : List (Int × Int)} (hl : gs.length = bs.length) (hb : Ins size bs) (hg : Ins size gs) {os : List Int} (ho : ∀ k ∈ os, 0 ≤ k ∧ k < (bs.length : Int)) : Ins size (stF gs bs os) := by
  intro i x hx
  rw [stF_get hl os ho] at hx
  split at hx
  · exact hg i x hx
  · exact hb i x hx
theorem schedM_ok {size : Int} {bs : List (Int × Int)} {st : List Int} (hb : Ins size bs) (hl : bs.length ≤ 100) (hs : st.length = bs.length) (hg : Ins size (plF bs st)) (sz : Int) : ∃ r, schedule_movesM sz bs st = some r ∧ SchedOk bs st r := by
  have gl : (plF bs st).length = bs.length := plF_len hs
  unfold schedule_movesM
  rw [placedM_ok (by omega)]
  simp only [Option.bind_some, bnd]
  have hw : ∀ f : (Int × (Int × Int)) → Option (Option Int), (∀ k : Nat, k < bs.length → f ((k : Int), gAt (plF bs st) k) = some (if (!decide (st.getD (k : Int).toNat 0 = (bs.getD (k : Int).toNat (0, 0)).1)) = true then some (k : Int) else none)) → colL f (enumL (plF bs st)) = some (mvF bs st) := by
    intro f hf
    rw [enumL_rng _ (0, 0)]
    rw [colL_filter (g := fun y => if (!decide (st.getD y.1.toNat 0 = (bs.getD y.1.toNat (0, 0)).1)) = true then some y.1 else none) (by rw [List.length_map, rngL_len]; omega) ?_]
    · rw [List.filterMap_map, gl]
      congr 1
      unfold mvF
      generalize rngL 0 bs.length = rs
      induction rs with
      | nil => rfl
      | cons x xs ih =>
        rw [List.filterMap_cons, List.filter_cons]
        dsimp only [Function.comp]
        by_cases c : (!decide (st.getD x.toNat 0 = (bs.getD x.toNat (0, 0)).1)) = true
        · rw [if_pos c, if_pos c, ← ih]
        · rw [if_neg c, if_neg c, ← ih]
    · intro y hy
      obtain ⟨k, hk, rfl⟩ := List.mem_map.mp hy
      have := rngL_mem.mp hk
      have h := hf k.toNat (by omega)
      rw [show ((k.toNat : Nat) : Int) = k by omega] at h
      exact h
  rw [hw _ ?_]
  rotate_left
  · intro k hk
    obtain ⟨b, eb⟩ := get_of_lt hk
    obtain ⟨s, es⟩ := get_of_lt (xs := st) (i := k) (by omega)
    have eg := plF_get eb es
    rw [gAt_of eg]
    dsimp only
    rw [at_ok eb, Option.bind_some, Int.toNat_natCast, List.getD_eq_getElem?_getD, List.getD_eq_getElem?_getD, eb, es]
    obtain ⟨b1, b2⟩ := b
    by_cases c : s = b1
    · subst c; simp
    · have : ¬ ((s, b2) = (b1, b2)) := fun z => c (congrArg Prod.fst z)
      simp [c]
  simp only [Option.bind_some]
  have W := mv_nodup bs st
  have key := whl_ex (ρ := Option (List Int)) (s := List (Int × Int) × List Int × List Int)
    (c := fun x => match x with | (blocks_210, waiting_211, order_212) => some (!waiting_211.isEmpty))
    (f := fun x => match x with | (blocks, waiting, order) => (colL (fun (y : Int) => (atI (plF bs st) y).bind fun t => (can_moveM blocks y t).bind fun t2 => if t2 = true then some (some y) else some none) waiting).bind fun possible => if (!(!possible.isEmpty)) = true then (some (.ret (none : (Option (List Int))))) else ((atI possible (0 : Int)).bind fun index => (atI (plF bs st) index).bind fun t_234 => (setF blocks index t_234).bind fun blocks => (remF waiting index).bind fun waiting => (appF order index).bind fun order => some (.go (blocks, waiting, order))))
    (fun x => x.2.1.length)
    (fun x => x.1 = stF (plF bs st) bs x.2.2 ∧ x.2.1 = (mvF bs st).filter (fun k => decide (k ∉ x.2.2)) ∧ (∀ k ∈ x.2.2, k ∈ mvF bs st) ∧ x.2.2.Nodup ∧ SafeO (plF bs st) bs x.2.2 ∧ LeastO (plF bs st) bs (mvF bs st) x.2.2)
    (fun r => SchedOk bs st r)
    ?_ 100000 (bs, mvF bs st, []) ⟨rfl, ?_, (fun (k : Int) (h : k ∈ ([] : List Int)) => (by cases h)), List.nodup_nil, (fun (i : Nat) (k : Int) (h : ([] : List Int)[i]? = some k) => (by simp at h)), (fun (i : Nat) (k : Int) (h : ([] : List Int)[i]? = some k) => (by simp at h))⟩ ?_
  · rcases key with ⟨r, e, hr⟩ | ⟨⟨now, wt, os⟩, e, ⟨h1, h2, h3, h4, h5, h6⟩, hc⟩
    · rw [e]
      exact ⟨r, rfl, hr⟩
    · rw [e]
      refine ⟨some os, rfl, ?_, h5, h6⟩
      dsimp only at h1 h2 h3 h4 h5 h6 hc
      have hw0 : wt = [] := by simpa using hc
      rw [hw0] at h2
      refine (List.perm_ext_iff_of_nodup h4 W).mpr fun k => ⟨h3 k, fun hk => ?_⟩
      have := List.filter_eq_nil_iff.mp h2.symm k hk
      simpa using this
  · rintro ⟨now, wt, os⟩ ⟨h1, h2, h3, h4, h5, h6⟩
    dsimp only at h1 h2 h3 h4 h5 h6 ⊢
    refine ⟨_, rfl, fun hne => ?_⟩
    have hos : ∀ k ∈ os, 0 ≤ k ∧ k < (bs.length : Int) := fun k hk => by
      obtain ⟨i, e, hi⟩ := mv_lt (h3 k hk)
      omega
    have nl : now.length = bs.length := by rw [h1, stF_len]
    have ni : Ins size now := by rw [h1]; exact stF_ins gl hb hg hos
    have wl : wt.length ≤ bs.length := by
      rw [h2]
      refine Nat.le_trans (List.length_filter_le _ _) ?_
      unfold mvF
      refine Nat.le_trans (List.length_filter_le _ _) ?_
      rw [rngL_len]
      exact Nat.le_refl _
    have wm : ∀ k ∈ wt, k ∈ mvF bs st ∧ k ∉ os := fun k hk => by
      rw [h2] at hk
      have := List.mem_filter.mp hk
      exact ⟨this.1, by simpa using this.2⟩
    have ol : os.length ≤ bs.length := by
      have := nodup_le h4 h3
      have l2 : (mvF bs st).length ≤ bs.length := by
        unfold mvF
        refine Nat.le_trans (List.length_filter_le _ _) ?_
        rw [rngL_len]
        exact Nat.le_refl _
      omega
    rw [colL_keep (p := fun k => canB now k.toNat (gAt (plF bs st) k)) (by omega) ?_]
    rotate_left
    · intro k hk
      obtain ⟨i, rfl, hi⟩ := mv_lt (wm k hk).1
      obtain ⟨g, eg⟩ := get_of_lt (xs := plF bs st) (i := i) (by omega)
      rw [at_ok eg, Option.bind_some, can_moveM_ok (by omega) (by omega), gAt_of eg, Int.toNat_natCast]
      rw [Option.bind_some]
      split <;> rfl
    rw [Option.bind_some]
    have hcan : ∀ k ∈ mvF bs st, canB now k.toNat (gAt (plF bs st) k) = true ↔ CanP now k.toNat (gAt (plF bs st) k) := fun k hk => by
      obtain ⟨i, rfl, hi⟩ := mv_lt hk
      obtain ⟨g, eg⟩ := get_of_lt (xs := plF bs st) (i := i) (by omega)
      rw [gAt_of eg, Int.toNat_natCast]
      exact canB_iff (by omega) (hg i g eg).2.1 ni
    cases hp : wt.filter (fun k => canB now k.toNat (gAt (plF bs st) k)) with
    | nil =>
      rw [if_pos (by simp)]
      refine .inl ⟨none, rfl, os, h3, h4, h5, h6, ?_, ?_⟩
      · cases hwt : wt with
        | nil => rw [hwt] at hne; simp at hne
        | cons k r => exact ⟨k, (wm k (by rw [hwt]; exact List.mem_cons_self)).1, (wm k (by rw [hwt]; exact List.mem_cons_self)).2⟩
      · intro k hk hno hcanP
        have hkw : k ∈ wt := by
          rw [h2]
          exact List.mem_filter.mpr ⟨hk, by simpa using hno⟩
        have := List.filter_eq_nil_iff.mp hp k hkw
        rw [← h1] at hcanP
        exact this ((hcan k hk).mpr hcanP)
    | cons k r =>
      rw [if_neg (by simp)]
      have hkp : k ∈ wt.filter (fun k => canB now k.toNat (gAt (plF bs st) k)) := by rw [hp]; exact List.mem_cons_self
      obtain ⟨hkw, hkc⟩ := List.mem_filter.mp hkp
      obtain ⟨hkm, hko⟩ := wm k hkw
      have hkP := (hcan k hkm).mp hkc
      obtain ⟨i, ei, hi⟩ := mv_lt hkm
      obtain ⟨g, eg⟩ := get_of_lt (xs := plF bs st) (i := i) (by omega)
      have a0 : atI (k :: r) (0 : Int) = some k := at_ok (i := 0) rfl
      rw [a0]
      rw [Option.bind_some]
      subst ei
      rw [at_ok eg, Option.bind_some, setF_ok (by omega), Option.bind_some]
      unfold remF
      rw [if_pos hkw, Option.bind_some, appF_ok (by omega), Option.bind_some]
      refine .inr ⟨_, rfl, ?_, ?_⟩
      · dsimp only
        refine ⟨?_, ?_, ?_, ?_, ?_, ?_⟩
        · rw [stF_snoc, h1, gAt_of eg, Int.toNat_natCast]
        · rw [h2]
          rw [List.Nodup.erase_eq_filter (W.filter _), List.filter_filter]
          congr 1
          funext y
          rw [Bool.eq_iff_iff]
          simp [not_or, and_comm]
        · intro y hy
          rcases List.mem_append.mp hy with hy | hy
          · exact h3 y hy
          · rw [List.mem_singleton.mp hy]; exact hkm
        · refine List.nodup_append.mpr ⟨h4, by simp, ?_⟩
          intro y hy z hz e
          rw [List.mem_singleton.mp hz] at e
          exact hko (e ▸ hy)
        · intro j k2 hj
          by_cases c : j < os.length
          · rw [List.getElem?_append_left c] at hj
            rw [List.take_append_of_le_length (by omega)]
            exact h5 j k2 hj
          · rw [List.getElem?_append_right (by omega)] at hj
            have e0 : j - os.length = 0 := by
              have := lt_of_get hj
              simp at this
              omega
            rw [e0] at hj
            cases hj
            rw [show j = os.length by omega, List.take_left', ← h1]
            · exact hkP
            · rfl
        · intro j k2 hj k' hk' hlt hno
          by_cases c : j < os.length
          · rw [List.getElem?_append_left c] at hj
            rw [List.take_append_of_le_length (by omega)] at hno ⊢
            exact h6 j k2 hj k' hk' hlt hno
          · rw [List.getElem?_append_right (by omega)] at hj
            have e0 : j - os.length = 0 := by
              have := lt_of_get hj
              simp at this
              omega
            rw [e0] at hj
            cases hj
            rw [show j = os.length by omega, List.take_left' rfl] at hno ⊢
            rw [← h1]
            intro hP
            have hw' : k' ∈ wt := by
              rw [h2]
              exact List.mem_filter.mpr ⟨hk', by simpa using hno⟩
            have hin : k' ∈ wt.filter (fun k => canB now k.toNat (gAt (plF bs st) k)) := List.mem_filter.mpr ⟨hw', (hcan k' hk').mpr hP⟩
            have asc : (wt.filter (fun k => canB now k.toNat (gAt (plF bs st) k))).Pairwise (· < ·) := by
              rw [h2]
              exact ((mv_asc bs st).filter _).filter _
            rw [hp] at hin asc
            rcases List.mem_cons.mp hin with z | z
            · omega
            · have := (List.pairwise_cons.mp asc).1 k' z
              omega
      · dsimp only
        rw [List.length_erase_of_mem hkw]
        have := List.length_pos_of_mem hkw
        omega
  · dsimp only
    symm
    rw [List.filter_eq_self]
    intro k _
    simp
  · dsimp only
    refine Nat.lt_of_le_of_lt (List.length_filter_le _ _) ?_
    rw [rngL_len]
    omega
end
end Pf

namespace Pf
open PySem L2
local macro_rules | `(tactic| walk_at "rd1") => `(tactic| first
  | with_reducible refine r_seqA ?_
  | with_reducible refine r_seqD ?_
  | with_reducible refine r_seqF ?_
  | with_reducible refine r_seqN ?_
  | with_reducible refine r_asg ?_
  | with_reducible refine r_drop ?_
  | with_reducible refine r_ret ?_
  | with_reducible refine r_ifS ?_
  | ((with_reducible refine r_next ?_); try dsimp only)
  | ((with_reducible refine r_name ?_); try dsimp only [List.set_cons_succ, List.set_cons_zero, wipe])
  | ((with_reducible refine' r_var ?rdh ?_); (case rdh => rfl))
  | with_reducible refine r_c ?_
  | with_reducible refine r_op ?_
  | with_reducible refine r_un ?_
  | with_reducible refine r_I0 ?_
  | ((with_reducible refine r_I ?_ ?_); (· first | decide | exact Or.inl (by decide) | exact Or.inr (by decide) | (show _ ∧ _; constructor <;> decide) | (show (0:Int) < _; omega) | (show CDiv _ _; unfold CDiv; omega) ))
  | with_reducible refine r_U ?_
  | with_reducible refine r_eqI ?_
  | with_reducible refine r_neI ?_
  | with_reducible refine r_eqB ?_
  | with_reducible refine r_neB ?_
  | with_reducible refine r_test ?_
  | with_reducible refine r_B ?_
  | with_reducible refine r_bl ?_
  | with_reducible refine r_bl2 ?_
  | with_reducible refine r_yes ?_
  | with_reducible refine r_wipe (by rfl) ?_
  | with_reducible refine r_rfl ?_
  | ((with_reducible refine' r_eqA ?rdh ?_); (case rdh => rfl))
  | with_reducible refine r_and ?_
  | with_reducible refine r_or ?_
  | with_reducible refine r_not ?_
  | with_reducible refine r_andV ?_
  | with_reducible refine r_orV ?_
  | with_reducible refine r_notV ?_
  | with_reducible refine r_ifE ?_
  | with_reducible refine r_nil ?_
  | with_reducible refine r_cons ?_
  | with_reducible refine r_tup ?_
  | with_reducible refine r_lst ?_
  | with_reducible refine r_CB ?_
  | with_reducible refine r_call ?_
  | with_reducible refine r_bm ?_
  | with_reducible refine r_bm0 ?_
  | with_reducible refine r_int ?_
  | with_reducible refine r_i2 ?_
  | with_reducible refine r_i1 ?_
  | with_reducible refine r_gcons ?_
  | with_reducible refine r_gnil ?_
  | with_reducible refine r_gsub ?_
  | with_reducible refine iteT ?_
  | with_reducible refine iteF ?_
  | with_reducible refine ite_notT ?_
  | with_reducible refine ite_notF ?_
  | with_reducible refine r_isi_ib ?_
  | with_reducible refine r_isi_ii ?_
  | with_reducible refine r_isi_bb ?_
  | with_reducible refine r_isi_nb ?_
  | with_reducible refine r_isi_nt ?_
  | ((with_reducible refine' r_isi_ll ?rdh ?_); (case rdh => first | assumption | exact upd_same))
  | ((with_reducible refine' r_isi_tt ?rdh ?_); (case rdh => first | assumption | exact upd_same))
  | with_reducible refine r_sl ?_
  | with_reducible refine r_noPart ?_
  | with_reducible refine r_part ?_
  | with_reducible refine r_int1 ?_
  | with_reducible refine r_tru ?_
  | with_reducible refine r_ckw ?_
  | with_reducible refine r_lc ?_
  | with_reducible refine r_lc2 ?_
  | with_reducible refine r_forS ?_
  | with_reducible refine r_iR1 ?_
  | with_reducible refine r_iR2 ?_
  | with_reducible refine r_iL ?_
  | ((with_reducible refine' r_lenL ?rdh ?_); (case rdh => walk_at "sq"))
  | ((with_reducible refine' r_ixL ?rdh ?rda ?_); (case rdh => walk_at "sq"); (case rda => walk_at "at"))
  | ((with_reducible refine' r_ixT ?rdh ?rda ?_); (case rdh => walk_at "sq"); (case rda => walk_at "at")))
local macro_rules | `(tactic| walk_at "sq") => `(tactic| first
  | assumption
  | exact SqL.of (by assumption)
  | exact SqL.of upd_same
  | exact SqT.of (by assumption)
  | exact SqT.of upd_same)
local macro_rules | `(tactic| walk_at "sml") => `(tactic| (rw [sizeLine_eq]; simp))
local macro_rules | `(tactic| walk_at "at") => `(tactic| first | assumption | rfl)
local macro_rules | `(tactic| walk_at "rd") => `(tactic| repeat walk_at "rd1")
section
variable {w : World} {P : Program} {base : Heap} {K : PySem.W.Frag} {mg : Str → Option Value}
def law_meetsM (p_one : (Int × Int)) (p_other : (Int × Int)) : Option Bool :=
  some ((decide (p_one.1 < (p_other.1 + p_other.2))) && (decide (p_other.1 < (p_one.1 + p_one.2))))
theorem mk_law_meets {f  : Addr} {fd  : FuncData} (T : Txt mg) (F : Fun K "_law_meets" "_law_meets" s_law_meets f fd) (m : mg "_law_meets" = some (.ref f)) (b : Binds K fd ["one", "other"] []) :
    Cal P w K mg base "_law_meets" 1 f fd ["one", "other"] (spP (fun (i : (Int × Int) × (Int × Int) × Unit) => law_meetsM i.1 i.2.1)) := by
  refine ⟨F.ok sc_law_meets (fun vs H Q E h => ?_) (fun cdv A outer s H vs Q E hr h => ?_), m, F.kp, b⟩
  · obtain ⟨ms, ⟨p_one, p_other, ⟨⟩⟩, r, _, ⟨v_p_one, _, rfl, f_p_one, ⟨v_p_other, _, rfl, f_p_other, e0⟩⟩, _⟩ := h
    cases e0
    rfl
  obtain ⟨ms, ⟨p_one, p_other, ⟨⟩⟩, r, al, ⟨v_p_one, _, rfl, f_p_one, ⟨v_p_other, _, rfl, f_p_other, e0⟩⟩, hm, Q⟩ := h
  cases e0
  refine ⟨_, (pss_one (ps_ret (pe_and (pe_cmpR op_lt (pe_ix (show IxR _ (rIxT K) from ix_tup) (pv 0) pe_int (fun _ _ => rfl)) (pe_op op_add (pe_ix (show IxR _ (rIxT K) from ix_tup) (pv 1) pe_int (fun _ _ => rfl)) (pe_ix (show IxR _ (rIxT K) from ix_tup) (pv 1) pe_int (fun _ _ => rfl))) (nomark _)) (pe_one (pe_cmpR op_lt (pe_ix (show IxR _ (rIxT K) from ix_tup) (pv 1) pe_int (fun _ _ => rfl)) (pe_op op_add (pe_ix (show IxR _ (rIxT K) from ix_tup) (pv 0) pe_int (fun _ _ => rfl)) (pe_ix (show IxR _ (rIxT K) from ix_tup) (pv 0) pe_int (fun _ _ => rfl))) (nomark _)))))), ?_⟩
  try dsimp only [cxOf, Cx.nox, Cx.wish]
  rw [show start ["one", "other"] [v_p_one, v_p_other] = [some (v_p_one), some (v_p_other)] from rfl]
  have W : Wd [] ms H := ⟨fun a h => (by cases h), al⟩
  have hq : Tr ms H := trivial
  have hm : law_meetsM p_one p_other = some r := hm
  have u : Bu [] H H := Bu.refl _ H
  unfold law_meetsM at hm
  have hm := Option.some.inj hm
  subst hm
  refine r_ret' ?_
  refine Ex.go W (ex_and' (ex_opI0 (z := (decide (p_one.1 < (p_other.1 + p_other.2)))) (fun _ _ => rfl) (ex_fst (u := p_one) (ex_var W rfl f_p_one)) (ex_opI0 (z := (p_other.1 + p_other.2)) (fun _ _ => rfl) (ex_fst (u := p_other) (ex_var W rfl f_p_other)) (ex_snd (u := p_other) (ex_var W rfl f_p_other)))) fun _ => (ex_opI0 (z := (decide (p_other.1 < (p_one.1 + p_one.2)))) (fun _ _ => rfl) (ex_fst (u := p_other) (ex_var W rfl f_p_other)) (ex_opI0 (z := (p_one.1 + p_one.2)) (fun _ _ => rfl) (ex_fst (u := p_one) (ex_var W rfl f_p_one)) (ex_snd (u := p_one) (ex_var W rfl f_p_one))))) hq fun v H_222 bb hq W M rv => ?_
  exact Q v _ (Bu.to_same (u.trans bb)) (rv)
def law_canM (p_now : (List (Int × Int))) (p_goals : (List (Int × Int))) (p_k : Int) : Option Bool :=
  (rng1 (p_now.length : Int)).bind fun rg_223 => (loop (fun (y_227 : Int) (x : Unit) => (if (!decide (y_227 = p_k)) = true then (atI p_goals p_k).bind fun t_234 => (atI p_now y_227).bind fun t_235 => (law_meetsM t_234 t_235).bind fun t_236 => some t_236 else some false).bind fun t_237 => if t_237 = true then (some (.ret false)) else (some (.go ())) : Int → Unit → Option (Fl Bool Unit)) rg_223 ()).bind fun fl => match fl with | .ret r' => some r' | .go x => some true
theorem mk_law_can {f f1 : Addr} {fd fd1 : FuncData} (T : Txt mg) (F : Fun K "_law_can" "_law_can" s_law_can f fd) (m : mg "_law_can" = some (.ref f)) (b : Binds K fd ["now", "goals", "k"] [])
    (C_law_meets : Cal P w K mg base "_law_meets" 1 f1 fd1 ["one", "other"] (spP (fun (i : (Int × Int) × (Int × Int) × Unit) => law_meetsM i.1 i.2.1))) :
    Cal P w K mg base "_law_can" 2 f fd ["now", "goals", "k"] (spP (fun (i : (List (Int × Int)) × (List (Int × Int)) × Int × Unit) => law_canM i.1 i.2.1 i.2.2.1)) := by
  refine ⟨F.ok sc_law_can (fun vs H Q E h => ?_) (fun cdv A outer s H vs Q E hr h => ?_), m, F.kp, b⟩
  · obtain ⟨ms, ⟨p_now, p_goals, p_k, ⟨⟩⟩, r, _, ⟨v_p_now, _, rfl, f_p_now, ⟨v_p_goals, _, rfl, f_p_goals, ⟨v_p_k, _, rfl, f_p_k, e0⟩⟩⟩, _⟩ := h
    cases e0
    rfl
  obtain ⟨ms, ⟨p_now, p_goals, p_k, ⟨⟩⟩, r, al, ⟨v_p_now, _, rfl, f_p_now, ⟨v_p_goals, _, rfl, f_p_goals, ⟨v_p_k, _, rfl, f_p_k, e0⟩⟩⟩, hm, Q⟩ := h
  cases e0
  obtain rfl : v_p_k = V.int p_k := f_p_k
  refine ⟨_, (pss_cons (ps_for PassesOwn.never rfl (pi_range1 rfl T.range (pa_cons (pe_callB (show CallR _ _ (fun xs H Q => ∃ p ys, xs = [V.ref p] ∧ (SqL K H p ys ∨ SqT K H p ys) ∧ Q (.int ys.length) H) from call_len_seq) (by rfl) T.len PySem.boot_len (pa_cons (pv 0) pa_nil)) pa_nil)) (pg_name (i := 3) sc_law_can.nd rfl (Or.inl rfl))
      (pss_one (ps_if (PW.pt (pw_and (pt_cmpR op_ne (pv 3) (pv 2) (nomark _)) (pw_and1 (pt_val (pe_call C_law_meets.ok (hr.mono (by first | decide | omega)) rfl C_law_meets.mg C_law_meets.kp C_law_meets.b .nil pass0 (pa_cons (pe_ix (show IxR _ (rIxL K) from ix_list) (pv 1) (pv 2) (fun _ _ => rfl)) (pa_cons (pe_ix (show IxR _ (rIxL K) from ix_list) (pv 0) (pv 3) (fun _ _ => rfl)) pa_nil)))))))
      (pss_one (ps_ret pe_bl))
      pss_nil))) (pss_one (ps_ret pe_bl))), ?_⟩
  try dsimp only [cxOf, Cx.nox, Cx.wish]
  rw [show start ["now", "goals", "k", "other"] [v_p_now, v_p_goals, V.int p_k] = [some (v_p_now), some (v_p_goals), some (V.int p_k), none] from rfl]
  have W : Wd [] ms H := ⟨fun a h => (by cases h), al⟩
  have hq : Tr ms H := trivial
  have hm : law_canM p_now p_goals p_k = some r := hm
  have u : Bu [] H H := Bu.refl _ H
  unfold law_canM at hm
  obtain ⟨rg_223, e_rg_223, hm⟩ := bind_inv hm
  refine r_seqF' ?_
  refine r_for W (ei_rng1 (ea_cons W (ex_len (el_of W.hB (ex_var W rfl f_p_now))) ea_nil) e_rg_223) hq fun J N_225 H_224 bb hq W M st_nN_225 nN_225 ok_N_225 => ?_
  have f_p_now := Rp.mv f_p_now M
  have f_p_goals := Rp.mv f_p_goals M
  have u := u.trans bb
  obtain ⟨out_228, e_out_228, hm⟩ := bind_inv hm
  have hretN_225 : ∀ r', out_228 = .ret r' → some r' = some r := fun r' e => by
    rw [e] at hm
    exact hm
  have hgoN_225 := hm
  clear hm
  refine wk_loop (ms := ms) ok_N_225 e_out_228 (fun x σ H' => ∃ (xl_other : Option V), σ = [some v_p_now, some v_p_goals, some (.int p_k), xl_other] ∧ Bu [] H H' ∧ Tr (ms) H' ∧ Wd [] (ms) H' ∧ N_225 (ms) H' ∧ Rp.rp (ms) H' (v_p_now) p_now ∧ Rp.rp (ms) H' (v_p_goals) p_goals) ⟨_, rfl, u, hq, W, nN_225, f_p_now, f_p_goals⟩ ?_ ?_ ?_
  · intro x σ H' hI
    obtain ⟨⟩ := x
    try dsimp only at hI
    obtain ⟨xl_other, rfl, u, hq, W, nN_225, f_p_now, f_p_goals⟩ := hI
    exact ⟨nN_225, W.al⟩
  · intro y_227 v x flN_225 σ H_229 H_230 hI s1 rv hf hret
    obtain ⟨⟩ := x
    try dsimp only at hI
    obtain ⟨xl_other, rfl, u, hq, W, nN_225, f_p_now, f_p_goals⟩ := hI
    have hm := hf
    try dsimp only at hm
    have hretN_225' := hret
    have hretN_225 := fun r' e => hretN_225 r' (hretN_225' r' e)
    have bb : Bu [] H_229 H_230 := Bu.same s1
    have M : Mv (ms) H_229 (ms) H_230 := Mv.same s1
    have hq := (sb_tr (B := [])).same s1 hq
    have W := W.bu bb
    have f_p_now := Rp.mv f_p_now M
    have f_p_goals := Rp.mv f_p_goals M
    have nN_225 := st_nN_225.mv nN_225 M
    have u := u.trans bb
    obtain rfl : v = V.int y_227 := rv
    refine (bnd_name : Bnd _ _ _ _ _) _ ?_
    dsimp only [List.set_cons_succ, List.set_cons_zero]
    obtain ⟨t_237, e_t_237, hm⟩ := bind_inv hm
    refine r_ifS ?_
    refine Et.go W (et_and (d := t_237) (et_test (ex_neI (ex_vi rfl) (ex_vi rfl))) (fun c => by
            have hm := (if_pos c).symm.trans e_t_237
            obtain ⟨t_234, e_t_234, hm⟩ := bind_inv hm
            obtain ⟨t_235, e_t_235, hm⟩ := bind_inv hm
            obtain ⟨t_236, e_t_236, hm⟩ := bind_inv hm
            rw [← Option.some.inj hm]
            exact (et_val (ex_call (i := (t_234, t_235, ())) W (sb_tr (B := [])) (ea_cons W (ex_ixL (el_of W.hB (ex_var W rfl f_p_goals)) (ex_vi rfl) W e_t_234) (ea_cons W (ex_ixL (el_of W.hB (ex_var W rfl f_p_now)) (ex_vi rfl) W e_t_235) ea_nil)) e_t_236)))
            (fun c => by
            have hm := (if_neg (by rw [c]; decide)).symm.trans e_t_237
            cases hm
            exact ⟨rfl, fun _ h => h⟩)) hq fun H_238 bb hq W M => ?_
    have f_p_now := Rp.mv f_p_now M
    have f_p_goals := Rp.mv f_p_goals M
    have nN_225 := st_nN_225.mv nN_225 M
    have u := u.trans bb
    refine ite_by (fun hc => ?_) (fun hc => ?_)
    · have hm := (if_pos hc).symm.trans hm
      have hm := hretN_225 _ (Option.some.inj hm).symm
      have hm := Option.some.inj hm
      subst hm
      refine r_ret' ?_
      refine Ex.go W (ex_bl false) hq fun v H_239 bb hq W M rv => ?_
      exact Q v _ (Bu.to_same (u.trans bb)) (rv)
    · have hm := (if_neg hc).symm.trans hm
      refine r_next ?_
      try dsimp only
      try dsimp only
      cases hm
      exact ⟨_, rfl, ⟨_, rfl, u, hq, W, nN_225, f_p_now, f_p_goals⟩⟩
  · intro x σ H_226 eo hI
    obtain ⟨⟩ := x
    try dsimp only at hI
    obtain ⟨xl_other, rfl, u, hq, W, nN_225, f_p_now, f_p_goals⟩ := hI
    have hm := hgoN_225
    rw [eo] at hm
    try dsimp only at hm
    try dsimp only
    have hm := Option.some.inj hm
    subst hm
    refine r_ret' ?_
    refine Ex.go W (ex_bl true) hq fun v H_240 bb hq W M rv => ?_
    exact Q v _ (Bu.to_same (u.trans bb)) (rv)
def mtB (g y : Int × Int) : Bool := (decide (g.1 < (y.1 + y.2))) && (decide (y.1 < (g.1 + g.2)))
theorem law_meetsM_ok (g y : Int × Int) : law_meetsM g y = some (mtB g y) := rfl
theorem mtB_sep {g y : Int × Int} : mtB g y = false ↔ Sep g y := by
  unfold mtB Sep
  rw [Bool.and_eq_false_iff, decide_eq_false_iff_not, decide_eq_false_iff_not]
  omega
theorem law_canM_ok {size : Int} {now gs : List (Int × Int)} {i : Nat} {g : Int × Int} (hl : now.length ≤ 1000) (hi : i < now.length) (hg : gs[i]? = some g) (hg2 : 1 ≤ g.2) (hn : Ins size now) : law_canM now gs (i : Int) = some (canB now i g) := by
  unfold law_canM
  refine bind_of (rng1_ok (by omega)) ?_
  rw [Int.toNat_natCast]
  have key := loop_ex (ρ := Bool) (f := (fun (y_227 : Int) (x : Unit) => (if (!decide (y_227 = (i : Int))) = true then (atI gs (i : Int)).bind fun t_234 => (atI now y_227).bind fun t_235 => (law_meetsM t_234 t_235).bind fun t_236 => some t_236 else some false).bind fun t_237 => if t_237 = true then (some (.ret false)) else (some (.go ())) : Int → Unit → Option (Fl Bool Unit))) (xs := rngL 0 now.length) (x0 := ()) (fun n _ => ∀ (j : Nat) (y : Int × Int), j < n → j ≠ i → now[j]? = some y → Sep g y) (fun r => r = false ∧ ¬ CanP now i g) (fun j y hj => absurd hj (Nat.not_lt_zero j)) ?_
  · rcases key with ⟨r, e, rfl, h⟩ | ⟨_, e, h⟩
    · refine bind_of e ?_
      have : canB now i g = false := by
        cases hc : canB now i g with
        | false => rfl
        | true => exact absurd ((canB_iff (by omega) hg2 hn).mp hc) h
      exact congrArg some this.symm
    · refine bind_of e ?_
      rw [rngL_len] at h
      have : canB now i g = true := (canB_iff (by omega) hg2 hn).mpr fun j y ne hy => h j y (lt_of_get hy) ne hy
      exact congrArg some this.symm
  · intro n a x ha h
    have hn' := lt_of_get ha
    rw [rngL_len] at hn'
    rw [rngL_get hn'] at ha
    have ea : a = (n : Nat) := by have := Option.some.inj ha; omega
    subst ea
    obtain ⟨y, hy⟩ := get_of_lt hn'
    by_cases c : n = i
    · subst c
      refine .inr ⟨(), bind_of (a := false) (else_of (by simp) rfl) (else_of (by decide) rfl), fun j y' hj ne hy' => h j y' (by omega) ne hy'⟩
    · have c' : ¬ ((n : Int) = (i : Int)) := by omega
      have e1 : (if (!decide ((n : Int) = (i : Int))) = true then (atI gs (i : Int)).bind fun t_234 => (atI now (n : Int)).bind fun t_235 => (law_meetsM t_234 t_235).bind fun t_236 => some t_236 else some false) = some (mtB g y) := if_of (by simp [c']) (bind_of (at_ok hg) (bind_of (at_ok hy) (bind_of (law_meetsM_ok g y) rfl)))
      by_cases c2 : mtB g y = true
      · refine .inl ⟨false, bind_of e1 (if_of c2 rfl), rfl, fun hP => ?_⟩
        have := mtB_sep.mpr (hP n y c hy)
        rw [this] at c2
        cases c2
      · refine .inr ⟨(), bind_of e1 (else_of c2 rfl), fun j y' hj ne hy' => ?_⟩
        by_cases e : j = n
        · subst e
          rw [hy] at hy'
          cases hy'
          exact mtB_sep.mp (by simpa using c2)
        · exact h j y' (by omega) ne hy'
end
end Pf

namespace Pf
open PySem L2
local macro_rules | `(tactic| walk_at "rd1") => `(tactic| first
  | with_reducible refine r_seqA ?_
  | with_reducible refine r_seqD ?_
  | with_reducible refine r_seqF ?_
  | with_reducible refine r_seqN ?_
  | with_reducible refine r_asg ?_
  | with_reducible refine r_drop ?_
  | with_reducible refine r_ret ?_
  | with_reducible refine r_ifS ?_
  | ((with_reducible refine r_next ?_); try dsimp only)
  | ((with_reducible refine r_name ?_); try dsimp only [List.set_cons_succ, List.set_cons_zero, wipe])
  | ((with_reducible refine' r_var ?rdh ?_); (case rdh => rfl))
  | with_reducible refine r_c ?_
  | with_reducible refine r_op ?_
  | with_reducible refine r_un ?_
  | with_reducible refine r_I0 ?_
  | ((with_reducible refine r_I ?_ ?_); (· first | decide | exact Or.inl (by decide) | exact Or.inr (by decide) | (show _ ∧ _; constructor <;> decide) | (show (0:Int) < _; omega) | (show CDiv _ _; unfold CDiv; omega) ))
  | with_reducible refine r_U ?_
  | with_reducible refine r_eqI ?_
  | with_reducible refine r_neI ?_
  | with_reducible refine r_eqB ?_
  | with_reducible refine r_neB ?_
  | with_reducible refine r_test ?_
  | with_reducible refine r_B ?_
  | with_reducible refine r_bl ?_
  | with_reducible refine r_bl2 ?_
  | with_reducible refine r_yes ?_
  | with_reducible refine r_wipe (by rfl) ?_
  | with_reducible refine r_rfl ?_
  | ((with_reducible refine' r_eqA ?rdh ?_); (case rdh => rfl))
  | with_reducible refine r_and ?_
  | with_reducible refine r_or ?_
  | with_reducible refine r_not ?_
  | with_reducible refine r_andV ?_
  | with_reducible refine r_orV ?_
  | with_reducible refine r_notV ?_
  | with_reducible refine r_ifE ?_
  | with_reducible refine r_nil ?_
  | with_reducible refine r_cons ?_
  | with_reducible refine r_tup ?_
  | with_reducible refine r_lst ?_
  | with_reducible refine r_CB ?_
  | with_reducible refine r_call ?_
  | with_reducible refine r_bm ?_
  | with_reducible refine r_bm0 ?_
  | with_reducible refine r_int ?_
  | with_reducible refine r_i2 ?_
  | with_reducible refine r_i1 ?_
  | with_reducible refine r_gcons ?_
  | with_reducible refine r_gnil ?_
  | with_reducible refine r_gsub ?_
  | with_reducible refine iteT ?_
  | with_reducible refine iteF ?_
  | with_reducible refine ite_notT ?_
  | with_reducible refine ite_notF ?_
  | with_reducible refine r_isi_ib ?_
  | with_reducible refine r_isi_ii ?_
  | with_reducible refine r_isi_bb ?_
  | with_reducible refine r_isi_nb ?_
  | with_reducible refine r_isi_nt ?_
  | ((with_reducible refine' r_isi_ll ?rdh ?_); (case rdh => first | assumption | exact upd_same))
  | ((with_reducible refine' r_isi_tt ?rdh ?_); (case rdh => first | assumption | exact upd_same))
  | with_reducible refine r_sl ?_
  | with_reducible refine r_noPart ?_
  | with_reducible refine r_part ?_
  | with_reducible refine r_int1 ?_
  | with_reducible refine r_tru ?_
  | with_reducible refine r_ckw ?_
  | with_reducible refine r_lc ?_
  | with_reducible refine r_lc2 ?_
  | with_reducible refine r_forS ?_
  | with_reducible refine r_iR1 ?_
  | with_reducible refine r_iR2 ?_
  | with_reducible refine r_iL ?_
  | ((with_reducible refine' r_lenL ?rdh ?_); (case rdh => walk_at "sq"))
  | ((with_reducible refine' r_ixL ?rdh ?rda ?_); (case rdh => walk_at "sq"); (case rda => walk_at "at"))
  | ((with_reducible refine' r_ixT ?rdh ?rda ?_); (case rdh => walk_at "sq"); (case rda => walk_at "at")))
local macro_rules | `(tactic| walk_at "sq") => `(tactic| first
  | assumption
  | exact SqL.of (by assumption)
  | exact SqL.of upd_same
  | exact SqT.of (by assumption)
  | exact SqT.of upd_same)
local macro_rules | `(tactic| walk_at "sml") => `(tactic| (rw [sizeLine_eq]; simp))
local macro_rules | `(tactic| walk_at "at") => `(tactic| first | assumption | rfl)
local macro_rules | `(tactic| walk_at "rd") => `(tactic| repeat walk_at "rd1")
section
variable {w : World} {P : Program} {base : Heap} {K : PySem.W.Frag} {mg : Str → Option Value}
def law_firstM (p_layout : (List (Int × Int))) (p_goals : (List (Int × Int))) (p_moving : (List Int)) : Option (Option (List Int)) :=
  (colL (fun (y_241 : (Int × Int)) => some (some y_241)) p_layout).bind fun cs_242 => bnd ([(L2P.mk ([] : List Int) cs_242)]) fun rows_243 => (rng1 (p_moving.length : Int)).bind fun rg_246 => (fold (fun (y_251 : Int) (rows_249 : (List (L2P (List Int) (List (Int × Int))))) => bnd (([] : List (L2P (List Int) (List (Int × Int))))) fun later_255 => (fold (fun (y_261 : (L2P (List Int) (List (Int × Int)))) (later_259 : (List (L2P (List Int) (List (Int × Int))))) => (fold (fun (y_269 : Int) (later_267 : (List (L2P (List Int) (List (Int × Int))))) => (if ((!decide (y_269 ∈ y_261.a))) = true then (law_canM y_261.b p_goals y_269).bind fun t_274 => some t_274 else some false).bind fun t_275 => if t_275 = true then ((colL (fun (y_277 : (Int × Int)) => some (some y_277)) y_261.b).bind fun cs_278 => bnd (cs_278) fun now_279 => (atI p_goals y_269).bind fun t_281 => (setF now_279 y_269 t_281).bind fun now_282 => (catF y_261.a [y_269]).bind fun t_284 => (appF later_267 (L2P.mk t_284 now_282)).bind fun later_285 => some later_285) else (some later_267) : Int → (List (L2P (List Int) (List (Int × Int)))) → Option (List (L2P (List Int) (List (Int × Int))))) p_moving later_259).bind fun later_267 => some later_267 : (L2P (List Int) (List (Int × Int))) → (List (L2P (List Int) (List (Int × Int)))) → Option (List (L2P (List Int) (List (Int × Int))))) rows_249 later_255).bind fun later_259 => bnd (later_259) fun rows_287 => some rows_287 : Int → (List (L2P (List Int) (List (Int × Int)))) → Option (List (L2P (List Int) (List (Int × Int))))) rg_246 rows_243).bind fun rows_249 => if (decide ((rows_249.length : Int) = (0 : Int))) = true then (some (none : (Option (List Int)))) else ((atI rows_249 (0 : Int)).bind fun t_293 => some (some t_293.a))
theorem mk_law_first {f f1 : Addr} {fd fd1 : FuncData} (T : Txt mg) (F : Fun K "_law_first" "_law_first" s_law_first f fd) (m : mg "_law_first" = some (.ref f)) (b : Binds K fd ["layout", "goals", "moving"] [])
    (C_law_can : Cal P w K mg base "_law_can" 2 f1 fd1 ["now", "goals", "k"] (spP (fun (i : (List (Int × Int)) × (List (Int × Int)) × Int × Unit) => law_canM i.1 i.2.1 i.2.2.1))) :
    Cal P w K mg base "_law_first" 3 f fd ["layout", "goals", "moving"] (spP (fun (i : (List (Int × Int)) × (List (Int × Int)) × (List Int) × Unit) => law_firstM i.1 i.2.1 i.2.2.1)) := by
  refine ⟨F.ok sc_law_first (fun vs H Q E h => ?_) (fun cdv A outer s H vs Q E hr h => ?_), m, F.kp, b⟩
  · obtain ⟨ms, ⟨p_layout, p_goals, p_moving, ⟨⟩⟩, r, _, ⟨v_p_layout, _, rfl, f_p_layout, ⟨v_p_goals, _, rfl, f_p_goals, ⟨v_p_moving, _, rfl, f_p_moving, e0⟩⟩⟩, _⟩ := h
    cases e0
    rfl
  obtain ⟨ms, ⟨p_layout, p_goals, p_moving, ⟨⟩⟩, r, al, ⟨v_p_layout, _, rfl, f_p_layout, ⟨v_p_goals, _, rfl, f_p_goals, ⟨v_p_moving, _, rfl, f_p_moving, e0⟩⟩⟩, hm, Q⟩ := h
  cases e0
  refine ⟨_, (pss_cons (ps_set (i := 3) sc_law_first.nd rfl (Or.inl rfl) (pe_lst (pa_cons (pe_lst (pa_cons (pe_lst pa_nil) (pa_cons (show PE _ _ (tLc _ _ _ _ [4]) from pe_lc (own := [("block", 4)]) (g := gName 4) (tt := tYes) rfl sc_law_first.nd (pi_list (pv 0)) (blkOk_by (own := [("block", 4)]) (N := ["layout", "goals", "moving", "rows", "block", "turn", "later", "row", "k", "now"]) (sc := defScope s_law_first) (by decide +kernel)) (fun _ _ _ _ _ => (pg_name (i := 4) sc_law_first.nd rfl (Or.inl rfl))) (fun _ _ _ _ _ => pts_nil) (fun _ _ _ _ _ => (pv 4))) pa_nil))) pa_nil))) (pss_cons (ps_for PassesOwn.never rfl (pi_range1 rfl T.range (pa_cons (pe_callB (show CallR _ _ (fun xs H Q => ∃ p ys, xs = [V.ref p] ∧ (SqL K H p ys ∨ SqT K H p ys) ∧ Q (.int ys.length) H) from call_len_seq) (by rfl) T.len PySem.boot_len (pa_cons (pv 2) pa_nil)) pa_nil)) (pg_name (i := 5) sc_law_first.nd rfl (Or.inl rfl))
      (pss_cons (ps_set (i := 6) sc_law_first.nd rfl (Or.inl rfl) (pe_lst pa_nil)) (pss_cons (ps_for PassesOwn.never rfl (pi_list (pv 3)) (pg_name (i := 7) sc_law_first.nd rfl (Or.inl rfl))
      (pss_one (ps_for PassesOwn.never rfl (pi_list (pv 2)) (pg_name (i := 8) sc_law_first.nd rfl (Or.inl rfl))
      (pss_one (ps_if (PW.pt (pw_and (pt_cmpR (show OpR _ _ (rIn K true) from op_notIn_seq) (pv 8) (pe_ix (show IxR _ (rIxL K) from ix_list) (pv 7) pe_int (fun _ _ => rfl)) (by rfl)) (pw_and1 (pt_val (pe_call C_law_can.ok (hr.mono (by first | decide | omega)) rfl C_law_can.mg C_law_can.kp C_law_can.b .nil pass0 (pa_cons (pe_ix (show IxR _ (rIxL K) from ix_list) (pv 7) pe_int (fun _ _ => rfl)) (pa_cons (pv 1) (pa_cons (pv 8) pa_nil))))))))
      (pss_cons (show PS _ _ (tAsg (tLc _ _ _ _ [4]) _) from ps_setLc (i := 9) (own := [("block", 4)]) (g := gName 4) (tt := tYes) rfl sc_law_first.nd rfl rfl (sw_true rfl rfl rfl (by decide +kernel)) (pi_list (pe_ix (show IxR _ (rIxL K) from ix_list) (pv 7) pe_int (fun _ _ => rfl))) (blkOk_by (own := [("block", 4)]) (N := ["layout", "goals", "moving", "rows", "block", "turn", "later", "row", "k", "now"]) (sc := defScope s_law_first) (by decide +kernel)) (fun _ _ _ _ _ => (pg_name (i := 4) sc_law_first.nd rfl (Or.inl rfl))) (fun _ _ _ _ _ => pts_nil) (fun _ _ _ _ _ => (pv 4))) (pss_cons (ps_asg (pe_ix (show IxR _ (rIxL K) from ix_list) (pv 1) (pv 8) (fun _ _ => rfl)) (pg_sub (pv 9) (pv 8) set_list)) (pss_one (ps_expr (pe_bm PySem.F.plainAttrs_list PySem.F.slot_list_append PySem.F.type_list_append mt_append (pv 6) (pa_cons (pe_lst (pa_cons (pe_op op_cat (pe_ix (show IxR _ (rIxL K) from ix_list) (pv 7) pe_int (fun _ _ => rfl)) (pe_lst (pa_cons (pv 8) pa_nil))) (pa_cons (pv 9) pa_nil))) pa_nil))))))
      pss_nil))))) (pss_one (ps_set (i := 3) sc_law_first.nd rfl (Or.inl rfl) (pv 6)))))) (pss_cons (ps_if (pt_cmpR op_eq (pe_callB (show CallR _ _ (fun xs H Q => ∃ p ys, xs = [V.ref p] ∧ (SqL K H p ys ∨ SqT K H p ys) ∧ Q (.int ys.length) H) from call_len_seq) (by rfl) T.len PySem.boot_len (pa_cons (pv 3) pa_nil)) pe_int (nomark _))
      (pss_one (ps_ret pe_non))
      pss_nil) (pss_one (ps_ret (pe_ix (show IxR _ (rIxL K) from ix_list) (pe_ix (show IxR _ (rIxL K) from ix_list) (pv 3) pe_int (fun _ _ => rfl)) pe_int (fun _ _ => rfl))))))), ?_⟩
  try dsimp only [cxOf, Cx.nox, Cx.wish]
  rw [show start ["layout", "goals", "moving", "rows", "block", "turn", "later", "row", "k", "now"] [v_p_layout, v_p_goals, v_p_moving] = [some (v_p_layout), some (v_p_goals), some (v_p_moving), none, none, none, none, none, none, none] from rfl]
  have W : Wd [] ms H := ⟨fun a h => (by cases h), al⟩
  have hq : Tr ms H := trivial
  have hm : law_firstM p_layout p_goals p_moving = some r := hm
  have u : Bu [] H H := Bu.refl _ H
  unfold law_firstM at hm
  obtain ⟨cs_242, e_cs_242, hm⟩ := bind_inv hm
  obtain ⟨rows_243, e_rows_243, hm⟩ := bnd_inv hm
  refine r_seqA ?_
  refine Ex.go W (En.ex (sb_tr (B := [])) (en_lst (xs := [(L2P.mk ([] : List Int) cs_242)]) W (sb_tr (B := [])) (by simp) (es_cons W (ex_two W (sb_tr (B := [])) (u := L2P.mk ([] : List Int) cs_242) (ea_cons W (En.ex (sb_tr (B := [])) (en_lst (xs := ([] : List Int)) W (sb_tr (B := [])) (by simp) es_nil)) (ea_cons W (En.ex (sb_tr (B := [])) (en_lcL (f := fun (y_241 : (Int × Int)) => some (some y_241)) W (sb_tr (B := [])) (Ei.ej (ei_list (ex_var W rfl f_p_layout))) e_cs_242 (fun ms' H' y_241 v r' L hq' rv hm => by
          have W := L.W
          have f_p_layout := Rp.mv f_p_layout L.M
          have f_p_goals := Rp.mv f_p_goals L.M
          have f_p_moving := Rp.mv f_p_moving L.M
          have f_y_241 := rv
          cases hm
          exact ⟨_, bnd_name, rfl, true, et_yes, fun h => (by cases h), fun _ => ⟨_, rfl, (ex_var W rfl f_y_241)⟩⟩))) ea_nil))) es_nil))) hq fun v_245 H_244 bb hq W M rv => ?_
  rw [← e_rows_243] at rv
  have f_p_layout := Rp.mv f_p_layout M
  have f_p_goals := Rp.mv f_p_goals M
  have f_p_moving := Rp.mv f_p_moving M
  have u := u.trans bb
  have f_rows_243 := rv
  refine (bnd_name : Bnd _ _ _ _ _) _ ?_
  dsimp only [List.set_cons_succ, List.set_cons_zero]
  obtain ⟨rg_246, e_rg_246, hm⟩ := bind_inv hm
  refine r_seqF' ?_
  refine r_for W (ei_rng1 (ea_cons W (ex_len (el_of W.hB (ex_var W rfl f_p_moving))) ea_nil) e_rg_246) hq fun J N_248 H_247 bb hq W M st_nN_248 nN_248 ok_N_248 => ?_
  have f_p_layout := Rp.mv f_p_layout M
  have f_p_goals := Rp.mv f_p_goals M
  have f_p_moving := Rp.mv f_p_moving M
  have f_rows_243 := Rp.mv f_rows_243 M
  have u := u.trans bb
  obtain ⟨out_252, e_out_252, hm⟩ := bind_inv hm
  have hgoN_248 := hm
  clear hm
  refine wk_fold (ms := ms) ok_N_248 e_out_252 (fun rows_249 σ H' => ∃ (vj_rows_249 : V), ∃ (xl_turn : Option V), ∃ (xl_later : Option V), ∃ (xl_row : Option V), ∃ (xl_k : Option V), ∃ (xl_now : Option V), σ = [some v_p_layout, some v_p_goals, some v_p_moving, some vj_rows_249, none, xl_turn, xl_later, xl_row, xl_k, xl_now] ∧ Bu [] H H' ∧ Tr (ms) H' ∧ Wd [] (ms) H' ∧ N_248 (ms) H' ∧ Rp.rp (ms) H' (v_p_layout) p_layout ∧ Rp.rp (ms) H' (v_p_goals) p_goals ∧ Rp.rp (ms) H' (v_p_moving) p_moving ∧ Rp.rp (ms) H' (vj_rows_249) rows_249) ⟨_, _, _, _, _, _, rfl, u, hq, W, nN_248, f_p_layout, f_p_goals, f_p_moving, f_rows_243⟩ ?_ ?_ ?_
  · intro rows_249 σ H' hI
    try dsimp only at hI
    obtain ⟨vj_rows_249, xl_turn, xl_later, xl_row, xl_k, xl_now, rfl, u, hq, W, nN_248, f_p_layout, f_p_goals, f_p_moving, f_rows_249⟩ := hI
    exact ⟨nN_248, W.al⟩
  · intro y_251 v rows_249 x' σ H_253 H_254 hI s1 rv hf
    try dsimp only at hI
    obtain ⟨vj_rows_249, xl_turn, xl_later, xl_row, xl_k, xl_now, rfl, u, hq, W, nN_248, f_p_layout, f_p_goals, f_p_moving, f_rows_249⟩ := hI
    have hm := hf
    try dsimp only at hm
    have bb : Bu [] H_253 H_254 := Bu.same s1
    have M : Mv (ms) H_253 (ms) H_254 := Mv.same s1
    have hq := (sb_tr (B := [])).same s1 hq
    have W := W.bu bb
    have f_p_layout := Rp.mv f_p_layout M
    have f_p_goals := Rp.mv f_p_goals M
    have f_p_moving := Rp.mv f_p_moving M
    have f_rows_249 := Rp.mv f_rows_249 M
    have nN_248 := st_nN_248.mv nN_248 M
    have u := u.trans bb
    obtain rfl : v = V.int y_251 := rv
    refine (bnd_name : Bnd _ _ _ _ _) _ ?_
    dsimp only [List.set_cons_succ, List.set_cons_zero]
    obtain ⟨later_255, e_later_255, hm⟩ := bnd_inv hm
    refine r_seqA ?_
    refine En.mk W (en_lst (xs := ([] : List (L2P (List Int) (List (Int × Int))))) W (sb_tr (B := [])) (by simp) es_nil) hq fun alater_255 H_256 bb na hq' W' M l_alater_255 => ?_
    rw [← e_later_255] at l_alater_255
    have o_alater_255 := W.al.not na
    have n_alater_255 : alater_255 ∉ [] := fun z => W.al.not na (W.hB _ z)
    have m_alater_255 : alater_255 ∈ alater_255 :: ms := List.mem_cons_self
    have h_alater_255 := u.none na
    have f_p_layout := Rp.mv f_p_layout M
    have f_p_goals := Rp.mv f_p_goals M
    have f_p_moving := Rp.mv f_p_moving M
    have f_rows_249 := Rp.mv f_rows_249 M
    have nN_248 := st_nN_248.mv nN_248 M
    have u := u.trans bb
    have W := W'
    have hq := hq'
    refine r_name ?_
    dsimp only [List.set_cons_succ, List.set_cons_zero]
    refine r_seqF' ?_
    refine r_for W (ei_list (ex_var W rfl f_rows_249)) hq fun J N_258 H_257 bb hq W M st_nN_258 nN_258 ok_N_258 => ?_
    have f_p_layout := Rp.mv f_p_layout M
    have f_p_goals := Rp.mv f_p_goals M
    have f_p_moving := Rp.mv f_p_moving M
    have f_rows_249 := Rp.mv f_rows_249 M
    have l_alater_255 := l_alater_255.step M fun o e => bb.1 _ o n_alater_255 e
    have nN_248 := st_nN_248.mv nN_248 M
    have u := u.trans bb
    obtain ⟨out_262, e_out_262, hm⟩ := bind_inv hm
    have hgoN_258 := hm
    clear hm
    refine wk_fold (ms := alater_255 :: ms) ok_N_258 e_out_262 (fun later_259 σ H' => ∃ (xl_row : Option V), ∃ (xl_k : Option V), ∃ (xl_now : Option V), σ = [some v_p_layout, some v_p_goals, some v_p_moving, some vj_rows_249, none, some (.int y_251), some (.ref alater_255), xl_row, xl_k, xl_now] ∧ Bu [] H H' ∧ Tr (alater_255 :: ms) H' ∧ Wd [] (alater_255 :: ms) H' ∧ N_248 (alater_255 :: ms) H' ∧ N_258 (alater_255 :: ms) H' ∧ Rp.rp (alater_255 :: ms) H' (v_p_layout) p_layout ∧ Rp.rp (alater_255 :: ms) H' (v_p_goals) p_goals ∧ Rp.rp (alater_255 :: ms) H' (v_p_moving) p_moving ∧ Rp.rp (alater_255 :: ms) H' (vj_rows_249) rows_249 ∧ Ls (alater_255 :: ms) H' alater_255 later_259) ⟨_, _, _, rfl, u, hq, W, nN_248, nN_258, f_p_layout, f_p_goals, f_p_moving, f_rows_249, l_alater_255⟩ ?_ ?_ ?_
    · intro later_259 σ H' hI
      try dsimp only at hI
      obtain ⟨xl_row, xl_k, xl_now, rfl, u, hq, W, nN_248, nN_258, f_p_layout, f_p_goals, f_p_moving, f_rows_249, l_alater_255⟩ := hI
      exact ⟨nN_258, W.al⟩
    · intro y_261 v later_259 x' σ H_263 H_264 hI s1 rv hf
      try dsimp only at hI
      obtain ⟨xl_row, xl_k, xl_now, rfl, u, hq, W, nN_248, nN_258, f_p_layout, f_p_goals, f_p_moving, f_rows_249, l_alater_255⟩ := hI
      have hm := hf
      try dsimp only at hm
      have bb : Bu [] H_263 H_264 := Bu.same s1
      have M : Mv (alater_255 :: ms) H_263 (alater_255 :: ms) H_264 := Mv.same s1
      have hq := (sb_tr (B := [])).same s1 hq
      have W := W.bu bb
      have f_p_layout := Rp.mv f_p_layout M
      have f_p_goals := Rp.mv f_p_goals M
      have f_p_moving := Rp.mv f_p_moving M
      have f_rows_249 := Rp.mv f_rows_249 M
      have l_alater_255 := l_alater_255.step M fun o e => bb.1 _ o n_alater_255 e
      have nN_248 := st_nN_248.mv nN_248 M
      have nN_258 := st_nN_258.mv nN_258 M
      have u := u.trans bb
      have f_y_261 := rv
      refine (bnd_name : Bnd _ _ _ _ _) _ ?_
      dsimp only [List.set_cons_succ, List.set_cons_zero]
      refine r_forL ?_
      refine r_for W (ei_list (ex_var W rfl f_p_moving)) hq fun J N_266 H_265 bb hq W M st_nN_266 nN_266 ok_N_266 => ?_
      have f_p_layout := Rp.mv f_p_layout M
      have f_p_goals := Rp.mv f_p_goals M
      have f_p_moving := Rp.mv f_p_moving M
      have f_rows_249 := Rp.mv f_rows_249 M
      have l_alater_255 := l_alater_255.step M fun o e => bb.1 _ o n_alater_255 e
      have f_y_261 := Rp.mv f_y_261 M
      have nN_248 := st_nN_248.mv nN_248 M
      have nN_258 := st_nN_258.mv nN_258 M
      have u := u.trans bb
      obtain ⟨out_270, e_out_270, hm⟩ := bind_inv hm
      have hgoN_266 := hm
      clear hm
      refine wk_fold (ms := alater_255 :: ms) ok_N_266 e_out_270 (fun later_267 σ H' => ∃ (xl_k : Option V), ∃ (xl_now : Option V), σ = [some v_p_layout, some v_p_goals, some v_p_moving, some vj_rows_249, none, some (.int y_251), some (.ref alater_255), some v, xl_k, xl_now] ∧ Bu [] H H' ∧ Tr (alater_255 :: ms) H' ∧ Wd [] (alater_255 :: ms) H' ∧ N_248 (alater_255 :: ms) H' ∧ N_258 (alater_255 :: ms) H' ∧ N_266 (alater_255 :: ms) H' ∧ Rp.rp (alater_255 :: ms) H' (v_p_layout) p_layout ∧ Rp.rp (alater_255 :: ms) H' (v_p_goals) p_goals ∧ Rp.rp (alater_255 :: ms) H' (v_p_moving) p_moving ∧ Rp.rp (alater_255 :: ms) H' (vj_rows_249) rows_249 ∧ Ls (alater_255 :: ms) H' alater_255 later_267 ∧ Rp.rp (alater_255 :: ms) H' (v) y_261) ⟨_, _, rfl, u, hq, W, nN_248, nN_258, nN_266, f_p_layout, f_p_goals, f_p_moving, f_rows_249, l_alater_255, f_y_261⟩ ?_ ?_ ?_
      · intro later_267 σ H' hI
        try dsimp only at hI
        obtain ⟨xl_k, xl_now, rfl, u, hq, W, nN_248, nN_258, nN_266, f_p_layout, f_p_goals, f_p_moving, f_rows_249, l_alater_255, f_y_261⟩ := hI
        exact ⟨nN_266, W.al⟩
      · intro y_269 v later_267 x' σ H_271 H_272 hI s1 rv hf
        try dsimp only at hI
        obtain ⟨xl_k, xl_now, rfl, u, hq, W, nN_248, nN_258, nN_266, f_p_layout, f_p_goals, f_p_moving, f_rows_249, l_alater_255, f_y_261⟩ := hI
        have hm := hf
        try dsimp only at hm
        have bb : Bu [] H_271 H_272 := Bu.same s1
        have M : Mv (alater_255 :: ms) H_271 (alater_255 :: ms) H_272 := Mv.same s1
        have hq := (sb_tr (B := [])).same s1 hq
        have W := W.bu bb
        have f_p_layout := Rp.mv f_p_layout M
        have f_p_goals := Rp.mv f_p_goals M
        have f_p_moving := Rp.mv f_p_moving M
        have f_rows_249 := Rp.mv f_rows_249 M
        have l_alater_255 := l_alater_255.step M fun o e => bb.1 _ o n_alater_255 e
        have f_y_261 := Rp.mv f_y_261 M
        have nN_248 := st_nN_248.mv nN_248 M
        have nN_258 := st_nN_258.mv nN_258 M
        have nN_266 := st_nN_266.mv nN_266 M
        have u := u.trans bb
        obtain rfl : v = V.int y_269 := rv
        refine (bnd_name : Bnd _ _ _ _ _) _ ?_
        dsimp only [List.set_cons_succ, List.set_cons_zero]
        obtain ⟨t_275, e_t_275, hm⟩ := bind_inv hm
        refine r_ifS ?_
        refine Et.go W (et_and (d := t_275) (et_test (ex_notIn W (ex_vi rfl) (el_of W.hB (ex_l1 (u := y_261) (ex_var W rfl f_y_261))))) (fun c => by
                have hm := (if_pos c).symm.trans e_t_275
                obtain ⟨t_274, e_t_274, hm⟩ := bind_inv hm
                rw [← Option.some.inj hm]
                exact (et_val (ex_call (i := (y_261.b, p_goals, y_269, ())) W (sb_tr (B := [])) (ea_cons W (ex_l2 (u := y_261) (ex_var W rfl f_y_261)) (ea_cons W (ex_var W rfl f_p_goals) (ea_cons W (ex_vi rfl) ea_nil))) e_t_274)))
                (fun c => by
                have hm := (if_neg (by rw [c]; decide)).symm.trans e_t_275
                cases hm
                exact ⟨rfl, fun _ h => h⟩)) hq fun H_276 bb hq W M => ?_
        have f_p_layout := Rp.mv f_p_layout M
        have f_p_goals := Rp.mv f_p_goals M
        have f_p_moving := Rp.mv f_p_moving M
        have f_rows_249 := Rp.mv f_rows_249 M
        have l_alater_255 := l_alater_255.step M fun o e => bb.1 _ o n_alater_255 e
        have f_y_261 := Rp.mv f_y_261 M
        have nN_248 := st_nN_248.mv nN_248 M
        have nN_258 := st_nN_258.mv nN_258 M
        have nN_266 := st_nN_266.mv nN_266 M
        have u := u.trans bb
        refine ite_by (fun hc => ?_) (fun hc => ?_)
        · have hm := (if_pos hc).symm.trans hm
          obtain ⟨cs_278, e_cs_278, hm⟩ := bind_inv hm
          obtain ⟨now_279, e_now_279, hm⟩ := bnd_inv hm
          refine r_seqA ?_
          refine En.mk W (en_lcL (f := fun (y_277 : (Int × Int)) => some (some y_277)) W (sb_tr (B := [])) (Ei.ej (ei_list (ex_l2 (u := y_261) (ex_var W rfl f_y_261)))) e_cs_278 (fun ms' H' y_277 v r' L hq' rv hm => by
                  have W := L.W
                  have f_p_layout := Rp.mv f_p_layout L.M
                  have f_p_goals := Rp.mv f_p_goals L.M
                  have f_p_moving := Rp.mv f_p_moving L.M
                  have f_rows_249 := Rp.mv f_rows_249 L.M
                  have l_alater_255 := l_alater_255.lt n_alater_255 L
                  have f_y_261 := Rp.mv f_y_261 L.M
                  have f_y_277 := rv
                  cases hm
                  exact ⟨_, bnd_name, rfl, true, et_yes, fun h => (by cases h), fun _ => ⟨_, rfl, (ex_var W rfl f_y_277)⟩⟩)) hq fun anow_279 H_280 bb na hq' W' M l_anow_279 => ?_
          rw [← e_now_279] at l_anow_279
          have ne_alater_255_anow_279 := l_alater_255.ne na
          have ne_anow_279_alater_255 := ne_alater_255_anow_279.symm
          have m_alater_255 := List.mem_cons_of_mem anow_279 m_alater_255
          have o_anow_279 := not_less (W.al.not na) (fun _ h => List.mem_cons_of_mem _ (h))
          have n_anow_279 : anow_279 ∉ [] := fun z => W.al.not na (W.hB _ z)
          have m_anow_279 : anow_279 ∈ anow_279 :: alater_255 :: ms := List.mem_cons_self
          have h_anow_279 := u.none na
          have f_p_layout := Rp.mv f_p_layout M
          have f_p_goals := Rp.mv f_p_goals M
          have f_p_moving := Rp.mv f_p_moving M
          have f_rows_249 := Rp.mv f_rows_249 M
          have l_alater_255 := l_alater_255.step M fun o e => bb.1 _ o n_alater_255 e
          have f_y_261 := Rp.mv f_y_261 M
          have nN_248 := st_nN_248.mv nN_248 M
          have nN_258 := st_nN_258.mv nN_258 M
          have nN_266 := st_nN_266.mv nN_266 M
          have u := u.trans bb
          have W := W'
          have hq := hq'
          refine r_name ?_
          dsimp only [List.set_cons_succ, List.set_cons_zero]
          obtain ⟨t_281, e_t_281, hm⟩ := bind_inv hm
          obtain ⟨now_282, e_now_282, hm⟩ := bind_inv hm
          refine r_seqA ?_
          refine s_setix W rfl l_anow_279 m_anow_279 n_anow_279 (sb_tr (B := [])) (ex_ixL (el_of W.hB (ex_var W rfl f_p_goals)) (ex_vi rfl) W e_t_281) (ex_vi rfl) hq e_now_282 fun H_283 bb hq W M l_anow_279 => ?_
          have f_p_layout := Rp.mv f_p_layout M
          have f_p_goals := Rp.mv f_p_goals M
          have f_p_moving := Rp.mv f_p_moving M
          have f_rows_249 := Rp.mv f_rows_249 M
          have l_alater_255 := l_alater_255.step M fun o e => bb.1 _ o (nin ne_alater_255_anow_279 n_alater_255) e
          have f_y_261 := Rp.mv f_y_261 M
          have nN_248 := st_nN_248.mv nN_248 M
          have nN_258 := st_nN_258.mv nN_258 M
          have nN_266 := st_nN_266.mv nN_266 M
          have u := u.own2 h_anow_279 bb
          have sub : ∀ a ∈ alater_255 :: ms, a ∈ anow_279 :: alater_255 :: ms := ((.cons _ (.cons_cons _ (.refl _))) : List.Sublist (alater_255 :: ms) (anow_279 :: alater_255 :: ms)).subset
          have M : Mv (anow_279 :: alater_255 :: ms) H_283 (alater_255 :: ms) H_283 := Mv.less sub
          have hq := (sb_tr (B := [])) _ _ _ _ hq M fun _ _ _ e => e
          have W : Wd [] (alater_255 :: ms) H_283 := ⟨fun a h => (by cases h), W.al.less sub⟩
          have f_p_layout := Rp.mv f_p_layout M
          have f_p_goals := Rp.mv f_p_goals M
          have f_p_moving := Rp.mv f_p_moving M
          have f_rows_249 := Rp.mv f_rows_249 M
          have l_alater_255 := l_alater_255.less sub
          have f_y_261 := Rp.mv f_y_261 M
          have f_now_282 : Rp.rp (alater_255 :: ms) H_283 (.ref anow_279) now_282 := ⟨anow_279, rfl, (nin ne_anow_279_alater_255 o_anow_279), l_anow_279.less sub⟩
          have nN_248 := st_nN_248.mv nN_248 M
          have nN_258 := st_nN_258.mv nN_258 M
          have nN_266 := st_nN_266.mv nN_266 M
          have m_alater_255 : alater_255 ∈ alater_255 :: ms := List.mem_cons_self
          obtain ⟨t_284, e_t_284, hm⟩ := bind_inv hm
          obtain ⟨later_285, e_later_285, hm⟩ := bind_inv hm
          refine r_drop ?_
          refine s_app rfl W rfl l_alater_255 m_alater_255 n_alater_255 (sb_tr (B := [])) (ea_cons W (ex_two W (sb_tr (B := [])) (u := L2P.mk t_284 now_282) (ea_cons W (En.ex (sb_tr (B := [])) (en_cat W (sb_tr (B := [])) (el_of W.hB (ex_l1 (u := y_261) (ex_var W rfl f_y_261))) (el_of W.hB (En.ex (sb_tr (B := [])) (en_lst (xs := [y_269]) W (sb_tr (B := [])) (by simp) (es_cons W (ex_vi rfl) es_nil)))) e_t_284)) (ea_cons W (ex_var W rfl f_now_282) ea_nil))) ea_nil) hq e_later_285 fun H_286 bb hq W M l_alater_255 => ?_
          have f_p_layout := Rp.mv f_p_layout M
          have f_p_goals := Rp.mv f_p_goals M
          have f_p_moving := Rp.mv f_p_moving M
          have f_rows_249 := Rp.mv f_rows_249 M
          have f_y_261 := Rp.mv f_y_261 M
          have f_now_282 := Rp.mv f_now_282 M
          have nN_248 := st_nN_248.mv nN_248 M
          have nN_258 := st_nN_258.mv nN_258 M
          have nN_266 := st_nN_266.mv nN_266 M
          have u := u.own2 h_alater_255 bb
          try dsimp only
          try dsimp only
          try dsimp only
          cases hm
          exact ⟨_, _, rfl, u, hq, W, nN_248, nN_258, nN_266, f_p_layout, f_p_goals, f_p_moving, f_rows_249, l_alater_255, f_y_261⟩
        · have hm := (if_neg hc).symm.trans hm
          refine r_next ?_
          try dsimp only
          try dsimp only
          cases hm
          exact ⟨_, _, rfl, u, hq, W, nN_248, nN_258, nN_266, f_p_layout, f_p_goals, f_p_moving, f_rows_249, l_alater_255, f_y_261⟩
      · intro σ H_268 hI
        obtain ⟨later_267, hE⟩ : ∃ z, z = out_270 := ⟨_, rfl⟩
        rw [← hE] at hI hgoN_266
        try dsimp only at hI
        obtain ⟨xl_k, xl_now, rfl, u, hq, W, nN_248, nN_258, nN_266, f_p_layout, f_p_goals, f_p_moving, f_rows_249, l_alater_255, f_y_261⟩ := hI
        have hm := hgoN_266
        try dsimp only at hm
        try dsimp only
        try dsimp only
        cases hm
        exact ⟨_, _, _, rfl, u, hq, W, nN_248, nN_258, f_p_layout, f_p_goals, f_p_moving, f_rows_249, l_alater_255⟩
    · intro σ H_260 hI
      obtain ⟨later_259, hE⟩ : ∃ z, z = out_262 := ⟨_, rfl⟩
      rw [← hE] at hI hgoN_258
      try dsimp only at hI
      obtain ⟨xl_row, xl_k, xl_now, rfl, u, hq, W, nN_248, nN_258, f_p_layout, f_p_goals, f_p_moving, f_rows_249, l_alater_255⟩ := hI
      have hm := hgoN_258
      try dsimp only at hm
      try dsimp only
      have sub : ∀ a ∈ ms, a ∈ alater_255 :: ms := ((.cons _ (.refl _)) : List.Sublist (ms) (alater_255 :: ms)).subset
      have M : Mv (alater_255 :: ms) H_260 (ms) H_260 := Mv.less sub
      have hq := (sb_tr (B := [])) _ _ _ _ hq M fun _ _ _ e => e
      have W : Wd [] (ms) H_260 := ⟨fun a h => (by cases h), W.al.less sub⟩
      have f_p_layout := Rp.mv f_p_layout M
      have f_p_goals := Rp.mv f_p_goals M
      have f_p_moving := Rp.mv f_p_moving M
      have f_rows_249 := Rp.mv f_rows_249 M
      have f_later_259 : Rp.rp (ms) H_260 (.ref alater_255) later_259 := ⟨alater_255, rfl, o_alater_255, l_alater_255.less sub⟩
      have nN_248 := st_nN_248.mv nN_248 M
      obtain ⟨rows_287, e_rows_287, hm⟩ := bnd_inv hm
      refine r_asg ?_
      refine Ex.go W (ex_var W rfl f_later_259) hq fun v_289 H_288 bb hq W M rv => ?_
      rw [← e_rows_287] at rv
      have f_p_layout := Rp.mv f_p_layout M
      have f_p_goals := Rp.mv f_p_goals M
      have f_p_moving := Rp.mv f_p_moving M
      have f_rows_249 := Rp.mv f_rows_249 M
      have f_later_259 := Rp.mv f_later_259 M
      have nN_248 := st_nN_248.mv nN_248 M
      have u := u.trans bb
      have f_rows_287 := rv
      refine (bnd_name : Bnd _ _ _ _ _) _ ?_
      dsimp only [List.set_cons_succ, List.set_cons_zero]
      try dsimp only
      try dsimp only
      cases hm
      exact ⟨_, _, _, _, _, _, rfl, u, hq, W, nN_248, f_p_layout, f_p_goals, f_p_moving, f_rows_287⟩
  · intro σ H_250 hI
    obtain ⟨rows_249, hE⟩ : ∃ z, z = out_252 := ⟨_, rfl⟩
    rw [← hE] at hI hgoN_248
    try dsimp only at hI
    obtain ⟨vj_rows_249, xl_turn, xl_later, xl_row, xl_k, xl_now, rfl, u, hq, W, nN_248, f_p_layout, f_p_goals, f_p_moving, f_rows_249⟩ := hI
    have hm := hgoN_248
    try dsimp only at hm
    try dsimp only
    refine r_seq ?_
    refine r_ifS ?_
    refine Et.go W (et_test (ex_eqI (ex_len (el_of W.hB (ex_var W rfl f_rows_249))) (ex_int 0))) hq fun H_290 bb hq W M => ?_
    have f_p_layout := Rp.mv f_p_layout M
    have f_p_goals := Rp.mv f_p_goals M
    have f_p_moving := Rp.mv f_p_moving M
    have f_rows_249 := Rp.mv f_rows_249 M
    have u := u.trans bb
    refine ite_by (fun hc => ?_) (fun hc => ?_)
    · have hm := (if_pos hc).symm.trans hm
      have hm := Option.some.inj hm
      subst hm
      refine r_ret' ?_
      refine Ex.go W (ex_non (α := (List Int))) hq fun v H_291 bb hq W M rv => ?_
      exact Q v _ (Bu.to_same (u.trans bb)) (rv)
    · have hm := (if_neg hc).symm.trans hm
      refine r_next ?_
      try dsimp only
      obtain ⟨t_293, e_t_293, hm⟩ := bind_inv hm
      have hm := Option.some.inj hm
      subst hm
      refine r_ret' ?_
      refine Ex.go W (ex_some (ex_l1 (u := t_293) (ex_ixL (el_of W.hB (ex_var W rfl f_rows_249)) (ex_int 0) W e_t_293))) hq fun v H_294 bb hq W M rv => ?_
      exact Q v _ (Bu.to_same (u.trans bb)) (rv)
abbrev Row := L2P (List Int) (List (Int × Int))
theorem fold_app {α β : Type} {f : α → List β → Option (List β)} {g : α → List β} (B : Nat) : ∀ (xs : List α) (acc : List β), (∀ a ∈ xs, ∀ acc : List β, acc.length + (g a).length ≤ B → f a acc = some (acc ++ g a)) → acc.length + (xs.flatMap g).length ≤ B → fold f xs acc = some (acc ++ xs.flatMap g)
  | [], acc, _, _ => by rw [List.flatMap_nil, List.append_nil]; rfl
  | x :: xs, acc, h, l => by
    rw [List.flatMap_cons, List.length_append] at l
    refine bind_of (h x List.mem_cons_self acc (by omega)) ?_
    rw [fold_app B xs _ (fun a ha => h a (List.mem_cons_of_mem _ ha)) (by rw [List.length_append]; omega), List.flatMap_cons, List.append_assoc]
section
variable (gs : List (Int × Int)) (W : List Int)
def ext1 (r : Row) (k : Int) : List Row := if decide (k ∉ r.a) && canB r.b k.toNat (gAt gs k) then [⟨r.a ++ [k], r.b.set k.toNat (gAt gs k)⟩] else []
def extF (r : Row) : List Row := W.flatMap (ext1 gs r)
def rowsF (bs : List (Int × Int)) : Nat → List Row
  | 0 => [⟨[], bs⟩]
  | t + 1 => (rowsF bs t).flatMap (extF gs W)
end
theorem ext1_len (gs : List (Int × Int)) (r : Row) (k : Int) : (ext1 gs r k).length ≤ 1 := by unfold ext1; split <;> simp
theorem flat_len {α β : Type} {g : α → List β} {m : Nat} (h : ∀ a, (g a).length ≤ m) : ∀ xs : List α, (xs.flatMap g).length ≤ xs.length * m
  | [] => by simp
  | x :: xs => by
    rw [List.flatMap_cons, List.length_append, List.length_cons, Nat.succ_mul]
    have := flat_len h xs
    have := h x
    omega
theorem extF_len (gs : List (Int × Int)) (W : List Int) (r : Row) : (extF gs W r).length ≤ W.length := by
  have := flat_len (ext1_len gs r) W
  rw [Nat.mul_one] at this
  exact this
theorem rowsF_len (gs : List (Int × Int)) {W : List Int} (hW : W.length ≤ 5) (bs : List (Int × Int)) : ∀ t, (rowsF gs W bs t).length ≤ 5 ^ t
  | 0 => by simp [rowsF]
  | t + 1 => by
    have := flat_len (g := extF gs W) (m := 5) (fun r => Nat.le_trans (extF_len gs W r) hW) (rowsF gs W bs t)
    have ih := rowsF_len gs hW bs t
    rw [rowsF, Nat.pow_succ]
    omega
theorem safe_snoc {gs bs : List (Int × Int)} {os : List Int} {k : Int} (h : SafeO gs bs os) (hk : CanP (stF gs bs os) k.toNat (gAt gs k)) : SafeO gs bs (os ++ [k]) := by
  intro j k2 hj
  by_cases c : j < os.length
  · rw [List.getElem?_append_left c] at hj
    rw [List.take_append_of_le_length (by omega)]
    exact h j k2 hj
  · rw [List.getElem?_append_right (by omega)] at hj
    have e0 : j - os.length = 0 := by
      have := lt_of_get hj
      simp at this
      omega
    rw [e0] at hj
    cases hj
    rw [show j = os.length by omega, List.take_left']
    · exact hk
    · rfl
/-- what is told of a row -/
structure RowG (gs bs : List (Int × Int)) (W : List Int) (t : Nat) (r : Row) : Prop where
  nd : r.a.Nodup
  sub : ∀ k ∈ r.a, k ∈ W
  len : r.a.length = t
  safe : SafeO gs bs r.a
  st : r.b = stF gs bs r.a
section
variable {size : Int} {bs : List (Int × Int)} {st : List Int}
theorem sub_rng {os : List Int} (h : ∀ k ∈ os, k ∈ mvF bs st) : ∀ k ∈ os, 0 ≤ k ∧ k < (bs.length : Int) := fun k hk => by
  obtain ⟨i, e, hi⟩ := mv_lt (h k hk)
  omega
theorem can_iff (hs : st.length = bs.length) (bins : Ins size bs) (hins : Ins size (plF bs st)) {os : List Int} (h : ∀ k ∈ os, k ∈ mvF bs st) {k : Int} (hk : k ∈ mvF bs st) : canB (stF (plF bs st) bs os) k.toNat (gAt (plF bs st) k) = true ↔ CanP (stF (plF bs st) bs os) k.toNat (gAt (plF bs st) k) := by
  have gl : (plF bs st).length = bs.length := plF_len hs
  obtain ⟨i, rfl, hi⟩ := mv_lt hk
  obtain ⟨g, eg⟩ := get_of_lt (xs := plF bs st) (i := i) (by omega)
  rw [gAt_of eg, Int.toNat_natCast]
  exact canB_iff (by rw [stF_len]; omega) (hins i g eg).2.1 (stF_ins gl bins hins (sub_rng h))
theorem rows_ok (hs : st.length = bs.length) (bins : Ins size bs) (hins : Ins size (plF bs st)) : ∀ (t : Nat) (r : Row), r ∈ rowsF (plF bs st) (mvF bs st) bs t → RowG (plF bs st) bs (mvF bs st) t r
  | 0, r, h => by
    have h' : r ∈ [(⟨[], bs⟩ : Row)] := h
    rw [List.mem_singleton.mp h']
    exact ⟨List.nodup_nil, fun k hk => (by cases hk), rfl, fun i k hk => by simp at hk, rfl⟩
  | t + 1, r, h => by
    rw [rowsF] at h
    obtain ⟨r0, h0, hr⟩ := List.mem_flatMap.mp h
    obtain ⟨k, hk, hr⟩ := List.mem_flatMap.mp hr
    have g := rows_ok hs bins hins t r0 h0
    unfold ext1 at hr
    split at hr
    · rename_i c
      rw [Bool.and_eq_true, decide_eq_true_eq] at c
      rw [List.mem_singleton.mp hr]
      have hc := c.2
      rw [g.st] at hc
      refine ⟨?_, ?_, by dsimp only; rw [List.length_append, g.len]; rfl, safe_snoc g.safe ((can_iff hs bins hins g.sub hk).mp hc), by dsimp only; rw [stF_snoc, g.st]⟩
      · refine List.nodup_append.mpr ⟨g.nd, by simp, ?_⟩
        intro y hy z hz e
        rw [List.mem_singleton.mp hz] at e
        exact c.1 (e ▸ hy)
      · intro y hy
        obtain hy | hy := List.mem_append.mp hy
        · exact g.sub y hy
        · rw [List.mem_singleton.mp hy]; exact hk
    · cases hr
theorem law_firstM_ok (hs : st.length = bs.length) (hl : bs.length ≤ 5) (bins : Ins size bs) (hins : Ins size (plF bs st)) : law_firstM bs (plF bs st) (mvF bs st) = some ((rowsF (plF bs st) (mvF bs st) bs (mvF bs st).length).head?.map (·.a)) := by
  have gl : (plF bs st).length = bs.length := plF_len hs
  have wl : (mvF bs st).length ≤ 5 := by
    unfold mvF
    refine Nat.le_trans (List.length_filter_le _ _) ?_
    rw [rngL_len]
    exact hl
  unfold law_firstM
  refine bind_of (colL_id (by omega)) (bnd_of (bind_of (rng1_ok (by omega)) ?_))
  rw [Int.toNat_natCast]
  refine bind_ex (P := fun x => x = rowsF (plF bs st) (mvF bs st) bs (mvF bs st).length) ?_ ?_
  · have := fold_ex (xs := rngL 0 (mvF bs st).length) (x0 := [(⟨[], bs⟩ : Row)]) (fun n x => n ≤ (mvF bs st).length → x = rowsF (plF bs st) (mvF bs st) bs n) (fun _ => rfl) (f := (fun (y_251 : Int) (rows_249 : (List (L2P (List Int) (List (Int × Int))))) => bnd (([] : List (L2P (List Int) (List (Int × Int))))) fun later_255 => (fold (fun (y_261 : (L2P (List Int) (List (Int × Int)))) (later_259 : (List (L2P (List Int) (List (Int × Int))))) => (fold (fun (y_269 : Int) (later_267 : (List (L2P (List Int) (List (Int × Int))))) => (if ((!decide (y_269 ∈ y_261.a))) = true then (law_canM y_261.b (plF bs st) y_269).bind fun t_274 => some t_274 else some false).bind fun t_275 => if t_275 = true then ((colL (fun (y_277 : (Int × Int)) => some (some y_277)) y_261.b).bind fun cs_278 => bnd (cs_278) fun now_279 => (atI (plF bs st) y_269).bind fun t_281 => (setF now_279 y_269 t_281).bind fun now_282 => (catF y_261.a [y_269]).bind fun t_284 => (appF later_267 (L2P.mk t_284 now_282)).bind fun later_285 => some later_285) else (some later_267) : Int → (List (L2P (List Int) (List (Int × Int)))) → Option (List (L2P (List Int) (List (Int × Int))))) (mvF bs st) later_259).bind fun later_267 => some later_267 : (L2P (List Int) (List (Int × Int))) → (List (L2P (List Int) (List (Int × Int)))) → Option (List (L2P (List Int) (List (Int × Int))))) rows_249 later_255).bind fun later_259 => bnd (later_259) fun rows_287 => some rows_287 : Int → (List (L2P (List Int) (List (Int × Int)))) → Option (List (L2P (List Int) (List (Int × Int)))))) ?_
    · obtain ⟨out, e, h⟩ := this
      rw [rngL_len] at h
      exact ⟨out, e, h (Nat.le_refl _)⟩
    · intro n a x ha hx
      have hn := lt_of_get ha
      rw [rngL_len] at hn
      have hx := hx (by omega)
      subst hx
      have r5 := rowsF_len (plF bs st) wl bs n
      have p5 : 5 ^ n ≤ 5 ^ 5 := Nat.pow_le_pow_right (by decide) (by omega)
      have p6 : 5 ^ 5 = 3125 := by decide
      refine exb_bnd (exb (fold_app 100000 (g := extF (plF bs st) (mvF bs st)) _ _ ?_ ?_) (exb_bnd ⟨_, rfl, fun _ => by rw [List.nil_append]; rfl⟩))
      · intro r hr acc hacc
        have g := rows_ok hs bins hins n r hr
        have rl : r.b.length = bs.length := by rw [g.st, stF_len]
        have ri : Ins size r.b := by rw [g.st]; exact stF_ins gl bins hins (sub_rng g.sub)
        refine bind_of (fold_app 100000 (g := ext1 (plF bs st) r) _ _ ?_ hacc) rfl
        intro k hk acc hacc
        obtain ⟨i, rfl, hi⟩ := mv_lt hk
        obtain ⟨q, eg⟩ := get_of_lt (xs := plF bs st) (i := i) (by omega)
        have hc := law_canM_ok (by omega) (by omega) eg (hins i q eg).2.1 ri
        unfold ext1 at hacc ⊢
        rw [gAt_of eg, Int.toNat_natCast] at hacc ⊢
        have e1 : (if ((!decide ((i : Int) ∈ r.a))) = true then (law_canM r.b (plF bs st) (i : Int)).bind fun t_274 => some t_274 else some false) = some (decide ((i : Int) ∉ r.a) && canB r.b i q) := by
          by_cases c : (i : Int) ∈ r.a
          · exact else_of (by simp [c]) (congrArg some (by simp [c]))
          · exact if_of (by simp [c]) (bind_of hc (congrArg some (by simp [c])))
        refine bind_of e1 ?_
        cases hb : (decide ((i : Int) ∉ r.a) && canB r.b i q) with
        | true =>
          rw [hb] at hacc
          have al : acc.length + 1 ≤ 100000 := hacc
          refine if_of rfl (bind_of (colL_id (by omega)) (bnd_of (bind_of (at_ok eg) (bind_of (setF_ok (by omega)) (bind_of (catF_ok (by have := g.len; simp; omega)) (bind_of (appF_ok (by omega)) rfl))))))
        | false => exact else_of (by decide) (by simp)
      · have := flat_len (g := extF (plF bs st) (mvF bs st)) (m := 5) (fun r => Nat.le_trans (extF_len _ _ r) wl) (rowsF (plF bs st) (mvF bs st) bs n)
        rw [List.length_nil]
        omega
  · rintro x rfl
    cases hR : rowsF (plF bs st) (mvF bs st) bs (mvF bs st).length with
    | nil => exact if_of (by simp) rfl
    | cons r rs => exact else_of (by simp; omega) (bind_of (at_ok (i := 0) rfl) rfl)
/-- the greedy order heads the rows -/
theorem rows_head (hs : st.length = bs.length) (bins : Ins size bs) (hins : Ins size (plF bs st)) {os : List Int} (hp : os.Perm (mvF bs st)) (hsafe : SafeO (plF bs st) bs os) (hleast : LeastO (plF bs st) bs (mvF bs st) os) : ∀ t, t ≤ os.length → ∃ tl, rowsF (plF bs st) (mvF bs st) bs t = (⟨os.take t, stF (plF bs st) bs (os.take t)⟩ : Row) :: tl
  | 0, _ => ⟨[], rfl⟩
  | t + 1, h => by
    obtain ⟨tl, e⟩ := rows_head hs bins hins hp hsafe hleast t (by omega)
    obtain ⟨k, hk⟩ := get_of_lt (xs := os) (i := t) (by omega)
    have hkW : k ∈ mvF bs st := hp.mem_iff.mp (List.mem_of_getElem? hk)
    have nd : os.Nodup := (hp.nodup_iff).mpr (mv_nodup bs st)
    have sub : ∀ y ∈ os.take t, y ∈ mvF bs st := fun y hy => hp.mem_iff.mp (List.mem_of_mem_take hy)
    obtain ⟨W1, W2, hW⟩ := List.append_of_mem hkW
    have knot : k ∉ os.take t := fun hin => by
      obtain ⟨j, hj⟩ := List.mem_iff_getElem?.mp hin
      have hj' := lt_of_get hj
      rw [List.length_take] at hj'
      rw [List.getElem?_take_of_lt (by omega)] at hj
      have := nodup_get nd hj hk
      omega
    have hext : ∃ tl2, extF (plF bs st) (mvF bs st) (⟨os.take t, stF (plF bs st) bs (os.take t)⟩ : Row) = (⟨os.take (t + 1), stF (plF bs st) bs (os.take (t + 1))⟩ : Row) :: tl2 := by
      unfold extF
      rw [hW, List.flatMap_append, List.flatMap_cons]
      have z : W1.flatMap (ext1 (plF bs st) (⟨os.take t, stF (plF bs st) bs (os.take t)⟩ : Row)) = [] := by
        rw [List.flatMap_eq_nil_iff]
        intro k' hk'
        have hk'W : k' ∈ mvF bs st := by rw [hW]; exact List.mem_append_left _ hk'
        have lt : k' < k := by
          have := mv_asc bs st
          rw [hW] at this
          exact (List.pairwise_append.mp this).2.2 k' hk' k List.mem_cons_self
        unfold ext1
        rw [if_neg]
        intro c
        rw [Bool.and_eq_true, decide_eq_true_eq] at c
        exact hleast t k hk k' hk'W lt c.1 ((can_iff hs bins hins sub hk'W).mp c.2)
      have o : ext1 (plF bs st) (⟨os.take t, stF (plF bs st) bs (os.take t)⟩ : Row) k = [(⟨os.take (t + 1), stF (plF bs st) bs (os.take (t + 1))⟩ : Row)] := by
        unfold ext1
        rw [if_pos (by rw [Bool.and_eq_true, decide_eq_true_eq]; exact ⟨knot, (can_iff hs bins hins sub hkW).mpr (hsafe t k hk)⟩), List.take_succ, hk]
        show [(⟨_, _⟩ : Row)] = [⟨os.take t ++ [k], stF (plF bs st) bs (os.take t ++ [k])⟩]
        rw [stF_snoc]
      rw [z, o]
      exact ⟨_, rfl⟩
    obtain ⟨tl2, e2⟩ := hext
    rw [rowsF, e, List.flatMap_cons, e2]
    exact ⟨_, rfl⟩
theorem first_not {os : List Int} : ∀ {xs : List Int}, (∃ x ∈ xs, x ∉ os) → ∃ pre x post, xs = pre ++ x :: post ∧ x ∉ os ∧ ∀ y ∈ pre, y ∈ os
  | [], h => by obtain ⟨x, h, _⟩ := h; cases h
  | x :: xs, h => by
    by_cases c : x ∈ os
    · have : ∃ x ∈ xs, x ∉ os := by
        obtain ⟨y, hy, n⟩ := h
        obtain rfl | hy := List.mem_cons.mp hy
        · exact absurd c n
        · exact ⟨y, hy, n⟩
      obtain ⟨pre, y, post, e, n, a⟩ := first_not this
      refine ⟨x :: pre, y, post, by rw [e]; rfl, n, fun z hz => ?_⟩
      obtain rfl | hz := List.mem_cons.mp hz
      · exact c
      · exact a z hz
    · exact ⟨[], x, xs, rfl, c, fun y hy => by cases hy⟩
/-- what was possible with fewer moves made is possible with more -/
theorem can_more (hs : st.length = bs.length) (gdis : Dis (plF bs st)) {os pre : List Int} (hos : ∀ k ∈ os, k ∈ mvF bs st) (hpre : ∀ k ∈ pre, k ∈ os) {k : Int} (hk : k ∈ mvF bs st) (h : CanP (stF (plF bs st) bs pre) k.toNat (gAt (plF bs st) k)) : CanP (stF (plF bs st) bs os) k.toNat (gAt (plF bs st) k) := by
  have gl : (plF bs st).length = bs.length := plF_len hs
  obtain ⟨i, rfl, hi⟩ := mv_lt hk
  obtain ⟨g, eg⟩ := get_of_lt (xs := plF bs st) (i := i) (by omega)
  rw [gAt_of eg, Int.toNat_natCast] at h ⊢
  intro j y ne hy
  rw [stF_get gl os (sub_rng hos)] at hy
  by_cases c : (j : Int) ∈ os
  · rw [if_pos c] at hy
    exact gdis i j g y (fun z => ne z.symm) eg hy
  · rw [if_neg c] at hy
    refine h j y ne ?_
    rw [stF_get gl pre (sub_rng fun k hk => hos k (hpre k hk)), if_neg (fun z => c (hpre _ z))]
    exact hy
theorem rows_none (hs : st.length = bs.length) (bins : Ins size bs) (hins : Ins size (plF bs st)) (gdis : Dis (plF bs st)) (h : SchedOk bs st none) : rowsF (plF bs st) (mvF bs st) bs (mvF bs st).length = [] := by
  obtain ⟨os, h1, h2, h3, h4, ⟨k, hk, hno⟩, h5⟩ := h
  cases hR : rowsF (plF bs st) (mvF bs st) bs (mvF bs st).length with
  | nil => rfl
  | cons r rs =>
    exfalso
    have g := rows_ok hs bins hins _ r (by rw [hR]; exact List.mem_cons_self)
    have kin : k ∈ r.a := by
      by_cases c : k ∈ r.a
      · exact c
      · have := nodup_le (xs := k :: r.a) (List.nodup_cons.mpr ⟨c, g.nd⟩) (ys := mvF bs st) fun y hy => by
          obtain rfl | hy := List.mem_cons.mp hy
          · exact hk
          · exact g.sub y hy
        rw [List.length_cons, g.len] at this
        omega
    obtain ⟨pre, x, post, e, xno, hpre⟩ := first_not ⟨k, kin, hno⟩
    have hx : r.a[pre.length]? = some x := by rw [e, List.getElem?_append_right (Nat.le_refl _), Nat.sub_self]; rfl
    have hxW := g.sub x (List.mem_of_getElem? hx)
    have hc := g.safe _ x hx
    have ht : r.a.take pre.length = pre := by rw [e]; exact List.take_left' rfl
    rw [ht] at hc
    exact h5 x hxW xno (can_more hs gdis h1 hpre hxW hc)
end
end
end Pf

namespace Pf
open PySem L2
local macro_rules | `(tactic| walk_at "rd1") => `(tactic| first
  | with_reducible refine r_seqA ?_
  | with_reducible refine r_seqD ?_
  | with_reducible refine r_seqF ?_
  | with_reducible refine r_seqN ?_
  | with_reducible refine r_asg ?_
  | with_reducible refine r_drop ?_
  | with_reducible refine r_ret ?_
  | with_reducible refine r_ifS ?_
  | ((with_reducible refine r_next ?_); try dsimp only)
  | ((with_reducible refine r_name ?_); try dsimp only [List.set_cons_succ, List.set_cons_zero, wipe])
  | ((with_reducible refine' r_var ?rdh ?_); (case rdh => rfl))
  | with_reducible refine r_c ?_
  | with_reducible refine r_op ?_
  | with_reducible refine r_un ?_
  | with_reducible refine r_I0 ?_
  | ((with_reducible refine r_I ?_ ?_); (· first | decide | exact Or.inl (by decide) | exact Or.inr (by decide) | (show _ ∧ _; constructor <;> decide) | (show (0:Int) < _; omega) | (show CDiv _ _; unfold CDiv; omega) ))
  | with_reducible refine r_U ?_
  | with_reducible refine r_eqI ?_
  | with_reducible refine r_neI ?_
  | with_reducible refine r_eqB ?_
  | with_reducible refine r_neB ?_
  | with_reducible refine r_test ?_
  | with_reducible refine r_B ?_
  | with_reducible refine r_bl ?_
  | with_reducible refine r_bl2 ?_
  | with_reducible refine r_yes ?_
  | with_reducible refine r_wipe (by rfl) ?_
  | with_reducible refine r_rfl ?_
  | ((with_reducible refine' r_eqA ?rdh ?_); (case rdh => rfl))
  | with_reducible refine r_and ?_
  | with_reducible refine r_or ?_
  | with_reducible refine r_not ?_
  | with_reducible refine r_andV ?_
  | with_reducible refine r_orV ?_
  | with_reducible refine r_notV ?_
  | with_reducible refine r_ifE ?_
  | with_reducible refine r_nil ?_
  | with_reducible refine r_cons ?_
  | with_reducible refine r_tup ?_
  | with_reducible refine r_lst ?_
  | with_reducible refine r_CB ?_
  | with_reducible refine r_call ?_
  | with_reducible refine r_bm ?_
  | with_reducible refine r_bm0 ?_
  | with_reducible refine r_int ?_
  | with_reducible refine r_i2 ?_
  | with_reducible refine r_i1 ?_
  | with_reducible refine r_gcons ?_
  | with_reducible refine r_gnil ?_
  | with_reducible refine r_gsub ?_
  | with_reducible refine iteT ?_
  | with_reducible refine iteF ?_
  | with_reducible refine ite_notT ?_
  | with_reducible refine ite_notF ?_
  | with_reducible refine r_isi_ib ?_
  | with_reducible refine r_isi_ii ?_
  | with_reducible refine r_isi_bb ?_
  | with_reducible refine r_isi_nb ?_
  | with_reducible refine r_isi_nt ?_
  | ((with_reducible refine' r_isi_ll ?rdh ?_); (case rdh => first | assumption | exact upd_same))
  | ((with_reducible refine' r_isi_tt ?rdh ?_); (case rdh => first | assumption | exact upd_same))
  | with_reducible refine r_sl ?_
  | with_reducible refine r_noPart ?_
  | with_reducible refine r_part ?_
  | with_reducible refine r_int1 ?_
  | with_reducible refine r_tru ?_
  | with_reducible refine r_ckw ?_
  | with_reducible refine r_lc ?_
  | with_reducible refine r_lc2 ?_
  | with_reducible refine r_forS ?_
  | with_reducible refine r_iR1 ?_
  | with_reducible refine r_iR2 ?_
  | with_reducible refine r_iL ?_
  | ((with_reducible refine' r_lenL ?rdh ?_); (case rdh => walk_at "sq"))
  | ((with_reducible refine' r_ixL ?rdh ?rda ?_); (case rdh => walk_at "sq"); (case rda => walk_at "at"))
  | ((with_reducible refine' r_ixT ?rdh ?rda ?_); (case rdh => walk_at "sq"); (case rda => walk_at "at")))
local macro_rules | `(tactic| walk_at "sq") => `(tactic| first
  | assumption
  | exact SqL.of (by assumption)
  | exact SqL.of upd_same
  | exact SqT.of (by assumption)
  | exact SqT.of upd_same)
local macro_rules | `(tactic| walk_at "sml") => `(tactic| (rw [sizeLine_eq]; simp))
local macro_rules | `(tactic| walk_at "at") => `(tactic| first | assumption | rfl)
local macro_rules | `(tactic| walk_at "rd") => `(tactic| repeat walk_at "rd1")
section
variable {w : World} {P : Program} {base : Heap} {K : PySem.W.Frag} {mg : Str → Option Value}
def law_ringM (p_layout : (List (Int × Int))) (p_goals : (List (Int × Int))) (p_moving : (List Int)) : Option Bool :=
  (colL (fun (y_295 : Int) => some (some y_295)) p_moving).bind fun cs_296 => bnd (cs_296) fun left_297 => (rng1 (p_moving.length : Int)).bind fun rg_300 => (fold (fun (y_305 : Int) (left_303 : (List Int)) => bnd (([] : List Int)) fun free_309 => (fold (fun (y_315 : Int) (free_313 : (List Int)) => (colL (fun (y_346 : Int) => (if (!decide (y_346 = y_315)) = true then (atI p_goals y_315).bind fun t_351 => (atI p_layout y_346).bind fun t_352 => (law_meetsM t_351 t_352).bind fun t_353 => some t_353 else some false).bind fun t_354 => if t_354 = true then some (some y_346) else some none) left_303).bind fun cs_347 => if (decide ((cs_347.length : Int) = (0 : Int))) = true then ((appF free_313 y_315).bind fun free_356 => some free_356) else (some free_313) : Int → (List Int) → Option (List Int)) left_303 free_309).bind fun free_313 => (colL (fun (y_358 : Int) => if ((!decide (y_358 ∈ free_313))) = true then some (some y_358) else some none) left_303).bind fun cs_359 => bnd (cs_359) fun left_360 => some left_360 : Int → (List Int) → Option (List Int)) rg_300 left_297).bind fun left_303 => some (decide ((0 : Int) < (left_303.length : Int)))
theorem mk_law_ring {f f1 : Addr} {fd fd1 : FuncData} (T : Txt mg) (F : Fun K "_law_ring" "_law_ring" s_law_ring f fd) (m : mg "_law_ring" = some (.ref f)) (b : Binds K fd ["layout", "goals", "moving"] [])
    (C_law_meets : Cal P w K mg base "_law_meets" 1 f1 fd1 ["one", "other"] (spP (fun (i : (Int × Int) × (Int × Int) × Unit) => law_meetsM i.1 i.2.1))) :
    Cal P w K mg base "_law_ring" 2 f fd ["layout", "goals", "moving"] (spP (fun (i : (List (Int × Int)) × (List (Int × Int)) × (List Int) × Unit) => law_ringM i.1 i.2.1 i.2.2.1)) := by
  refine ⟨F.ok sc_law_ring (fun vs H Q E h => ?_) (fun cdv A outer s H vs Q E hr h => ?_), m, F.kp, b⟩
  · obtain ⟨ms, ⟨p_layout, p_goals, p_moving, ⟨⟩⟩, r, _, ⟨v_p_layout, _, rfl, f_p_layout, ⟨v_p_goals, _, rfl, f_p_goals, ⟨v_p_moving, _, rfl, f_p_moving, e0⟩⟩⟩, _⟩ := h
    cases e0
    rfl
  obtain ⟨ms, ⟨p_layout, p_goals, p_moving, ⟨⟩⟩, r, al, ⟨v_p_layout, _, rfl, f_p_layout, ⟨v_p_goals, _, rfl, f_p_goals, ⟨v_p_moving, _, rfl, f_p_moving, e0⟩⟩⟩, hm, Q⟩ := h
  cases e0
  refine ⟨_, (pss_cons (show PS _ _ (tAsg (tLc _ _ _ _ [4]) _) from ps_setLc (i := 3) (own := [("k", 4)]) (g := gName 4) (tt := tYes) rfl sc_law_ring.nd rfl rfl (sw_true rfl rfl rfl (by decide +kernel)) (pi_list (pv 2)) (blkOk_by (own := [("k", 4)]) (N := ["layout", "goals", "moving", "left", "k", "turn", "free", "other"]) (sc := defScope s_law_ring) (by decide +kernel)) (fun _ _ _ _ _ => (pg_name (i := 4) sc_law_ring.nd rfl (Or.inl rfl))) (fun _ _ _ _ _ => pts_nil) (fun _ _ _ _ _ => (pv 4))) (pss_cons (ps_for PassesOwn.never rfl (pi_range1 rfl T.range (pa_cons (pe_callB (show CallR _ _ (fun xs H Q => ∃ p ys, xs = [V.ref p] ∧ (SqL K H p ys ∨ SqT K H p ys) ∧ Q (.int ys.length) H) from call_len_seq) (by rfl) T.len PySem.boot_len (pa_cons (pv 2) pa_nil)) pa_nil)) (pg_name (i := 5) sc_law_ring.nd rfl (Or.inl rfl))
      (pss_cons (ps_set (i := 6) sc_law_ring.nd rfl (Or.inr rfl) (pe_lst pa_nil)) (pss_cons (ps_for PassesOwn.never rfl (pi_list (pv 3)) (pg_name (i := 4) sc_law_ring.nd rfl (Or.inr rfl))
      (pss_one (ps_if (pt_cmpR op_eq (pe_callB (show CallR _ _ (fun xs H Q => ∃ p ys, xs = [V.ref p] ∧ (SqL K H p ys ∨ SqT K H p ys) ∧ Q (.int ys.length) H) from call_len_seq) (by rfl) T.len PySem.boot_len (pa_cons (show PE _ _ (tLc _ _ _ _ [7]) from pe_lc (own := [("other", 7)]) (g := gName 7) rfl sc_law_ring.nd (pi_list (pv 3)) (blkOk_by (own := [("other", 7)]) (N := ["layout", "goals", "moving", "left", "k", "turn", "free", "other"]) (sc := defScope s_law_ring) (by decide +kernel)) (fun _ _ _ _ _ => (pg_name (i := 7) sc_law_ring.nd rfl (Or.inl rfl))) (fun _ _ _ _ _ => (pts_one (PW.pt (pw_and (pt_cmpR op_ne (pv 7) (pv 4) (nomark _)) (pw_and1 (pt_val (pe_call C_law_meets.ok (hr.mono (by first | decide | omega)) rfl C_law_meets.mg C_law_meets.kp C_law_meets.b .nil pass0 (pa_cons (pe_ix (show IxR _ (rIxL K) from ix_list) (pv 1) (pv 4) (fun _ _ => rfl)) (pa_cons (pe_ix (show IxR _ (rIxL K) from ix_list) (pv 0) (pv 7) (fun _ _ => rfl)) pa_nil))))))))) (fun _ _ _ _ _ => (pv 7))) pa_nil)) pe_int (nomark _))
      (pss_one (ps_expr (pe_bm PySem.F.plainAttrs_list PySem.F.slot_list_append PySem.F.type_list_append mt_append (pv 6) (pa_cons (pv 4) pa_nil))))
      pss_nil))) (pss_one (show PS _ _ (tAsg (tLc _ _ _ _ [4]) _) from ps_setLc (i := 3) (own := [("k", 4)]) (g := gName 4) rfl sc_law_ring.nd rfl rfl (sw_true rfl rfl rfl (by decide +kernel)) (pi_list (pv 3)) (blkOk_by (own := [("k", 4)]) (N := ["layout", "goals", "moving", "left", "k", "turn", "free", "other"]) (sc := defScope s_law_ring) (by decide +kernel)) (fun _ _ _ _ _ => (pg_name (i := 4) sc_law_ring.nd rfl (Or.inl rfl))) (fun _ _ _ _ _ => (pts_one (pt_cmpR (show OpR _ _ (rIn K true) from op_notIn_seq) (pv 4) (pv 6) (by rfl)))) (fun _ _ _ _ _ => (pv 4))))))) (pss_one (ps_ret (pe_cmpR op_gt (pe_callB (show CallR _ _ (fun xs H Q => ∃ p ys, xs = [V.ref p] ∧ (SqL K H p ys ∨ SqT K H p ys) ∧ Q (.int ys.length) H) from call_len_seq) (by rfl) T.len PySem.boot_len (pa_cons (pv 3) pa_nil)) pe_int (nomark _)))))), ?_⟩
  try dsimp only [cxOf, Cx.nox, Cx.wish]
  rw [show start ["layout", "goals", "moving", "left", "k", "turn", "free", "other"] [v_p_layout, v_p_goals, v_p_moving] = [some (v_p_layout), some (v_p_goals), some (v_p_moving), none, none, none, none, none] from rfl]
  have W : Wd [] ms H := ⟨fun a h => (by cases h), al⟩
  have hq : Tr ms H := trivial
  have hm : law_ringM p_layout p_goals p_moving = some r := hm
  have u : Bu [] H H := Bu.refl _ H
  unfold law_ringM at hm
  obtain ⟨cs_296, e_cs_296, hm⟩ := bind_inv hm
  obtain ⟨left_297, e_left_297, hm⟩ := bnd_inv hm
  refine r_seqA ?_
  refine Ex.go W (En.ex (sb_tr (B := [])) (en_lcL (f := fun (y_295 : Int) => some (some y_295)) W (sb_tr (B := [])) (Ei.ej (ei_list (ex_var W rfl f_p_moving))) e_cs_296 (fun ms' H' y_295 v r' L hq' rv hm => by
          have W := L.W
          have f_p_layout := Rp.mv f_p_layout L.M
          have f_p_goals := Rp.mv f_p_goals L.M
          have f_p_moving := Rp.mv f_p_moving L.M
          obtain rfl : v = V.int y_295 := rv
          cases hm
          exact ⟨_, bnd_name, rfl, true, et_yes, fun h => (by cases h), fun _ => ⟨_, rfl, (ex_vi rfl)⟩⟩))) hq fun v_299 H_298 bb hq W M rv => ?_
  rw [← e_left_297] at rv
  have f_p_layout := Rp.mv f_p_layout M
  have f_p_goals := Rp.mv f_p_goals M
  have f_p_moving := Rp.mv f_p_moving M
  have u := u.trans bb
  have f_left_297 := rv
  refine (bnd_name : Bnd _ _ _ _ _) _ ?_
  dsimp only [List.set_cons_succ, List.set_cons_zero]
  obtain ⟨rg_300, e_rg_300, hm⟩ := bind_inv hm
  refine r_seqF' ?_
  refine r_for W (ei_rng1 (ea_cons W (ex_len (el_of W.hB (ex_var W rfl f_p_moving))) ea_nil) e_rg_300) hq fun J N_302 H_301 bb hq W M st_nN_302 nN_302 ok_N_302 => ?_
  have f_p_layout := Rp.mv f_p_layout M
  have f_p_goals := Rp.mv f_p_goals M
  have f_p_moving := Rp.mv f_p_moving M
  have f_left_297 := Rp.mv f_left_297 M
  have u := u.trans bb
  obtain ⟨out_306, e_out_306, hm⟩ := bind_inv hm
  have hgoN_302 := hm
  clear hm
  refine wk_fold (ms := ms) ok_N_302 e_out_306 (fun left_303 σ H' => ∃ (vj_left_303 : V), ∃ (xl_k : Option V), ∃ (xl_turn : Option V), ∃ (xl_free : Option V), σ = [some v_p_layout, some v_p_goals, some v_p_moving, some vj_left_303, xl_k, xl_turn, xl_free, none] ∧ Bu [] H H' ∧ Tr (ms) H' ∧ Wd [] (ms) H' ∧ N_302 (ms) H' ∧ Rp.rp (ms) H' (v_p_layout) p_layout ∧ Rp.rp (ms) H' (v_p_goals) p_goals ∧ Rp.rp (ms) H' (v_p_moving) p_moving ∧ Rp.rp (ms) H' (vj_left_303) left_303) ⟨_, _, _, _, rfl, u, hq, W, nN_302, f_p_layout, f_p_goals, f_p_moving, f_left_297⟩ ?_ ?_ ?_
  · intro left_303 σ H' hI
    try dsimp only at hI
    obtain ⟨vj_left_303, xl_k, xl_turn, xl_free, rfl, u, hq, W, nN_302, f_p_layout, f_p_goals, f_p_moving, f_left_303⟩ := hI
    exact ⟨nN_302, W.al⟩
  · intro y_305 v left_303 x' σ H_307 H_308 hI s1 rv hf
    try dsimp only at hI
    obtain ⟨vj_left_303, xl_k, xl_turn, xl_free, rfl, u, hq, W, nN_302, f_p_layout, f_p_goals, f_p_moving, f_left_303⟩ := hI
    have hm := hf
    try dsimp only at hm
    have bb : Bu [] H_307 H_308 := Bu.same s1
    have M : Mv (ms) H_307 (ms) H_308 := Mv.same s1
    have hq := (sb_tr (B := [])).same s1 hq
    have W := W.bu bb
    have f_p_layout := Rp.mv f_p_layout M
    have f_p_goals := Rp.mv f_p_goals M
    have f_p_moving := Rp.mv f_p_moving M
    have f_left_303 := Rp.mv f_left_303 M
    have nN_302 := st_nN_302.mv nN_302 M
    have u := u.trans bb
    obtain rfl : v = V.int y_305 := rv
    refine (bnd_name : Bnd _ _ _ _ _) _ ?_
    dsimp only [List.set_cons_succ, List.set_cons_zero]
    obtain ⟨free_309, e_free_309, hm⟩ := bnd_inv hm
    refine r_seqA ?_
    refine En.mk W (en_lst (xs := ([] : List Int)) W (sb_tr (B := [])) (by simp) es_nil) hq fun afree_309 H_310 bb na hq' W' M l_afree_309 => ?_
    rw [← e_free_309] at l_afree_309
    have o_afree_309 := W.al.not na
    have n_afree_309 : afree_309 ∉ [] := fun z => W.al.not na (W.hB _ z)
    have m_afree_309 : afree_309 ∈ afree_309 :: ms := List.mem_cons_self
    have h_afree_309 := u.none na
    have f_p_layout := Rp.mv f_p_layout M
    have f_p_goals := Rp.mv f_p_goals M
    have f_p_moving := Rp.mv f_p_moving M
    have f_left_303 := Rp.mv f_left_303 M
    have nN_302 := st_nN_302.mv nN_302 M
    have u := u.trans bb
    have W := W'
    have hq := hq'
    refine r_name ?_
    dsimp only [List.set_cons_succ, List.set_cons_zero]
    refine r_seqF' ?_
    refine r_for W (ei_list (ex_var W rfl f_left_303)) hq fun J N_312 H_311 bb hq W M st_nN_312 nN_312 ok_N_312 => ?_
    have f_p_layout := Rp.mv f_p_layout M
    have f_p_goals := Rp.mv f_p_goals M
    have f_p_moving := Rp.mv f_p_moving M
    have f_left_303 := Rp.mv f_left_303 M
    have l_afree_309 := l_afree_309.step M fun o e => bb.1 _ o n_afree_309 e
    have nN_302 := st_nN_302.mv nN_302 M
    have u := u.trans bb
    obtain ⟨out_316, e_out_316, hm⟩ := bind_inv hm
    have hgoN_312 := hm
    clear hm
    refine wk_fold (ms := afree_309 :: ms) ok_N_312 e_out_316 (fun free_313 σ H' => ∃ (xl_k : Option V), σ = [some v_p_layout, some v_p_goals, some v_p_moving, some vj_left_303, xl_k, some (.int y_305), some (.ref afree_309), none] ∧ Bu [] H H' ∧ Tr (afree_309 :: ms) H' ∧ Wd [] (afree_309 :: ms) H' ∧ N_302 (afree_309 :: ms) H' ∧ N_312 (afree_309 :: ms) H' ∧ Rp.rp (afree_309 :: ms) H' (v_p_layout) p_layout ∧ Rp.rp (afree_309 :: ms) H' (v_p_goals) p_goals ∧ Rp.rp (afree_309 :: ms) H' (v_p_moving) p_moving ∧ Rp.rp (afree_309 :: ms) H' (vj_left_303) left_303 ∧ Ls (afree_309 :: ms) H' afree_309 free_313) ⟨_, rfl, u, hq, W, nN_302, nN_312, f_p_layout, f_p_goals, f_p_moving, f_left_303, l_afree_309⟩ ?_ ?_ ?_
    · intro free_313 σ H' hI
      try dsimp only at hI
      obtain ⟨xl_k, rfl, u, hq, W, nN_302, nN_312, f_p_layout, f_p_goals, f_p_moving, f_left_303, l_afree_309⟩ := hI
      exact ⟨nN_312, W.al⟩
    · intro y_315 v free_313 x' σ H_317 H_318 hI s1 rv hf
      try dsimp only at hI
      obtain ⟨xl_k, rfl, u, hq, W, nN_302, nN_312, f_p_layout, f_p_goals, f_p_moving, f_left_303, l_afree_309⟩ := hI
      have hm := hf
      try dsimp only at hm
      have bb : Bu [] H_317 H_318 := Bu.same s1
      have M : Mv (afree_309 :: ms) H_317 (afree_309 :: ms) H_318 := Mv.same s1
      have hq := (sb_tr (B := [])).same s1 hq
      have W := W.bu bb
      have f_p_layout := Rp.mv f_p_layout M
      have f_p_goals := Rp.mv f_p_goals M
      have f_p_moving := Rp.mv f_p_moving M
      have f_left_303 := Rp.mv f_left_303 M
      have l_afree_309 := l_afree_309.step M fun o e => bb.1 _ o n_afree_309 e
      have nN_302 := st_nN_302.mv nN_302 M
      have nN_312 := st_nN_312.mv nN_312 M
      have u := u.trans bb
      obtain rfl : v = V.int y_315 := rv
      refine (bnd_name : Bnd _ _ _ _ _) _ ?_
      dsimp only [List.set_cons_succ, List.set_cons_zero]
      obtain ⟨cs_347, e_cs_347, hm⟩ := bind_inv hm
      refine r_ifS ?_
      refine Et.go W (et_test (ex_eqI (ex_len (el_of W.hB (En.ex (sb_tr (B := [])) (en_lcL (f := fun (y_346 : Int) => (if (!decide (y_346 = y_315)) = true then (atI p_goals y_315).bind fun t_351 => (atI p_layout y_346).bind fun t_352 => (law_meetsM t_351 t_352).bind fun t_353 => some t_353 else some false).bind fun t_354 => if t_354 = true then some (some y_346) else some none) W (sb_tr (B := [])) (Ei.ej (ei_list (ex_var W rfl f_left_303))) e_cs_347 (fun ms' H' y_346 v r' L hq' rv hm => by
              have W := L.W
              have f_p_layout := Rp.mv f_p_layout L.M
              have f_p_goals := Rp.mv f_p_goals L.M
              have f_p_moving := Rp.mv f_p_moving L.M
              have f_left_303 := Rp.mv f_left_303 L.M
              have l_afree_309 := l_afree_309.lt n_afree_309 L
              obtain rfl : v = V.int y_346 := rv
              obtain ⟨t_354, e_t_354, hm⟩ := bind_inv hm
              refine ⟨_, bnd_name, rfl, _, (et_and (d := t_354) (et_test (ex_neI (ex_vi rfl) (ex_vi rfl))) (fun c => by
              have hm := (if_pos c).symm.trans e_t_354
              obtain ⟨t_351, e_t_351, hm⟩ := bind_inv hm
              obtain ⟨t_352, e_t_352, hm⟩ := bind_inv hm
              obtain ⟨t_353, e_t_353, hm⟩ := bind_inv hm
              rw [← Option.some.inj hm]
              exact (et_val (ex_call (i := (t_351, t_352, ())) W (sb_tr (B := [])) (ea_cons W (ex_ixL (el_of W.hB (ex_var W rfl f_p_goals)) (ex_vi rfl) W e_t_351) (ea_cons W (ex_ixL (el_of W.hB (ex_var W rfl f_p_layout)) (ex_vi rfl) W e_t_352) ea_nil)) e_t_353)))
              (fun c => by
              have hm := (if_neg (by rw [c]; decide)).symm.trans e_t_354
              cases hm
              exact ⟨rfl, fun _ h => h⟩)), fun c => ?_, fun c => ?_⟩
              · have hm := (if_neg (by rw [c]; decide)).symm.trans hm
                cases hm
                rfl
              · have hm := (if_pos c).symm.trans hm
                cases hm
                exact ⟨_, rfl, (ex_vi rfl)⟩))))) (ex_int 0))) hq fun H_355 bb hq W M => ?_
      have f_p_layout := Rp.mv f_p_layout M
      have f_p_goals := Rp.mv f_p_goals M
      have f_p_moving := Rp.mv f_p_moving M
      have f_left_303 := Rp.mv f_left_303 M
      have l_afree_309 := l_afree_309.step M fun o e => bb.1 _ o n_afree_309 e
      have nN_302 := st_nN_302.mv nN_302 M
      have nN_312 := st_nN_312.mv nN_312 M
      have u := u.trans bb
      refine ite_by (fun hc => ?_) (fun hc => ?_)
      · have hm := (if_pos hc).symm.trans hm
        obtain ⟨free_356, e_free_356, hm⟩ := bind_inv hm
        refine r_drop ?_
        refine s_app rfl W rfl l_afree_309 m_afree_309 n_afree_309 (sb_tr (B := [])) (ea_cons W (ex_vi rfl) ea_nil) hq e_free_356 fun H_357 bb hq W M l_afree_309 => ?_
        have f_p_layout := Rp.mv f_p_layout M
        have f_p_goals := Rp.mv f_p_goals M
        have f_p_moving := Rp.mv f_p_moving M
        have f_left_303 := Rp.mv f_left_303 M
        have nN_302 := st_nN_302.mv nN_302 M
        have nN_312 := st_nN_312.mv nN_312 M
        have u := u.own2 h_afree_309 bb
        try dsimp only
        try dsimp only
        try dsimp only
        cases hm
        exact ⟨_, rfl, u, hq, W, nN_302, nN_312, f_p_layout, f_p_goals, f_p_moving, f_left_303, l_afree_309⟩
      · have hm := (if_neg hc).symm.trans hm
        refine r_next ?_
        try dsimp only
        try dsimp only
        cases hm
        exact ⟨_, rfl, u, hq, W, nN_302, nN_312, f_p_layout, f_p_goals, f_p_moving, f_left_303, l_afree_309⟩
    · intro σ H_314 hI
      obtain ⟨free_313, hE⟩ : ∃ z, z = out_316 := ⟨_, rfl⟩
      rw [← hE] at hI hgoN_312
      try dsimp only at hI
      obtain ⟨xl_k, rfl, u, hq, W, nN_302, nN_312, f_p_layout, f_p_goals, f_p_moving, f_left_303, l_afree_309⟩ := hI
      have hm := hgoN_312
      try dsimp only at hm
      try dsimp only
      obtain ⟨cs_359, e_cs_359, hm⟩ := bind_inv hm
      obtain ⟨left_360, e_left_360, hm⟩ := bnd_inv hm
      refine r_asg ?_
      refine Ex.go W (En.ex (sb_tr (B := [])) (en_lcL (f := fun (y_358 : Int) => if ((!decide (y_358 ∈ free_313))) = true then some (some y_358) else some none) W (sb_tr (B := [])) (Ei.ej (ei_list (ex_var W rfl f_left_303))) e_cs_359 (fun ms' H' y_358 v r' L hq' rv hm => by
              have W := L.W
              have f_p_layout := Rp.mv f_p_layout L.M
              have f_p_goals := Rp.mv f_p_goals L.M
              have f_p_moving := Rp.mv f_p_moving L.M
              have f_left_303 := Rp.mv f_left_303 L.M
              have l_afree_309 := l_afree_309.lt n_afree_309 L
              obtain rfl : v = V.int y_358 := rv
              refine ⟨_, bnd_name, rfl, _, (et_test (ex_notIn W (ex_vi rfl) (el_var W rfl n_afree_309 l_afree_309))), fun c => ?_, fun c => ?_⟩
              · have hm := (if_neg (by rw [c]; decide)).symm.trans hm
                cases hm
                rfl
              · have hm := (if_pos c).symm.trans hm
                cases hm
                exact ⟨_, rfl, (ex_vi rfl)⟩))) hq fun v_362 H_361 bb hq W M rv => ?_
      rw [← e_left_360] at rv
      have f_p_layout := Rp.mv f_p_layout M
      have f_p_goals := Rp.mv f_p_goals M
      have f_p_moving := Rp.mv f_p_moving M
      have f_left_303 := Rp.mv f_left_303 M
      have l_afree_309 := l_afree_309.step M fun o e => bb.1 _ o n_afree_309 e
      have nN_302 := st_nN_302.mv nN_302 M
      have u := u.trans bb
      have f_left_360 := rv
      refine (bnd_name : Bnd _ _ _ _ _) _ ?_
      dsimp only [List.set_cons_succ, List.set_cons_zero]
      try dsimp only
      try dsimp only
      have sub : ∀ a ∈ ms, a ∈ afree_309 :: ms := ((.cons _ (.refl _)) : List.Sublist (ms) (afree_309 :: ms)).subset
      have M : Mv (afree_309 :: ms) H_361 (ms) H_361 := Mv.less sub
      have hq := (sb_tr (B := [])) _ _ _ _ hq M fun _ _ _ e => e
      have W : Wd [] (ms) H_361 := ⟨fun a h => (by cases h), W.al.less sub⟩
      have f_p_layout := Rp.mv f_p_layout M
      have f_p_goals := Rp.mv f_p_goals M
      have f_p_moving := Rp.mv f_p_moving M
      have f_left_360 := Rp.mv f_left_360 M
      have f_free_313 : Rp.rp (ms) H_361 (.ref afree_309) free_313 := ⟨afree_309, rfl, o_afree_309, l_afree_309.less sub⟩
      have nN_302 := st_nN_302.mv nN_302 M
      cases hm
      exact ⟨_, _, _, _, rfl, u, hq, W, nN_302, f_p_layout, f_p_goals, f_p_moving, f_left_360⟩
  · intro σ H_304 hI
    obtain ⟨left_303, hE⟩ : ∃ z, z = out_306 := ⟨_, rfl⟩
    rw [← hE] at hI hgoN_302
    try dsimp only at hI
    obtain ⟨vj_left_303, xl_k, xl_turn, xl_free, rfl, u, hq, W, nN_302, f_p_layout, f_p_goals, f_p_moving, f_left_303⟩ := hI
    have hm := hgoN_302
    try dsimp only at hm
    try dsimp only
    have hm := Option.some.inj hm
    subst hm
    refine r_ret' ?_
    refine Ex.go W (ex_opI0 (z := (decide ((0 : Int) < (left_303.length : Int)))) (fun _ _ => rfl) (ex_len (el_of W.hB (ex_var W rfl f_left_303))) (ex_int 0)) hq fun v H_363 bb hq W M rv => ?_
    exact Q v _ (Bu.to_same (u.trans bb)) (rv)
section
variable (bs gs : List (Int × Int))
def blkF (left : List Int) (k : Int) : List Int := left.filter fun o => (!decide (o = k)) && mtB (gAt gs k) (gAt bs o)
def freeB (left : List Int) (k : Int) : Bool := decide (((blkF bs gs left k).length : Int) = 0)
def ringF (W : List Int) : Nat → List Int
  | 0 => W
  | t + 1 => (ringF W t).filter fun k => !decide (k ∈ (ringF W t).filter (freeB bs gs (ringF W t)))
end
theorem ring_sub (bs gs : List (Int × Int)) (W : List Int) : ∀ t, ∀ k ∈ ringF bs gs W t, k ∈ W
  | 0, k, h => h
  | t + 1, k, h => ring_sub bs gs W t k (List.mem_filter.mp h).1
theorem ring_le (bs gs : List (Int × Int)) (W : List Int) : ∀ t, (ringF bs gs W t).length ≤ W.length
  | 0 => Nat.le_refl _
  | t + 1 => Nat.le_trans (List.length_filter_le _ _) (ring_le bs gs W t)
theorem flat_filter {α : Type} (p : α → Bool) : ∀ xs : List α, (xs.flatMap fun x => if p x = true then [x] else []) = xs.filter p
  | [] => rfl
  | x :: xs => by
    rw [List.flatMap_cons, flat_filter p xs, List.filter_cons]
    split <;> rfl
section
variable {size : Int} {bs : List (Int × Int)} {st : List Int}
theorem law_ringM_ok (hs : st.length = bs.length) (hl : bs.length ≤ 5) : law_ringM bs (plF bs st) (mvF bs st) = some (decide (0 < ((ringF bs (plF bs st) (mvF bs st) (mvF bs st).length).length : Int))) := by
  have gl : (plF bs st).length = bs.length := plF_len hs
  have wl : (mvF bs st).length ≤ 5 := by
    unfold mvF
    refine Nat.le_trans (List.length_filter_le _ _) ?_
    rw [rngL_len]
    exact hl
  unfold law_ringM
  refine bind_of (colL_id (by omega)) (bnd_of (bind_of (rng1_ok (by omega)) ?_))
  rw [Int.toNat_natCast]
  refine bind_ex (P := fun x => x = ringF bs (plF bs st) (mvF bs st) (mvF bs st).length) ?_ (fun x hx => by rw [hx])
  have := fold_ex (xs := rngL 0 (mvF bs st).length) (x0 := mvF bs st) (fun n x => x = ringF bs (plF bs st) (mvF bs st) n) rfl (f := (fun (y_305 : Int) (left_303 : (List Int)) => bnd (([] : List Int)) fun free_309 => (fold (fun (y_315 : Int) (free_313 : (List Int)) => (colL (fun (y_346 : Int) => (if (!decide (y_346 = y_315)) = true then (atI (plF bs st) y_315).bind fun t_351 => (atI bs y_346).bind fun t_352 => (law_meetsM t_351 t_352).bind fun t_353 => some t_353 else some false).bind fun t_354 => if t_354 = true then some (some y_346) else some none) left_303).bind fun cs_347 => if (decide ((cs_347.length : Int) = (0 : Int))) = true then ((appF free_313 y_315).bind fun free_356 => some free_356) else (some free_313) : Int → (List Int) → Option (List Int)) left_303 free_309).bind fun free_313 => (colL (fun (y_358 : Int) => if ((!decide (y_358 ∈ free_313))) = true then some (some y_358) else some none) left_303).bind fun cs_359 => bnd (cs_359) fun left_360 => some left_360 : Int → (List Int) → Option (List Int))) ?_
  · obtain ⟨out, e, h⟩ := this
    rw [rngL_len] at h
    exact ⟨out, e, h⟩
  · intro n a x ha hx
    subst hx
    have L := ring_le bs (plF bs st) (mvF bs st) n
    have S := ring_sub bs (plF bs st) (mvF bs st) n
    generalize hR : ringF bs (plF bs st) (mvF bs st) n = left at *
    refine exb_bnd (exb (a := left.filter (freeB bs (plF bs st) left)) ?_ (exb (colL_keep (p := fun k => !decide (k ∈ left.filter (freeB bs (plF bs st) left))) (by omega) fun y _ => ?_) (exb_bnd ⟨_, rfl, by rw [ringF, hR]⟩)))
    · rw [fold_app 1000 (g := fun k => if freeB bs (plF bs st) left k = true then [k] else []) left [] ?_ ?_, flat_filter, List.nil_append]
      · intro k hk acc hacc
        obtain ⟨i, rfl, hi⟩ := mv_lt (S k hk)
        obtain ⟨g, eg⟩ := get_of_lt (xs := plF bs st) (i := i) (by omega)
        refine bind_of (colL_keep (p := fun o => (!decide (o = (i : Int))) && mtB (gAt (plF bs st) (i : Int)) (gAt bs o)) (by omega) fun o ho => ?_) ?_
        · obtain ⟨j, rfl, hj⟩ := mv_lt (S o ho)
          obtain ⟨b, eb⟩ := get_of_lt (xs := bs) (i := j) (by omega)
          rw [gAt_of eg, gAt_of eb]
          refine bind_of (a := (!decide ((j : Int) = (i : Int))) && mtB g b) ?_ ?_
          · by_cases c : (j : Int) = (i : Int)
            · exact else_of (by simp [c]) (by simp [c])
            · exact if_of (by simp [c]) (bind_of (at_ok eg) (bind_of (at_ok eb) (bind_of (law_meetsM_ok g b) (by simp [c]))))
          · split <;> rfl
        · show (if decide (((blkF bs (plF bs st) left (i : Int)).length : Int) = (0 : Int)) = true then _ else _) = _
          cases hf : freeB bs (plF bs st) left (i : Int) with
          | true =>
            rw [hf] at hacc
            have : acc.length + 1 ≤ 1000 := hacc
            exact if_of hf (bind_of (appF_ok (by omega)) rfl)
          | false => exact else_of (by unfold freeB at hf; rw [hf]; decide) (by simp)
      · have := flat_len (g := fun k => if freeB bs (plF bs st) left k = true then [k] else []) (m := 1) (fun k => by split <;> simp) left
        rw [List.length_nil]
        omega
    · split <;> rfl
/-- a free block's goal meets none of those that are left -/
theorem free_not {left : List Int} {k o : Int} {g b : Int × Int} (hf : k ∉ left.filter (freeB bs (plF bs st) left)) (hk : k ∈ left) : ∃ o ∈ left, o ≠ k ∧ ¬ Sep (gAt (plF bs st) k) (gAt bs o) := by
  have : freeB bs (plF bs st) left k = false := by
    cases h : freeB bs (plF bs st) left k with
    | false => rfl
    | true => exact absurd (List.mem_filter.mpr ⟨hk, h⟩) hf
  unfold freeB at this
  rw [decide_eq_false_iff_not] at this
  cases hb : blkF bs (plF bs st) left k with
  | nil => rw [hb] at this; exact absurd rfl this
  | cons o r =>
    have ho : o ∈ blkF bs (plF bs st) left k := by rw [hb]; exact List.mem_cons_self
    obtain ⟨h1, h2⟩ := List.mem_filter.mp ho
    rw [Bool.and_eq_true] at h2
    refine ⟨o, h1, by simpa using h2.1, fun s => ?_⟩
    rw [mtB_sep.mpr s] at h2
    exact absurd h2.2 (by decide)
theorem free_of {left : List Int} {k : Int} (hk : k ∈ left) (h : ∀ o ∈ left, o ≠ k → Sep (gAt (plF bs st) k) (gAt bs o)) : k ∈ left.filter (freeB bs (plF bs st) left) := by
  refine List.mem_filter.mpr ⟨hk, ?_⟩
  unfold freeB
  have : blkF bs (plF bs st) left k = [] := by
    refine List.filter_eq_nil_iff.mpr fun o ho => ?_
    intro c
    rw [Bool.and_eq_true] at c
    have ne : o ≠ k := by simpa using c.1
    rw [mtB_sep.mpr (h o ho ne)] at c
    exact absurd c.2 (by decide)
  rw [this]
  rfl
theorem ring_stuck (hs : st.length = bs.length) (gdis : Dis (plF bs st)) {os : List Int} (h1 : ∀ k ∈ os, k ∈ mvF bs st) (h5 : ∀ k ∈ mvF bs st, k ∉ os → ¬ CanP (stF (plF bs st) bs os) k.toNat (gAt (plF bs st) k)) : ∀ (t : Nat) (k : Int), k ∈ mvF bs st → k ∉ os → k ∈ ringF bs (plF bs st) (mvF bs st) t
  | 0, k, hk, _ => hk
  | t + 1, k, hk, hno => by
    have gl : (plF bs st).length = bs.length := plF_len hs
    have ih := ring_stuck hs gdis h1 h5 t
    have hin := ih k hk hno
    refine List.mem_filter.mpr ⟨hin, ?_⟩
    rw [Bool.not_eq_true', decide_eq_false_iff_not]
    intro hfree
    have hf := (List.mem_filter.mp hfree).2
    refine h5 k hk hno ?_
    obtain ⟨i, rfl, hi⟩ := mv_lt hk
    obtain ⟨g, eg⟩ := get_of_lt (xs := plF bs st) (i := i) (by omega)
    rw [gAt_of eg, Int.toNat_natCast]
    intro j y ne hy
    rw [stF_get gl os (sub_rng h1)] at hy
    by_cases c : (j : Int) ∈ os
    · rw [if_pos c] at hy
      exact gdis i j g y (fun z => ne z.symm) eg hy
    · rw [if_neg c] at hy
      by_cases c2 : (j : Int) ∈ mvF bs st
      · have hj := ih (j : Int) c2 c
        unfold freeB at hf
        rw [decide_eq_true_eq] at hf
        have hb : blkF bs (plF bs st) (ringF bs (plF bs st) (mvF bs st) t) (i : Int) = [] := List.length_eq_zero_iff.mp (by omega)
        have := List.filter_eq_nil_iff.mp hb (j : Int) hj
        rw [gAt_of eg, gAt_of hy] at this
        have ne2 : ¬ ((j : Int) = (i : Int)) := by omega
        exact mtB_sep.mp (by simpa [ne2] using this)
      · rw [← mv_not hs c2] at hy
        exact gdis i j g y (fun z => ne z.symm) eg hy
theorem ring_full (hs : st.length = bs.length) {os : List Int} (hp : os.Perm (mvF bs st)) (hsafe : SafeO (plF bs st) bs os) : ∀ t, t ≤ os.length → ∀ (i : Nat) (k : Int), i < t → os[i]? = some k → k ∉ ringF bs (plF bs st) (mvF bs st) t
  | 0, _, i, k, hi, _ => absurd hi (Nat.not_lt_zero i)
  | t + 1, h, i, k, hi, hk => by
    have gl : (plF bs st).length = bs.length := plF_len hs
    have ih := ring_full hs hp hsafe t (by omega)
    have nd : os.Nodup := (hp.nodup_iff).mpr (mv_nodup bs st)
    by_cases c : i < t
    · exact fun z => ih i k c hk (List.mem_filter.mp z).1
    · have e : i = t := by omega
      subst e
      intro z
      obtain ⟨hin, hnf⟩ := List.mem_filter.mp z
      rw [Bool.not_eq_true', decide_eq_false_iff_not] at hnf
      refine hnf (free_of hin fun o ho ne => ?_)
      have hoW := ring_sub bs (plF bs st) (mvF bs st) i o ho
      obtain ⟨j, hj⟩ := List.mem_iff_getElem?.mp (hp.mem_iff.mpr hoW)
      have hji : i < j := by
        obtain c2 | c2 | c2 := Nat.lt_trichotomy i j
        · exact c2
        · subst c2
          rw [hk] at hj
          exact absurd (Option.some.inj hj).symm ne
        · exact absurd ho (ih j o c2 hj)
      have hc := hsafe i k hk
      obtain ⟨q, rfl, hq⟩ := mv_lt hoW
      obtain ⟨b, eb⟩ := get_of_lt hq
      have hkW := hp.mem_iff.mp (List.mem_of_getElem? hk)
      obtain ⟨p, rfl, hp'⟩ := mv_lt hkW
      rw [gAt_of eb]
      rw [Int.toNat_natCast] at hc
      refine hc q b (by omega) ?_
      rw [stF_get gl _ (sub_rng fun y hy => hp.mem_iff.mp (List.mem_of_mem_take hy)), if_neg, eb]
      intro hin2
      obtain ⟨j2, hj2⟩ := List.mem_iff_getElem?.mp hin2
      have hj2' := lt_of_get hj2
      rw [List.length_take] at hj2'
      rw [List.getElem?_take_of_lt (by omega)] at hj2
      have := nodup_get nd hj2 hj
      omega
end
section
variable {size : Int} {bs : List (Int × Int)} {st : List Int}
theorem goals_list (hl : bs.length ≤ 100) (hs : st.length = bs.length) {f : Int → Option (Option (Int × Int))} (hf : ∀ y, f y = (atI st y).bind fun t => (atI bs y).bind fun t2 => some (some (t, t2.2))) : colL f (rngL 0 bs.length) = some (plF bs st) := by
  rw [colL_map (g := fun k => (st.getD k.toNat 0, (bs.getD k.toNat (0, 0)).2)) (by rw [rngL_len]; omega) fun y hy => ?_]
  · congr 1
    refine List.ext_getElem? fun i => ?_
    rw [List.getElem?_map]
    by_cases c : i < bs.length
    · obtain ⟨b, hb⟩ := get_of_lt c
      obtain ⟨s, es⟩ := get_of_lt (xs := st) (i := i) (by omega)
      rw [plF_get hb es, rngL_get c]
      show some (st.getD ((0 : Int) + (i : Int)).toNat 0, (bs.getD ((0 : Int) + (i : Int)).toNat (0, 0)).2) = _
      rw [show ((0 : Int) + (i : Int)).toNat = i by omega, List.getD_eq_getElem?_getD, List.getD_eq_getElem?_getD, hb, es]
      rfl
    · rw [List.getElem?_eq_none_iff.mpr (by rw [rngL_len]; omega), List.getElem?_eq_none_iff.mpr (by rw [plF_len hs]; omega)]
      rfl
  · have := rngL_mem.mp hy
    obtain ⟨i, rfl⟩ : ∃ i : Nat, y = i := ⟨y.toNat, by omega⟩
    obtain ⟨b, hb⟩ := get_of_lt (xs := bs) (i := i) (by omega)
    obtain ⟨s, es⟩ := get_of_lt (xs := st) (i := i) (by omega)
    rw [hf, at_ok hb, at_ok es, Option.bind_some, Option.bind_some, Int.toNat_natCast, List.getD_eq_getElem?_getD, List.getD_eq_getElem?_getD, hb, es]
    rfl
end
end
end Pf

namespace Pf
open PySem L2
local macro_rules | `(tactic| walk_at "rd1") => `(tactic| first
  | with_reducible refine r_seqA ?_
  | with_reducible refine r_seqD ?_
  | with_reducible refine r_seqF ?_
  | with_reducible refine r_seqN ?_
  | with_reducible refine r_asg ?_
  | with_reducible refine r_drop ?_
  | with_reducible refine r_ret ?_
  | with_reducible refine r_ifS ?_
  | ((with_reducible refine r_next ?_); try dsimp only)
  | ((with_reducible refine r_name ?_); try dsimp only [List.set_cons_succ, List.set_cons_zero, wipe])
  | ((with_reducible refine' r_var ?rdh ?_); (case rdh => rfl))
  | with_reducible refine r_c ?_
  | with_reducible refine r_op ?_
  | with_reducible refine r_un ?_
  | with_reducible refine r_I0 ?_
  | ((with_reducible refine r_I ?_ ?_); (· first | decide | exact Or.inl (by decide) | exact Or.inr (by decide) | (show _ ∧ _; constructor <;> decide) | (show (0:Int) < _; omega) | (show CDiv _ _; unfold CDiv; omega) ))
  | with_reducible refine r_U ?_
  | with_reducible refine r_eqI ?_
  | with_reducible refine r_neI ?_
  | with_reducible refine r_eqB ?_
  | with_reducible refine r_neB ?_
  | with_reducible refine r_test ?_
  | with_reducible refine r_B ?_
  | with_reducible refine r_bl ?_
  | with_reducible refine r_bl2 ?_
  | with_reducible refine r_yes ?_
  | with_reducible refine r_wipe (by rfl) ?_
  | with_reducible refine r_rfl ?_
  | ((with_reducible refine' r_eqA ?rdh ?_); (case rdh => rfl))
  | with_reducible refine r_and ?_
  | with_reducible refine r_or ?_
  | with_reducible refine r_not ?_
  | with_reducible refine r_andV ?_
  | with_reducible refine r_orV ?_
  | with_reducible refine r_notV ?_
  | with_reducible refine r_ifE ?_
  | with_reducible refine r_nil ?_
  | with_reducible refine r_cons ?_
  | with_reducible refine r_tup ?_
  | with_reducible refine r_lst ?_
  | with_reducible refine r_CB ?_
  | with_reducible refine r_call ?_
  | with_reducible refine r_bm ?_
  | with_reducible refine r_bm0 ?_
  | with_reducible refine r_int ?_
  | with_reducible refine r_i2 ?_
  | with_reducible refine r_i1 ?_
  | with_reducible refine r_gcons ?_
  | with_reducible refine r_gnil ?_
  | with_reducible refine r_gsub ?_
  | with_reducible refine iteT ?_
  | with_reducible refine iteF ?_
  | with_reducible refine ite_notT ?_
  | with_reducible refine ite_notF ?_
  | with_reducible refine r_isi_ib ?_
  | with_reducible refine r_isi_ii ?_
  | with_reducible refine r_isi_bb ?_
  | with_reducible refine r_isi_nb ?_
  | with_reducible refine r_isi_nt ?_
  | ((with_reducible refine' r_isi_ll ?rdh ?_); (case rdh => first | assumption | exact upd_same))
  | ((with_reducible refine' r_isi_tt ?rdh ?_); (case rdh => first | assumption | exact upd_same))
  | with_reducible refine r_sl ?_
  | with_reducible refine r_noPart ?_
  | with_reducible refine r_part ?_
  | with_reducible refine r_int1 ?_
  | with_reducible refine r_tru ?_
  | with_reducible refine r_ckw ?_
  | with_reducible refine r_lc ?_
  | with_reducible refine r_lc2 ?_
  | with_reducible refine r_forS ?_
  | with_reducible refine r_iR1 ?_
  | with_reducible refine r_iR2 ?_
  | with_reducible refine r_iL ?_
  | ((with_reducible refine' r_lenL ?rdh ?_); (case rdh => walk_at "sq"))
  | ((with_reducible refine' r_ixL ?rdh ?rda ?_); (case rdh => walk_at "sq"); (case rda => walk_at "at"))
  | ((with_reducible refine' r_ixT ?rdh ?rda ?_); (case rdh => walk_at "sq"); (case rda => walk_at "at")))
local macro_rules | `(tactic| walk_at "sq") => `(tactic| first
  | assumption
  | exact SqL.of (by assumption)
  | exact SqL.of upd_same
  | exact SqT.of (by assumption)
  | exact SqT.of upd_same)
local macro_rules | `(tactic| walk_at "sml") => `(tactic| (rw [sizeLine_eq]; simp))
local macro_rules | `(tactic| walk_at "at") => `(tactic| first | assumption | rfl)
local macro_rules | `(tactic| walk_at "rd") => `(tactic| repeat walk_at "rd1")
section
variable {w : World} {P : Program} {base : Heap} {K : PySem.W.Frag} {mg : Str → Option Value}
def lawM (bx0 : List Int × Nat) : Option Bool :=
  (law_drawM bx0 (12 : Int)).bind fun (t_364, bx_365) => bnd (((1 : Int) + t_364)) fun size_366 => (law_blocksM bx_365 size_366 (5 : Int)).bind fun (t_369, bx_370) => bnd (t_369) fun layout_371 => (law_startsM bx_370 size_366 layout_371).bind fun (t_374, bx_375) => bnd (t_374) fun starts_376 => (rng1 (layout_371.length : Int)).bind fun rg_379 => (colL (fun (y_380 : Int) => (atI starts_376 y_380).bind fun t_382 => (atI layout_371 y_380).bind fun t_384 => some (some (t_382, t_384.2))) rg_379).bind fun cs_381 => bnd (cs_381) fun goals_385 => (rng1 (layout_371.length : Int)).bind fun rg_388 => (colL (fun (y_389 : Int) => (atI starts_376 y_389).bind fun t_394 => (atI layout_371 y_389).bind fun t_396 => if (!decide (t_394 = t_396.1)) = true then some (some y_389) else some none) rg_388).bind fun cs_390 => bnd (cs_390) fun moving_397 => (schedule_movesM size_366 layout_371 starts_376).bind fun t_400 => bnd (t_400) fun actual_401 => (law_firstM layout_371 goals_385 moving_397).bind fun t_405 => if (!decide (actual_401 = t_405)) = true then (some false) else ((law_ringM layout_371 goals_385 moving_397).bind fun t_409 => some (decide (actual_401.isNone = t_409)))
theorem moved_list {bs : List (Int × Int)} {st : List Int} (hl : bs.length ≤ 100) (hs : st.length = bs.length) {f : Int → Option (Option Int)} (hf : ∀ y, f y = (atI st y).bind fun t => (atI bs y).bind fun t2 => if (!decide (t = t2.1)) = true then some (some y) else some none) : colL f (rngL 0 bs.length) = some (mvF bs st) := by
  refine colL_keep (by rw [rngL_len]; omega) fun y hy => ?_
  have := rngL_mem.mp hy
  obtain ⟨i, rfl⟩ : ∃ i : Nat, y = i := ⟨y.toNat, by omega⟩
  obtain ⟨b, hb⟩ := get_of_lt (xs := bs) (i := i) (by omega)
  obtain ⟨s, e⟩ := get_of_lt (xs := st) (i := i) (by omega)
  rw [hf, at_ok hb, at_ok e, Option.bind_some, Option.bind_some, Int.toNat_natCast, List.getD_eq_getElem?_getD, List.getD_eq_getElem?_getD, hb, e]
  simp only [Option.getD_some]
  split <;> rfl
theorem law_true (ds : List Int) : lawM (ds, 0) = some true := by
  unfold lawM
  obtain ⟨r, n, e1, h0, h1⟩ := drawF_ok (bx := (ds, 0)) (m := 12) (by decide)
  obtain ⟨bs, bx, e2, hv, hl⟩ := blocksM_ok (ds, n) (size := 1 + r) (most := 5) (by omega) (by decide) (by decide)
  obtain ⟨st, bx2, e3, hs, hdis, hins⟩ := law_startsM_ok bx hv (by omega)
  obtain ⟨res, e4, hres⟩ := schedM_ok (sz := 1 + r) hv.ins (by omega) hs hins
  have bins := hv.ins
  have gl : (plF bs st).length = bs.length := plF_len hs
  have e5 : rng1 (bs.length : Int) = some (rngL 0 bs.length) := by rw [rng1_ok (by omega), Int.toNat_natCast]
  refine bind_of e1 (bnd_of (bind_of e2 (bnd_of (bind_of e3 (bnd_of (bind_of e5 (bind_of (goals_list (by omega) hs fun y => rfl) (bnd_of (bind_of e5 (bind_of (moved_list (by omega) hs fun y => rfl) (bnd_of (bind_of e4 (bnd_of (bind_of (law_firstM_ok hs (by omega) bins hins) ?_))))))))))))))
  cases res with
  | none =>
    rw [rows_none hs bins hins hdis hres]
    refine else_of (by simp) (bind_of (law_ringM_ok hs (by omega)) (congrArg some ?_))
    obtain ⟨os, h1, h2, h3, h4, ⟨k, hk, hno⟩, h5⟩ := hres
    have := List.length_pos_of_mem (ring_stuck hs hdis h1 h5 (mvF bs st).length k hk hno)
    rw [decide_eq_true_eq, decide_eq_true (by omega)]
    rfl
  | some os =>
    obtain ⟨hp, hsafe, hleast⟩ := hres
    obtain ⟨tl, eh⟩ := rows_head hs bins hins hp hsafe hleast os.length (Nat.le_refl _)
    rw [hp.length_eq] at eh
    rw [eh]
    have et : os.take (mvF bs st).length = os := by rw [← hp.length_eq, List.take_length]
    rw [et]
    refine else_of (by simp) (bind_of (law_ringM_ok hs (by omega)) (congrArg some ?_))
    have : ringF bs (plF bs st) (mvF bs st) (mvF bs st).length = [] := by
      cases hR : ringF bs (plF bs st) (mvF bs st) (mvF bs st).length with
      | nil => rfl
      | cons k r =>
        exfalso
        have hk : k ∈ ringF bs (plF bs st) (mvF bs st) (mvF bs st).length := by rw [hR]; exact List.mem_cons_self
        obtain ⟨i, hi⟩ := List.mem_iff_getElem?.mp (hp.mem_iff.mpr (ring_sub _ _ _ _ k hk))
        have hlt := lt_of_get hi
        rw [hp.length_eq] at hlt
        exact ring_full hs hp hsafe _ (by rw [hp.length_eq]; exact Nat.le_refl _) i k hlt hi hk
    rw [this]
    rfl
end
end Pf

namespace Pf
open PySem L2
local macro_rules | `(tactic| walk_at "rd1") => `(tactic| first
  | with_reducible refine r_seqA ?_
  | with_reducible refine r_seqD ?_
  | with_reducible refine r_seqF ?_
  | with_reducible refine r_seqN ?_
  | with_reducible refine r_asg ?_
  | with_reducible refine r_drop ?_
  | with_reducible refine r_ret ?_
  | with_reducible refine r_ifS ?_
  | ((with_reducible refine r_next ?_); try dsimp only)
  | ((with_reducible refine r_name ?_); try dsimp only [List.set_cons_succ, List.set_cons_zero, wipe])
  | ((with_reducible refine' r_var ?rdh ?_); (case rdh => rfl))
  | with_reducible refine r_c ?_
  | with_reducible refine r_op ?_
  | with_reducible refine r_un ?_
  | with_reducible refine r_I0 ?_
  | ((with_reducible refine r_I ?_ ?_); (· first | decide | exact Or.inl (by decide) | exact Or.inr (by decide) | (show _ ∧ _; constructor <;> decide) | (show (0:Int) < _; omega) | (show CDiv _ _; unfold CDiv; omega) ))
  | with_reducible refine r_U ?_
  | with_reducible refine r_eqI ?_
  | with_reducible refine r_neI ?_
  | with_reducible refine r_eqB ?_
  | with_reducible refine r_neB ?_
  | with_reducible refine r_test ?_
  | with_reducible refine r_B ?_
  | with_reducible refine r_bl ?_
  | with_reducible refine r_bl2 ?_
  | with_reducible refine r_yes ?_
  | with_reducible refine r_wipe (by rfl) ?_
  | with_reducible refine r_rfl ?_
  | ((with_reducible refine' r_eqA ?rdh ?_); (case rdh => rfl))
  | with_reducible refine r_and ?_
  | with_reducible refine r_or ?_
  | with_reducible refine r_not ?_
  | with_reducible refine r_andV ?_
  | with_reducible refine r_orV ?_
  | with_reducible refine r_notV ?_
  | with_reducible refine r_ifE ?_
  | with_reducible refine r_nil ?_
  | with_reducible refine r_cons ?_
  | with_reducible refine r_tup ?_
  | with_reducible refine r_lst ?_
  | with_reducible refine r_CB ?_
  | with_reducible refine r_call ?_
  | with_reducible refine r_bm ?_
  | with_reducible refine r_bm0 ?_
  | with_reducible refine r_int ?_
  | with_reducible refine r_i2 ?_
  | with_reducible refine r_i1 ?_
  | with_reducible refine r_gcons ?_
  | with_reducible refine r_gnil ?_
  | with_reducible refine r_gsub ?_
  | with_reducible refine iteT ?_
  | with_reducible refine iteF ?_
  | with_reducible refine ite_notT ?_
  | with_reducible refine ite_notF ?_
  | with_reducible refine r_isi_ib ?_
  | with_reducible refine r_isi_ii ?_
  | with_reducible refine r_isi_bb ?_
  | with_reducible refine r_isi_nb ?_
  | with_reducible refine r_isi_nt ?_
  | ((with_reducible refine' r_isi_ll ?rdh ?_); (case rdh => first | assumption | exact upd_same))
  | ((with_reducible refine' r_isi_tt ?rdh ?_); (case rdh => first | assumption | exact upd_same))
  | with_reducible refine r_sl ?_
  | with_reducible refine r_noPart ?_
  | with_reducible refine r_part ?_
  | with_reducible refine r_int1 ?_
  | with_reducible refine r_tru ?_
  | with_reducible refine r_ckw ?_
  | with_reducible refine r_lc ?_
  | with_reducible refine r_lc2 ?_
  | with_reducible refine r_forS ?_
  | with_reducible refine r_iR1 ?_
  | with_reducible refine r_iR2 ?_
  | with_reducible refine r_iL ?_
  | ((with_reducible refine' r_lenL ?rdh ?_); (case rdh => walk_at "sq"))
  | ((with_reducible refine' r_ixL ?rdh ?rda ?_); (case rdh => walk_at "sq"); (case rda => walk_at "at"))
  | ((with_reducible refine' r_ixT ?rdh ?rda ?_); (case rdh => walk_at "sq"); (case rda => walk_at "at")))
local macro_rules | `(tactic| walk_at "sq") => `(tactic| first
  | assumption
  | exact SqL.of (by assumption)
  | exact SqL.of upd_same
  | exact SqT.of (by assumption)
  | exact SqT.of upd_same)
local macro_rules | `(tactic| walk_at "sml") => `(tactic| (rw [sizeLine_eq]; simp))
local macro_rules | `(tactic| walk_at "at") => `(tactic| first | assumption | rfl)
local macro_rules | `(tactic| walk_at "rd") => `(tactic| repeat walk_at "rd1")
section
variable {w : World} {P : Program} {base : Heap} {K : PySem.W.Frag} {mg : Str → Option Value}
def sp_law (K : PySem.W.Frag) : Sp := fun vs H Q _ => ∃ (a : Addr) (ns : List Int), vs = [.ref a] ∧ SqL K H a (ns.map V.int) ∧ ns.length ≤ 63 ∧ ∀ H', Q (.bl true) H'
theorem mk_law {f f1 f2 f3 f4 f5 f6 f7 : Addr} {fd fd1 fd2 fd3 fd4 fd5 fd6 fd7 : FuncData} (T : Txt mg) (F : Fun K "law" "law" s_law f fd)
    (C_law_digits : Cal P w K mg base "_law_digits" 2 f1 fd1 ["script", "first", "last"] (sp_digits K))
    (C_law_draw : Cal P w K mg base "_law_draw" 1 f2 fd2 ["box", "many"] (spB (fun bx (i : Int × Unit) => law_drawM bx i.1)))
    (C_law_blocks : Cal P w K mg base "_law_blocks" 2 f3 fd3 ["box", "size", "most"] (spB (fun bx (i : Int × Int × Unit) => law_blocksM bx i.1 i.2.1)))
    (C_law_starts : Cal P w K mg base "_law_starts" 3 f4 fd4 ["box", "size", "layout"] (spB (fun bx (i : Int × (List (Int × Int)) × Unit) => law_startsM bx i.1 i.2.1)))
    (C_law_first : Cal P w K mg base "_law_first" 3 f5 fd5 ["layout", "goals", "moving"] (spP (fun (i : (List (Int × Int)) × (List (Int × Int)) × (List Int) × Unit) => law_firstM i.1 i.2.1 i.2.2.1)))
    (C_law_ring : Cal P w K mg base "_law_ring" 2 f6 fd6 ["layout", "goals", "moving"] (spP (fun (i : (List (Int × Int)) × (List (Int × Int)) × (List Int) × Unit) => law_ringM i.1 i.2.1 i.2.2.1)))
    (C_schedule_moves : Cal P w K mg base "schedule_moves" 3 f7 fd7 ["size", "layout", "starts"] (spP (fun (i : Int × (List (Int × Int)) × (List Int) × Unit) => schedule_movesM i.1 i.2.1 i.2.2.1))) : FnOk P w K mg base CX0 4 f fd ["script"] (sp_law K) := by
  refine F.ok sc_law (fun vs H Q E h => ?_) (fun cdv A outer s H vs Q E hr h => ?_)
  · obtain ⟨a, ns, rfl, _⟩ := h
    rfl
  rcases h with ⟨a, ns, rfl, hS, h63, Q⟩
  refine ⟨_, (pss_cons (ps_set (i := 1) sc_law.nd rfl (Or.inl rfl) (pe_lst (pa_cons (pe_call C_law_digits.ok (hr.mono (by first | decide | omega)) rfl C_law_digits.mg C_law_digits.kp C_law_digits.b .nil pass0 (pa_cons (pv 0) (pa_cons pe_int (pa_cons pe_int pa_nil)))) (pa_cons pe_int pa_nil)))) (pss_cons (ps_set (i := 2) sc_law.nd rfl (Or.inl rfl) (pe_op op_add pe_int (pe_call C_law_draw.ok (hr.mono (by first | decide | omega)) rfl C_law_draw.mg C_law_draw.kp C_law_draw.b .nil pass0 (pa_cons (pv 1) (pa_cons pe_int pa_nil))))) (pss_cons (ps_set (i := 3) sc_law.nd rfl (Or.inr rfl) (pe_call C_law_blocks.ok (hr.mono (by first | decide | omega)) rfl C_law_blocks.mg C_law_blocks.kp C_law_blocks.b .nil pass0 (pa_cons (pv 1) (pa_cons (pv 2) (pa_cons pe_int pa_nil))))) (pss_cons (ps_set (i := 4) sc_law.nd rfl (Or.inr rfl) (pe_call C_law_starts.ok (hr.mono (by first | decide | omega)) rfl C_law_starts.mg C_law_starts.kp C_law_starts.b .nil pass0 (pa_cons (pv 1) (pa_cons (pv 2) (pa_cons (pv 3) pa_nil))))) (pss_cons (show PS _ _ (tAsg (tLc _ _ _ _ [6]) _) from ps_setLc (i := 5) (own := [("k", 6)]) (g := gName 6) (tt := tYes) rfl sc_law.nd rfl rfl (sw_true rfl rfl rfl (by decide +kernel)) (pi_range1 rfl T.range (pa_cons (pe_callB (show CallR _ _ (fun xs H Q => ∃ p ys, xs = [V.ref p] ∧ (SqL K H p ys ∨ SqT K H p ys) ∧ Q (.int ys.length) H) from call_len_seq) (by rfl) T.len PySem.boot_len (pa_cons (pv 3) pa_nil)) pa_nil)) (blkOk_by (own := [("k", 6)]) (N := ["script", "box", "size", "layout", "starts", "goals", "k", "moving", "actual"]) (sc := defScope s_law) (by decide +kernel)) (fun _ _ _ _ _ => (pg_name (i := 6) sc_law.nd rfl (Or.inl rfl))) (fun _ _ _ _ _ => pts_nil) (fun _ _ _ _ _ => (pe_tup (pa_cons (pe_ix (show IxR _ (rIxL K) from ix_list) (pv 4) (pv 6) (fun _ _ => rfl)) (pa_cons (pe_ix (show IxR _ (rIxT K) from ix_tup) (pe_ix (show IxR _ (rIxL K) from ix_list) (pv 3) (pv 6) (fun _ _ => rfl)) pe_int (fun _ _ => rfl)) pa_nil))))) (pss_cons (show PS _ _ (tAsg (tLc _ _ _ _ [6]) _) from ps_setLc (i := 7) (own := [("k", 6)]) (g := gName 6) rfl sc_law.nd rfl rfl (sw_true rfl rfl rfl (by decide +kernel)) (pi_range1 rfl T.range (pa_cons (pe_callB (show CallR _ _ (fun xs H Q => ∃ p ys, xs = [V.ref p] ∧ (SqL K H p ys ∨ SqT K H p ys) ∧ Q (.int ys.length) H) from call_len_seq) (by rfl) T.len PySem.boot_len (pa_cons (pv 3) pa_nil)) pa_nil)) (blkOk_by (own := [("k", 6)]) (N := ["script", "box", "size", "layout", "starts", "goals", "k", "moving", "actual"]) (sc := defScope s_law) (by decide +kernel)) (fun _ _ _ _ _ => (pg_name (i := 6) sc_law.nd rfl (Or.inl rfl))) (fun _ _ _ _ _ => (pts_one (pt_cmpR op_ne (pe_ix (show IxR _ (rIxL K) from ix_list) (pv 4) (pv 6) (fun _ _ => rfl)) (pe_ix (show IxR _ (rIxT K) from ix_tup) (pe_ix (show IxR _ (rIxL K) from ix_list) (pv 3) (pv 6) (fun _ _ => rfl)) pe_int (fun _ _ => rfl)) (nomark _)))) (fun _ _ _ _ _ => (pv 6))) (pss_cons (ps_set (i := 8) sc_law.nd rfl (Or.inl rfl) (pe_call C_schedule_moves.ok (hr.mono (by first | decide | omega)) rfl C_schedule_moves.mg C_schedule_moves.kp C_schedule_moves.b .nil pass0 (pa_cons (pv 2) (pa_cons (pv 3) (pa_cons (pv 4) pa_nil))))) (pss_cons (ps_if (pt_cmpR (show OpR _ _ (rNeD K) from op_neD hr.units) (pv 8) (pe_call C_law_first.ok (hr.mono (by first | decide | omega)) rfl C_law_first.mg C_law_first.kp C_law_first.b .nil pass0 (pa_cons (pv 3) (pa_cons (pv 5) (pa_cons (pv 7) pa_nil)))) (nomark _))
      (pss_one (ps_ret pe_bl))
      pss_nil) (pss_one (ps_ret (pe_cmpR op_eq (pe_cmpR op_isN (pv 8) pe_non (nomark _)) (pe_call C_law_ring.ok (hr.mono (by first | decide | omega)) rfl C_law_ring.mg C_law_ring.kp C_law_ring.b .nil pass0 (pa_cons (pv 3) (pa_cons (pv 5) (pa_cons (pv 7) pa_nil)))) (nomark _)))))))))))), ?_⟩
  try dsimp only [cxOf, Cx.nox, Cx.wish]
  rw [show start ["script", "box", "size", "layout", "starts", "goals", "k", "moving", "actual"] [V.ref a] = [some (V.ref a), none, none, none, none, none, none, none, none] from rfl]
  walk_at "rd"
  refine ⟨a, ns, 0, 63, rfl, hS, by decide, by decide, fun d ds H1 nd s1 hd hdl => ?_⟩
  walk_at "rd"
  refine ⟨by walk_at "sml", fun b nb => ?_⟩
  refine upd_new nb fun H2 hb s2 => ?_
  have ndb : d ≠ b := ne_of_none hd nb
  generalize hms : [b] = ms
  have hbm : b ∈ ms := by rw [← hms]; exact List.mem_cons_self
  have hq : Bxs b (ds, 0) ms H2 := ⟨d, hb, ndb, by rw [← hms]; simp [ndb], s2 _ _ hd⟩
  have hB0 : ∀ a ∈ [b], a ∈ ms := fun a h => by rw [List.mem_singleton.mp h]; exact hbm
  have W : Wd [b] ms H2 := ⟨hB0, fun c hc => by
    rw [← hms] at hc
    rw [List.mem_singleton.mp hc, hb]
    exact fun z => by cases z⟩
  obtain ⟨bx0, ebx⟩ : ∃ z : List Int × Nat, z = (ds, 0) := ⟨_, rfl⟩
  rw [← ebx] at hq
  have hm : lawM bx0 = some true := by rw [ebx]; exact law_true ds
  unfold lawM at hm
  refine r_name ?_
  dsimp only [List.set_cons_succ, List.set_cons_zero]
  obtain ⟨⟨t_364, bx_365⟩, e_t_364, hm⟩ := bind_inv hm
  dsimp only at hm
  obtain ⟨size_366, e_size_366, hm⟩ := bnd_inv hm
  refine r_seqA ?_
  refine Ex.go W (ex_opI0 (z := ((1 : Int) + t_364)) (fun _ _ => rfl) (ex_int 1) (ex_callB (i := ((12 : Int), ())) W (v := 1) rfl (ea_cons W (ex_int 12) ea_nil) e_t_364)) hq fun v_368 H_367 bb hq W M rv => ?_
  rw [← e_size_366] at rv
  obtain rfl : v_368 = V.int size_366 := rv
  refine (bnd_name : Bnd _ _ _ _ _) _ ?_
  dsimp only [List.set_cons_succ, List.set_cons_zero]
  obtain ⟨⟨t_369, bx_370⟩, e_t_369, hm⟩ := bind_inv hm
  dsimp only at hm
  obtain ⟨layout_371, e_layout_371, hm⟩ := bnd_inv hm
  refine r_seqA ?_
  refine Ex.go W (ex_callB (i := (size_366, (5 : Int), ())) W (v := 1) rfl (ea_cons W (ex_vi rfl) (ea_cons W (ex_int 5) ea_nil)) e_t_369) hq fun v_373 H_372 bb hq W M rv => ?_
  rw [← e_layout_371] at rv
  have f_layout_371 := rv
  refine (bnd_name : Bnd _ _ _ _ _) _ ?_
  dsimp only [List.set_cons_succ, List.set_cons_zero]
  obtain ⟨⟨t_374, bx_375⟩, e_t_374, hm⟩ := bind_inv hm
  dsimp only at hm
  obtain ⟨starts_376, e_starts_376, hm⟩ := bnd_inv hm
  refine r_seqA ?_
  refine Ex.go W (ex_callB (i := (size_366, layout_371, ())) W (v := 1) rfl (ea_cons W (ex_vi rfl) (ea_cons W (ex_var W rfl f_layout_371) ea_nil)) e_t_374) hq fun v_378 H_377 bb hq W M rv => ?_
  rw [← e_starts_376] at rv
  have f_layout_371 := Rp.mv f_layout_371 M
  have f_starts_376 := rv
  refine (bnd_name : Bnd _ _ _ _ _) _ ?_
  dsimp only [List.set_cons_succ, List.set_cons_zero]
  obtain ⟨rg_379, e_rg_379, hm⟩ := bind_inv hm
  obtain ⟨cs_381, e_cs_381, hm⟩ := bind_inv hm
  obtain ⟨goals_385, e_goals_385, hm⟩ := bnd_inv hm
  refine r_seqA ?_
  refine Ex.go W (En.ex sb_bxs (en_lcL (f := fun (y_380 : Int) => (atI starts_376 y_380).bind fun t_382 => (atI layout_371 y_380).bind fun t_384 => some (some (t_382, t_384.2))) W sb_bxs (Ei.ej (ei_rng1 (ea_cons W (ex_len (el_of W.hB (ex_var W rfl f_layout_371))) ea_nil) e_rg_379)) e_cs_381 (fun ms' H' y_380 v r' L hq' rv hm => by
          have W := L.W
          have f_layout_371 := Rp.mv f_layout_371 L.M
          have f_starts_376 := Rp.mv f_starts_376 L.M
          obtain rfl : v = V.int y_380 := rv
          obtain ⟨t_382, e_t_382, hm⟩ := bind_inv hm
          obtain ⟨t_384, e_t_384, hm⟩ := bind_inv hm
          cases hm
          exact ⟨_, bnd_name, rfl, true, et_yes, fun h => (by cases h), fun _ => ⟨_, rfl, (ex_tup2 W sb_bxs (u := (t_382, t_384.2)) (ea_cons W (ex_ixL (el_of W.hB (ex_var W rfl f_starts_376)) (ex_vi rfl) W e_t_382) (ea_cons W (ex_snd (u := t_384) (ex_ixL (el_of W.hB (ex_var W rfl f_layout_371)) (ex_vi rfl) W e_t_384)) ea_nil)))⟩⟩))) hq fun v_387 H_386 bb hq W M rv => ?_
  rw [← e_goals_385] at rv
  have f_layout_371 := Rp.mv f_layout_371 M
  have f_starts_376 := Rp.mv f_starts_376 M
  have f_goals_385 := rv
  refine (bnd_name : Bnd _ _ _ _ _) _ ?_
  dsimp only [List.set_cons_succ, List.set_cons_zero]
  obtain ⟨rg_388, e_rg_388, hm⟩ := bind_inv hm
  obtain ⟨cs_390, e_cs_390, hm⟩ := bind_inv hm
  obtain ⟨moving_397, e_moving_397, hm⟩ := bnd_inv hm
  refine r_seqA ?_
  refine Ex.go W (En.ex sb_bxs (en_lcL (f := fun (y_389 : Int) => (atI starts_376 y_389).bind fun t_394 => (atI layout_371 y_389).bind fun t_396 => if (!decide (t_394 = t_396.1)) = true then some (some y_389) else some none) W sb_bxs (Ei.ej (ei_rng1 (ea_cons W (ex_len (el_of W.hB (ex_var W rfl f_layout_371))) ea_nil) e_rg_388)) e_cs_390 (fun ms' H' y_389 v r' L hq' rv hm => by
          have W := L.W
          have f_layout_371 := Rp.mv f_layout_371 L.M
          have f_starts_376 := Rp.mv f_starts_376 L.M
          have f_goals_385 := Rp.mv f_goals_385 L.M
          obtain rfl : v = V.int y_389 := rv
          obtain ⟨t_394, e_t_394, hm⟩ := bind_inv hm
          obtain ⟨t_396, e_t_396, hm⟩ := bind_inv hm
          refine ⟨_, bnd_name, rfl, _, (et_test (ex_neI (ex_ixL (el_of W.hB (ex_var W rfl f_starts_376)) (ex_vi rfl) W e_t_394) (ex_fst (u := t_396) (ex_ixL (el_of W.hB (ex_var W rfl f_layout_371)) (ex_vi rfl) W e_t_396)))), fun c => ?_, fun c => ?_⟩
          · have hm := (if_neg (by rw [c]; decide)).symm.trans hm
            cases hm
            rfl
          · have hm := (if_pos c).symm.trans hm
            cases hm
            exact ⟨_, rfl, (ex_vi rfl)⟩))) hq fun v_399 H_398 bb hq W M rv => ?_
  rw [← e_moving_397] at rv
  have f_layout_371 := Rp.mv f_layout_371 M
  have f_starts_376 := Rp.mv f_starts_376 M
  have f_goals_385 := Rp.mv f_goals_385 M
  have f_moving_397 := rv
  refine (bnd_name : Bnd _ _ _ _ _) _ ?_
  dsimp only [List.set_cons_succ, List.set_cons_zero]
  obtain ⟨t_400, e_t_400, hm⟩ := bind_inv hm
  obtain ⟨actual_401, e_actual_401, hm⟩ := bnd_inv hm
  refine r_seqA ?_
  refine Ex.go W (ex_call (i := (size_366, layout_371, starts_376, ())) W sb_bxs (ea_cons W (ex_vi rfl) (ea_cons W (ex_var W rfl f_layout_371) (ea_cons W (ex_var W rfl f_starts_376) ea_nil))) e_t_400) hq fun v_403 H_402 bb hq W M rv => ?_
  rw [← e_actual_401] at rv
  have f_layout_371 := Rp.mv f_layout_371 M
  have f_starts_376 := Rp.mv f_starts_376 M
  have f_goals_385 := Rp.mv f_goals_385 M
  have f_moving_397 := Rp.mv f_moving_397 M
  have f_actual_401 := rv
  refine (bnd_name : Bnd _ _ _ _ _) _ ?_
  dsimp only [List.set_cons_succ, List.set_cons_zero]
  obtain ⟨t_405, e_t_405, hm⟩ := bind_inv hm
  refine r_seq ?_
  refine r_ifS ?_
  refine Et.go W (et_test (ex_neO W (by decide) (ex_var W rfl f_actual_401) (ex_call (i := (layout_371, goals_385, moving_397, ())) W sb_bxs (ea_cons W (ex_var W rfl f_layout_371) (ea_cons W (ex_var W rfl f_goals_385) (ea_cons W (ex_var W rfl f_moving_397) ea_nil))) e_t_405))) hq fun H_406 bb hq W M => ?_
  have f_layout_371 := Rp.mv f_layout_371 M
  have f_starts_376 := Rp.mv f_starts_376 M
  have f_goals_385 := Rp.mv f_goals_385 M
  have f_moving_397 := Rp.mv f_moving_397 M
  have f_actual_401 := Rp.mv f_actual_401 M
  refine ite_by (fun hc => ?_) (fun hc => ?_)
  · have hm := (if_pos hc).symm.trans hm
    have hm := Option.some.inj hm
    refine r_ret' ?_
    refine Ex.go W (ex_bl false) hq fun v H_407 bb hq W M rv => ?_
    have rv : v = V.bl (false) := rv
    rw [show (false) = true from hm] at rv
    rw [rv]
    exact Q _
  · have hm := (if_neg hc).symm.trans hm
    refine r_next ?_
    try dsimp only
    obtain ⟨t_409, e_t_409, hm⟩ := bind_inv hm
    have hm := Option.some.inj hm
    refine r_ret' ?_
    refine Ex.go W (ex_eqB (ex_isN (ex_var W rfl f_actual_401)) (ex_call (i := (layout_371, goals_385, moving_397, ())) W sb_bxs (ea_cons W (ex_var W rfl f_layout_371) (ea_cons W (ex_var W rfl f_goals_385) (ea_cons W (ex_var W rfl f_moving_397) ea_nil))) e_t_409)) hq fun v H_410 bb hq W M rv => ?_
    have rv : v = V.bl ((decide (actual_401.isNone = t_409))) := rv
    rw [show ((decide (actual_401.isNone = t_409))) = true from hm] at rv
    rw [rv]
    exact Q _
end
theorem all_mk {l : PySem.W.OpenLaw} {w : World} {K : PySem.W.Frag} {h : Heap} {mg : Str → Option Value} {fa f1 f2 f3 f4 f5 f6 f7 f8 f9 f10 f11 f12 f13 f14 f15 : Addr} (X : K.In h) (G : h.Ns mainGlobals mg) (hfa : mg "law" = some (.ref fa))
    {od1 an1 od2 an2 od3 an3 od4 an4 od5 an5 od6 an6 od7 an7 od8 an8 od9 an9 od10 an10 od11 an11 od12 an12 od13 an13 od14 an14 od15 an15 : Option Addr} {sl1 sl2 sl3 sl4 sl5 sl6 sl7 sl8 sl9 sl10 sl11 sl12 sl13 sl14 sl15 : Array (Option Value)} {oc1 kV1 dc1 pm1 ct1 cd1 oc2 kV2 dc2 pm2 ct2 cd2 oc3 kV3 dc3 pm3 ct3 cd3 oc4 kV4 dc4 pm4 ct4 cd4 oc5 kV5 dc5 pm5 ct5 cd5 oc6 kV6 dc6 pm6 ct6 cd6 oc7 kV7 dc7 pm7 ct7 cd7 oc8 kV8 dc8 pm8 ct8 cd8 oc9 kV9 dc9 pm9 ct9 cd9 oc10 kV10 dc10 pm10 ct10 cd10 oc11 kV11 dc11 pm11 ct11 cd11 oc12 kV12 dc12 pm12 ct12 cd12 oc13 kV13 dc13 pm13 ct13 cd13 oc14 kV14 dc14 pm14 ct14 cd14 oc15 kV15 dc15 pm15 ct15 cd15 : Value}
    (a1 : PySem.W.nsIn K mainGlobals "_law_cell" = some (some (.ref f1))) (l1 : K.lookup f1 = some ⟨oc1, od1, .func (PySem.W.fnOf "_law_cell" "_law_cell" (defArgs s_law_cell) (defBody s_law_cell) (defScope s_law_cell) .none kV1 dc1 pm1 an1 cd1 ct1), sl1⟩) (c1 : PySem.W.codeIn K cd1 "_law_cell" = true) (k1 : PySem.W.keepIn K (.ref f1) = true)
    (a2 : PySem.W.nsIn K mainGlobals "_law_digits" = some (some (.ref f2))) (l2 : K.lookup f2 = some ⟨oc2, od2, .func (PySem.W.fnOf "_law_digits" "_law_digits" (defArgs s_law_digits) (defBody s_law_digits) (defScope s_law_digits) .none kV2 dc2 pm2 an2 cd2 ct2), sl2⟩) (c2 : PySem.W.codeIn K cd2 "_law_digits" = true) (k2 : PySem.W.keepIn K (.ref f2) = true)
    (a3 : PySem.W.nsIn K mainGlobals "_law_draw" = some (some (.ref f3))) (l3 : K.lookup f3 = some ⟨oc3, od3, .func (PySem.W.fnOf "_law_draw" "_law_draw" (defArgs s_law_draw) (defBody s_law_draw) (defScope s_law_draw) .none kV3 dc3 pm3 an3 cd3 ct3), sl3⟩) (c3 : PySem.W.codeIn K cd3 "_law_draw" = true) (k3 : PySem.W.keepIn K (.ref f3) = true)
    (a4 : PySem.W.nsIn K mainGlobals "_law_order" = some (some (.ref f4))) (l4 : K.lookup f4 = some ⟨oc4, od4, .func (PySem.W.fnOf "_law_order" "_law_order" (defArgs s_law_order) (defBody s_law_order) (defScope s_law_order) .none kV4 dc4 pm4 an4 cd4 ct4), sl4⟩) (c4 : PySem.W.codeIn K cd4 "_law_order" = true) (k4 : PySem.W.keepIn K (.ref f4) = true)
    (a5 : PySem.W.nsIn K mainGlobals "_law_blocks" = some (some (.ref f5))) (l5 : K.lookup f5 = some ⟨oc5, od5, .func (PySem.W.fnOf "_law_blocks" "_law_blocks" (defArgs s_law_blocks) (defBody s_law_blocks) (defScope s_law_blocks) .none kV5 dc5 pm5 an5 cd5 ct5), sl5⟩) (c5 : PySem.W.codeIn K cd5 "_law_blocks" = true) (k5 : PySem.W.keepIn K (.ref f5) = true)
    (a6 : PySem.W.nsIn K mainGlobals "_law_starts" = some (some (.ref f6))) (l6 : K.lookup f6 = some ⟨oc6, od6, .func (PySem.W.fnOf "_law_starts" "_law_starts" (defArgs s_law_starts) (defBody s_law_starts) (defScope s_law_starts) .none kV6 dc6 pm6 an6 cd6 ct6), sl6⟩) (c6 : PySem.W.codeIn K cd6 "_law_starts" = true) (k6 : PySem.W.keepIn K (.ref f6) = true)
    (a7 : PySem.W.nsIn K mainGlobals "_law_meets" = some (some (.ref f7))) (l7 : K.lookup f7 = some ⟨oc7, od7, .func (PySem.W.fnOf "_law_meets" "_law_meets" (defArgs s_law_meets) (defBody s_law_meets) (defScope s_law_meets) .none kV7 dc7 pm7 an7 cd7 ct7), sl7⟩) (c7 : PySem.W.codeIn K cd7 "_law_meets" = true) (k7 : PySem.W.keepIn K (.ref f7) = true)
    (a8 : PySem.W.nsIn K mainGlobals "_law_can" = some (some (.ref f8))) (l8 : K.lookup f8 = some ⟨oc8, od8, .func (PySem.W.fnOf "_law_can" "_law_can" (defArgs s_law_can) (defBody s_law_can) (defScope s_law_can) .none kV8 dc8 pm8 an8 cd8 ct8), sl8⟩) (c8 : PySem.W.codeIn K cd8 "_law_can" = true) (k8 : PySem.W.keepIn K (.ref f8) = true)
    (a9 : PySem.W.nsIn K mainGlobals "_law_first" = some (some (.ref f9))) (l9 : K.lookup f9 = some ⟨oc9, od9, .func (PySem.W.fnOf "_law_first" "_law_first" (defArgs s_law_first) (defBody s_law_first) (defScope s_law_first) .none kV9 dc9 pm9 an9 cd9 ct9), sl9⟩) (c9 : PySem.W.codeIn K cd9 "_law_first" = true) (k9 : PySem.W.keepIn K (.ref f9) = true)
    (a10 : PySem.W.nsIn K mainGlobals "_law_ring" = some (some (.ref f10))) (l10 : K.lookup f10 = some ⟨oc10, od10, .func (PySem.W.fnOf "_law_ring" "_law_ring" (defArgs s_law_ring) (defBody s_law_ring) (defScope s_law_ring) .none kV10 dc10 pm10 an10 cd10 ct10), sl10⟩) (c10 : PySem.W.codeIn K cd10 "_law_ring" = true) (k10 : PySem.W.keepIn K (.ref f10) = true)
    (a11 : PySem.W.nsIn K mainGlobals "placed" = some (some (.ref f11))) (l11 : K.lookup f11 = some ⟨oc11, od11, .func (PySem.W.fnOf "placed" "placed" (defArgs s_placed) (defBody s_placed) (defScope s_placed) .none kV11 dc11 pm11 an11 cd11 ct11), sl11⟩) (c11 : PySem.W.codeIn K cd11 "placed" = true) (k11 : PySem.W.keepIn K (.ref f11) = true)
    (a12 : PySem.W.nsIn K mainGlobals "meets" = some (some (.ref f12))) (l12 : K.lookup f12 = some ⟨oc12, od12, .func (PySem.W.fnOf "meets" "meets" (defArgs s_meets) (defBody s_meets) (defScope s_meets) .none kV12 dc12 pm12 an12 cd12 ct12), sl12⟩) (c12 : PySem.W.codeIn K cd12 "meets" = true) (k12 : PySem.W.keepIn K (.ref f12) = true)
    (a13 : PySem.W.nsIn K mainGlobals "_can_move" = some (some (.ref f13))) (l13 : K.lookup f13 = some ⟨oc13, od13, .func (PySem.W.fnOf "_can_move" "_can_move" (defArgs s_can_move) (defBody s_can_move) (defScope s_can_move) .none kV13 dc13 pm13 an13 cd13 ct13), sl13⟩) (c13 : PySem.W.codeIn K cd13 "_can_move" = true) (k13 : PySem.W.keepIn K (.ref f13) = true)
    (a14 : PySem.W.nsIn K mainGlobals "schedule_moves" = some (some (.ref f14))) (l14 : K.lookup f14 = some ⟨oc14, od14, .func (PySem.W.fnOf "schedule_moves" "schedule_moves" (defArgs s_schedule_moves) (defBody s_schedule_moves) (defScope s_schedule_moves) .none kV14 dc14 pm14 an14 cd14 ct14), sl14⟩) (c14 : PySem.W.codeIn K cd14 "schedule_moves" = true) (k14 : PySem.W.keepIn K (.ref f14) = true)
    (a15 : PySem.W.nsIn K mainGlobals "law" = some (some (.ref f15))) (l15 : K.lookup f15 = some ⟨oc15, od15, .func (PySem.W.fnOf "law" "law" (defArgs s_law) (defBody s_law) (defScope s_law) .none kV15 dc15 pm15 an15 cd15 ct15), sl15⟩) (c15 : PySem.W.codeIn K cd15 "law" = true) (k15 : PySem.W.keepIn K (.ref f15) = true)
    (z_any : PySem.W.nsIn K mainGlobals "any" = some none)
    (z_enumerate : PySem.W.nsIn K mainGlobals "enumerate" = some none)
    (z_int : PySem.W.nsIn K mainGlobals "int" = some none)
    (z_len : PySem.W.nsIn K mainGlobals "len" = some none)
    (z_list : PySem.W.nsIn K mainGlobals "list" = some none)
    (z_max : PySem.W.nsIn K mainGlobals "max" = some none)
    (z_min : PySem.W.nsIn K mainGlobals "min" = some none)
    (z_range : PySem.W.nsIn K mainGlobals "range" = some none)
    (z_sum : PySem.W.nsIn K mainGlobals "sum" = some none)
    (z_zip : PySem.W.nsIn K mainGlobals "zip" = some none)
    : ∃ fd : FuncData, (∀ (s : Shared) (v : Value), BindsTo s fd ⟨[v], []⟩ [("script", v)]) ∧ ∀ base : Heap, K.In base → base.Ns mainGlobals mg → FnOk l.prog w K mg base CX0 4 fa fd ["script"] (sp_law K) := by
  have e := hfa.symm.trans (PySem.W.mg_of X G a15)
  cases e
  have T : Txt mg := ⟨PySem.W.mg_none_of X G z_any, PySem.W.mg_none_of X G z_enumerate, PySem.W.mg_none_of X G z_int, PySem.W.mg_none_of X G z_len, PySem.W.mg_none_of X G z_list, PySem.W.mg_none_of X G z_max, PySem.W.mg_none_of X G z_min, PySem.W.mg_none_of X G z_range, PySem.W.mg_none_of X G z_sum, PySem.W.mg_none_of X G z_zip⟩
  have F_law_cell := fun_mk (st := s_law_cell) l1 c1 k1
  have B_law_cell := F_law_cell.binds (ps := ["script", "k"]) fun _ _ _ _ _ _ us hl => match us, hl with | [_, _], _ => rfl
  have F_law_digits := fun_mk (st := s_law_digits) l2 c2 k2
  have B_law_digits := F_law_digits.binds (ps := ["script", "first", "last"]) fun _ _ _ _ _ _ us hl => match us, hl with | [_, _, _], _ => rfl
  have F_law_draw := fun_mk (st := s_law_draw) l3 c3 k3
  have B_law_draw := F_law_draw.binds (ps := ["box", "many"]) fun _ _ _ _ _ _ us hl => match us, hl with | [_, _], _ => rfl
  have F_law_order := fun_mk (st := s_law_order) l4 c4 k4
  have B_law_order := F_law_order.binds (ps := ["box", "many"]) fun _ _ _ _ _ _ us hl => match us, hl with | [_, _], _ => rfl
  have F_law_blocks := fun_mk (st := s_law_blocks) l5 c5 k5
  have B_law_blocks := F_law_blocks.binds (ps := ["box", "size", "most"]) fun _ _ _ _ _ _ us hl => match us, hl with | [_, _, _], _ => rfl
  have F_law_starts := fun_mk (st := s_law_starts) l6 c6 k6
  have B_law_starts := F_law_starts.binds (ps := ["box", "size", "layout"]) fun _ _ _ _ _ _ us hl => match us, hl with | [_, _, _], _ => rfl
  have F_law_meets := fun_mk (st := s_law_meets) l7 c7 k7
  have B_law_meets := F_law_meets.binds (ps := ["one", "other"]) fun _ _ _ _ _ _ us hl => match us, hl with | [_, _], _ => rfl
  have F_law_can := fun_mk (st := s_law_can) l8 c8 k8
  have B_law_can := F_law_can.binds (ps := ["now", "goals", "k"]) fun _ _ _ _ _ _ us hl => match us, hl with | [_, _, _], _ => rfl
  have F_law_first := fun_mk (st := s_law_first) l9 c9 k9
  have B_law_first := F_law_first.binds (ps := ["layout", "goals", "moving"]) fun _ _ _ _ _ _ us hl => match us, hl with | [_, _, _], _ => rfl
  have F_law_ring := fun_mk (st := s_law_ring) l10 c10 k10
  have B_law_ring := F_law_ring.binds (ps := ["layout", "goals", "moving"]) fun _ _ _ _ _ _ us hl => match us, hl with | [_, _, _], _ => rfl
  have F_placed := fun_mk (st := s_placed) l11 c11 k11
  have B_placed := F_placed.binds (ps := ["layout", "starts"]) fun _ _ _ _ _ _ us hl => match us, hl with | [_, _], _ => rfl
  have F_meets := fun_mk (st := s_meets) l12 c12 k12
  have B_meets := F_meets.binds (ps := ["block", "other"]) fun _ _ _ _ _ _ us hl => match us, hl with | [_, _], _ => rfl
  have F_can_move := fun_mk (st := s_can_move) l13 c13 k13
  have B_can_move := F_can_move.binds (ps := ["blocks", "index", "goal"]) fun _ _ _ _ _ _ us hl => match us, hl with | [_, _, _], _ => rfl
  have F_schedule_moves := fun_mk (st := s_schedule_moves) l14 c14 k14
  have B_schedule_moves := F_schedule_moves.binds (ps := ["size", "layout", "starts"]) fun _ _ _ _ _ _ us hl => match us, hl with | [_, _, _], _ => rfl
  have F_law := fun_mk (st := s_law) l15 c15 k15
  refine ⟨PySem.W.fnOf "law" "law" (defArgs s_law) (defBody s_law) (defScope s_law) .none kV15 dc15 pm15 an15 cd15 ct15, fun s v => .of_eq rfl, fun base _ _ => ?_⟩
  have C_law_cell := mk_law_cell (P := l.prog) (w := w) (base := base) T F_law_cell (PySem.W.mg_of X G a1) B_law_cell
  have C_law_digits := mk_law_digits (P := l.prog) (w := w) (base := base) T F_law_digits (PySem.W.mg_of X G a2) B_law_digits C_law_cell
  have C_law_draw := mk_law_draw (P := l.prog) (w := w) (base := base) T F_law_draw (PySem.W.mg_of X G a3) B_law_draw
  have C_law_order := mk_law_order (P := l.prog) (w := w) (base := base) T F_law_order (PySem.W.mg_of X G a4) B_law_order C_law_draw
  have C_law_blocks := mk_law_blocks (P := l.prog) (w := w) (base := base) T F_law_blocks (PySem.W.mg_of X G a5) B_law_blocks C_law_draw
  have C_law_starts := mk_law_starts (P := l.prog) (w := w) (base := base) T F_law_starts (PySem.W.mg_of X G a6) B_law_starts C_law_draw C_law_order
  have C_law_meets := mk_law_meets (P := l.prog) (w := w) (base := base) T F_law_meets (PySem.W.mg_of X G a7) B_law_meets
  have C_law_can := mk_law_can (P := l.prog) (w := w) (base := base) T F_law_can (PySem.W.mg_of X G a8) B_law_can C_law_meets
  have C_law_first := mk_law_first (P := l.prog) (w := w) (base := base) T F_law_first (PySem.W.mg_of X G a9) B_law_first C_law_can
  have C_law_ring := mk_law_ring (P := l.prog) (w := w) (base := base) T F_law_ring (PySem.W.mg_of X G a10) B_law_ring C_law_meets
  have C_placed := mk_placed (P := l.prog) (w := w) (base := base) T F_placed (PySem.W.mg_of X G a11) B_placed
  have C_meets := mk_meets (P := l.prog) (w := w) (base := base) T F_meets (PySem.W.mg_of X G a12) B_meets
  have C_can_move := mk_can_move (P := l.prog) (w := w) (base := base) T F_can_move (PySem.W.mg_of X G a13) B_can_move C_meets
  have C_schedule_moves := mk_schedule_moves (P := l.prog) (w := w) (base := base) T F_schedule_moves (PySem.W.mg_of X G a14) B_schedule_moves C_placed C_can_move
  exact mk_law T F_law C_law_digits C_law_draw C_law_blocks C_law_starts C_law_first C_law_ring C_schedule_moves
theorem walk {l : PySem.W.OpenLaw} {q : Program} {loose : List Str} {XP : (Str → Option Value) → Heap → Prop} {YP : World → Heap → Prop} {d : DefRec} {K : Params → PySem.W.Frag} (hn : l.most = some 63) (hdf : d.params.defaults = [])
    (hY : ∀ (w : World) (h : Heap), YP w h → (K w.params).In h)
    (F : ∀ (w : World) (mg : Str → Option Value) (fa : Addr) (h : Heap), (K w.params).In h → h.Ns mainGlobals mg → mg d.name = some (.ref fa) →
      ∃ fd : FuncData, (∀ (s : Shared) (u : Value), BindsTo s fd ⟨[u], []⟩ [("script", u)]) ∧ ∀ base : Heap, (K w.params).In base → base.Ns mainGlobals mg → FnOk l.prog w (K w.params) mg base CX0 4 fa fd ["script"] (sp_law (K w.params))) :
    PySem.W.WalkO q loose XP YP l.row.toRowW d [] (fun f vs => PySem.call f vs) :=
  L2.walk_of (n := 63) (k := 4) (x := "script") (CX := fun _ => CX0) (sp := fun w => sp_law (K w.params)) hn (by decide) hdf ⟨rfl, by decide, by decide⟩ hY F (fun _ _ a ns hl _ hS => ⟨a, ns, rfl, hS, hl, fun _ => rfl⟩) fun _ _ _ _ _ z => z
end Pf
open PySem PySem.W PyProof.Rows
set_option maxRecDepth 100000 in
set_option maxHeartbeats 0 in
theorem PySem.Challenge.cw_heapgame_k14_first_safe_order_or_a_ring_holds : PySem.Challenge.rw_heapgame_k14_first_safe_order_or_a_ring.Holds := by
  w_on; o_law; k_head; (case hw => w_witness2)
  k_fill
  refine Pf.walk (l := PySem.Challenge.rw_heapgame_k14_first_safe_order_or_a_ring) rfl rfl (fun w h Y => PySem.W.kIn_of Y) ?F
  case F =>
    intro w mg fa h KX G hmg
    refine' Pf.all_mk KX G hmg ?a1 ?l1 ?c1 ?k1 ?a2 ?l2 ?c2 ?k2 ?a3 ?l3 ?c3 ?k3 ?a4 ?l4 ?c4 ?k4 ?a5 ?l5 ?c5 ?k5 ?a6 ?l6 ?c6 ?k6 ?a7 ?l7 ?c7 ?k7 ?a8 ?l8 ?c8 ?k8 ?a9 ?l9 ?c9 ?k9 ?a10 ?l10 ?c10 ?k10 ?a11 ?l11 ?c11 ?k11 ?a12 ?l12 ?c12 ?k12 ?a13 ?l13 ?c13 ?k13 ?a14 ?l14 ?c14 ?k14 ?a15 ?l15 ?c15 ?k15 ?z_any ?z_enumerate ?z_int ?z_len ?z_list ?z_max ?z_min ?z_range ?z_sum ?z_zip
    (case a1 => k_is)
    (case l1 => k_is)
    (case c1 => k_is)
    (case k1 => k_is)
    (case a2 => k_is)
    (case l2 => k_is)
    (case c2 => k_is)
    (case k2 => k_is)
    (case a3 => k_is)
    (case l3 => k_is)
    (case c3 => k_is)
    (case k3 => k_is)
    (case a4 => k_is)
    (case l4 => k_is)
    (case c4 => k_is)
    (case k4 => k_is)
    (case a5 => k_is)
    (case l5 => k_is)
    (case c5 => k_is)
    (case k5 => k_is)
    (case a6 => k_is)
    (case l6 => k_is)
    (case c6 => k_is)
    (case k6 => k_is)
    (case a7 => k_is)
    (case l7 => k_is)
    (case c7 => k_is)
    (case k7 => k_is)
    (case a8 => k_is)
    (case l8 => k_is)
    (case c8 => k_is)
    (case k8 => k_is)
    (case a9 => k_is)
    (case l9 => k_is)
    (case c9 => k_is)
    (case k9 => k_is)
    (case a10 => k_is)
    (case l10 => k_is)
    (case c10 => k_is)
    (case k10 => k_is)
    (case a11 => k_is)
    (case l11 => k_is)
    (case c11 => k_is)
    (case k11 => k_is)
    (case a12 => k_is)
    (case l12 => k_is)
    (case c12 => k_is)
    (case k12 => k_is)
    (case a13 => k_is)
    (case l13 => k_is)
    (case c13 => k_is)
    (case k13 => k_is)
    (case a14 => k_is)
    (case l14 => k_is)
    (case c14 => k_is)
    (case k14 => k_is)
    (case a15 => k_is)
    (case l15 => k_is)
    (case c15 => k_is)
    (case k15 => k_is)
    (case z_any => k_is)
    (case z_enumerate => k_is)
    (case z_int => k_is)
    (case z_len => k_is)
    (case z_list => k_is)
    (case z_max => k_is)
    (case z_min => k_is)
    (case z_range => k_is)
    (case z_sum => k_is)
    (case z_zip => k_is)
