import PyProof.Rows.All
import Wide.All
import OpenK.AllK
import Wide.FinOn
import HandS.ForMost
import HandS.TupLe
import HandS.Gcd
import HandS.IsInst
import HandS.SortInts
import HandS.SortRule
import HandS.Deep
import HandS.SortKw
import KE.DataMinMax
import KE.KEqSeq
import HandS.SetFor
import HandS.More
import PySem.Challenge.RW_heapgame_k09_canonical_maps
set_option Elab.async false
set_option linter.all false
set_option maxRecDepth 100000
namespace Pf
open PySem L2
/-! ### a def that may be called -/
structure Cal (P : Program) (w : World) (K : PySem.W.Frag) (mg : Str → Option Value) (base : Heap) (x : Str) (k : Nat) (f : Addr) (fd : FuncData) (ps : List Str) (sp : Sp) : Prop where
  ok : FnOk P w K mg base CX0 k f fd ps sp
  mg : mg x = some (.ref f)
  (kp : PySem.W.keepIn K (.ref f) = true)
  b : Binds K fd ps []
/-- an expression asked for its truth -/
def tTru (K : PySem.W.Frag) (ta : TE) : TT := fun σ H R => ta σ H fun v h => ∃ c, TruV K v h c ∧ R c h
theorem pt_truthN {X : Cx} {a : Expr} {ta : TE} (ha : PE X a ta) (he : ∀ whole, isTrue a X.env whole = (do let v ← whole; standAt a.pos; holding [v] (truthy v)) := by intro _; rfl) : PT X a (tTru X.K ta) := pt_truth ha he
theorem room65 {A : Around} {k : Nat} (hr : Room (k + 1) A) : A.units + 65 < cLine := by have := hr.un; omega
/-! ### the readings, one step each -/
section
variable {K : PySem.W.Frag} {σ : St} {H : Hp} {Q : VK} {D : Ends} {ta tb te : TE} {t u : TS} {c : TT}
theorem r_seq (h : t { D with nx := u D } σ H) : tSeq t u D σ H := h
theorem r_seqA {g : TG} (h : te σ H fun x H1 => g x σ H1 (u D)) : tSeq (tAsg te g) u D σ H := h
theorem r_seqD (h : te σ H fun _ H1 => u D σ H1) : tSeq (tDrop te) u D σ H := h
theorem r_seqF {wi : TI} {g : TG} {tb : TS} (h : tFor wi g tb { D with nx := u D } σ H) : tSeq (tFor wi g tb) u D σ H := h
theorem r_seqN (h : u D σ H) : tSeq tNext u D σ H := h
theorem r_seqG (h : ∀ R : St → Hp → Prop, (∀ σ H, u D σ H → R σ H) → t { D with nx := R } σ H) : tSeq t u D σ H := h (u D) fun _ _ x => x
theorem r_asg {g : TG} (h : te σ H fun x H1 => g x σ H1 D.nx) : tAsg te g D σ H := h
theorem r_drop (h : te σ H fun _ H1 => D.nx σ H1) : tDrop te D σ H := h
theorem r_ret (h : te σ H D.rt) : tRet te D σ H := h
theorem r_ifS (h : c σ H fun b H1 => if b = true then t D σ H1 else u D σ H1) : tIfS c t u D σ H := h
theorem r_next (h : D.nx σ H) : tNext D σ H := h
theorem r_cont (h : D.ct σ H) : tCont D σ H := h
theorem r_name {i : Nat} {v : V} {q : St → Hp → Prop} (h : q (σ.set i (some v)) H) : gName i v σ H q := h
theorem r_gnil {q : St → Hp → Prop} (h : q σ H) : gNil [] σ H q := ⟨rfl, h⟩
theorem r_gcons {t : TG} {u : TGs} {v : V} {vs : List V} {q : St → Hp → Prop} (h : t v σ H fun σ' H' => u vs σ' H' q) : gCons t u (v :: vs) σ H q := ⟨v, vs, rfl, h⟩
theorem r_gtup {n : Nat} {t : TGs} {a : Addr} {xs : List V} {q : St → Hp → Prop} (h1 : SqT K H a xs) (h2 : xs.length = n) (h : t xs σ H q) : gTup K n t (.ref a) σ H q := ⟨a, xs, rfl, h1, h2, h⟩
theorem r_gsub {to ti : TE} {t : TSet} {v : V} {q : St → Hp → Prop} (h : to σ H fun o H1 => ti σ H1 fun i H2 => t o i v H2 fun H3 => q σ H3) : gSub to ti t v σ H q := h
theorem r_setL0 {p : Addr} {xs : List V} {k : Int} {j : Nat} {v : V} {q : Hp → Prop} (h1 : H p = some (.lst xs)) (h2 : ixN xs.length k = some j) (h : q (upd H p (.lst (xs.set j v)))) : rSetL (.ref p) (.int k) v H q := ⟨p, xs, k, j, rfl, rfl, h1, h2, h⟩
theorem r_var {i : Nat} {v : V} (h : σ[i]? = some (some v)) (q : Q v H) : tVar i σ H Q := ⟨v, h, q⟩
theorem r_c {v : V} (q : Q v H) : tC v σ H Q := q
theorem r_op {r : R2} (h : ta σ H fun x H1 => tb σ H1 fun y H2 => r x y H2 Q) : tOp r ta tb σ H Q := h
theorem r_un {r : V → Hp → VK → Prop} (h : ta σ H fun x H1 => r x H1 Q) : tUn r ta σ H Q := h
theorem r_I0 {g : Int → Int → V} {i j : Int} (q : Q (g i j) H) : rI0 g (.int i) (.int j) H Q := ⟨i, j, rfl, rfl, q⟩
theorem r_I {C : Int → Int → Prop} {g : Int → Int → V} {i j : Int} (hc : C i j) (q : Q (g i j) H) : rI C g (.int i) (.int j) H Q := ⟨i, j, rfl, rfl, hc, q⟩
theorem r_U {g : Int → V} {i : Int} (q : Q (g i) H) : rU g (.int i) H Q := ⟨i, rfl, q⟩
theorem r_eqI {i j : Int} (q : Q (.bl (decide (i = j))) H) : rEq (.int i) (.int j) H Q := ⟨rfl, by rw [show decide (V.int i = V.int j) = decide (i = j) by simp]; exact q⟩
theorem r_neI {i j : Int} (q : Q (.bl (!decide (i = j))) H) : rNe (.int i) (.int j) H Q := ⟨rfl, by rw [show decide (V.int i = V.int j) = decide (i = j) by simp]; exact q⟩
theorem r_eqB {i j : Bool} (q : Q (.bl (decide (i = j))) H) : rEq (.bl i) (.bl j) H Q := ⟨rfl, by rw [show decide (V.bl i = V.bl j) = decide (i = j) by simp]; exact q⟩
theorem r_neB {i j : Bool} (q : Q (.bl (!decide (i = j))) H) : rNe (.bl i) (.bl j) H Q := ⟨rfl, by rw [show decide (V.bl i = V.bl j) = decide (i = j) by simp]; exact q⟩
theorem r_eq {x y : V} (hs : scal x y = true) (q : Q (.bl (decide (x = y))) H) : rEq x y H Q := ⟨hs, q⟩
theorem r_ne {x y : V} (hs : scal x y = true) (q : Q (.bl (!decide (x = y))) H) : rNe x y H Q := ⟨hs, q⟩
theorem r_test {q : Bool → Hp → Prop} (h : te σ H fun x H' => ∃ k, x = .bl k ∧ q k H') : tTest te σ H q := h
theorem r_B {q : Bool → Hp → Prop} (h : te σ H fun x H' => ∃ k, x = .bl k ∧ q k H') : tB te σ H q := h
theorem r_bl {b : Bool} {q : Bool → Prop} (h : q b) : ∃ k, V.bl b = .bl k ∧ q k := ⟨b, rfl, h⟩
theorem r_rfl {x : St} {A : Prop} (q : A) : x = x ∧ A := ⟨rfl, q⟩
theorem r_eqA {x y : St} {A : Prop} (h : x = y) (q : A) : x = y ∧ A := ⟨h, q⟩
theorem r_wipe {σ1 σ2 : St} {vs : List Nat} {A : Prop} (h : wipe σ1 vs = wipe σ2 vs) (q : A) : wipe σ1 vs = wipe σ2 vs ∧ A := ⟨h, q⟩
theorem r_bl2 {a b : Bool} {A : Bool → Bool → Prop} (h : A a b) : ∃ x y, V.bl a = .bl x ∧ V.bl b = .bl y ∧ A x y := ⟨a, b, rfl, rfl, h⟩
theorem r_yes {q : Bool → Hp → Prop} (h : q true H) : tYes σ H q := h
theorem r_and {a b : TT} {q : Bool → Hp → Prop} (h : a σ H fun c H1 => if c = true then b σ H1 q else q false H1) : L2.tAnd a b σ H q := h
theorem r_or {a b : TT} {q : Bool → Hp → Prop} (h : a σ H fun c H1 => if c = true then q true H1 else b σ H1 q) : L2.tOr a b σ H q := h
theorem r_not {a : TT} {q : Bool → Hp → Prop} (h : a σ H fun c H1 => q (!c) H1) : L2.tNot a σ H q := h
theorem r_andV {a b : TE} (h : a σ H fun x H1 => ∃ c, x = .bl c ∧ if c = true then b σ H1 Q else Q (.bl false) H1) : tAndV a b σ H Q := h
theorem r_orV {a b : TE} (h : a σ H fun x H1 => ∃ c, x = .bl c ∧ if c = true then Q (.bl true) H1 else b σ H1 Q) : tOrV a b σ H Q := h
theorem r_notV {a : TE} (h : a σ H fun x H1 => ∃ c, x = .bl c ∧ Q (.bl (!c)) H1) : tNotV a σ H Q := h
theorem r_ifE {c : TT} (h : c σ H fun b H1 => if b = true then ta σ H1 Q else tb σ H1 Q) : tIf c ta tb σ H Q := h
theorem r_nil {q : List V → Hp → Prop} (h : q [] H) : tNil σ H q := h
theorem r_cons {tr : TA} {q : List V → Hp → Prop} (h : ta σ H fun x H1 => tr σ H1 fun xs H2 => q (x :: xs) H2) : tCons ta tr σ H q := h
theorem r_tup {ts : TA} (h : ts σ H fun xs H1 => xs.length ≤ sizeLine ∧ ∀ p, H1 p = none → Q (.ref p) (upd H1 p (.tup xs))) : tTup ts σ H Q := h
theorem r_lst {ts : TA} (h : ts σ H fun xs H1 => xs.length ≤ sizeLine ∧ ∀ p, H1 p = none → Q (.ref p) (upd H1 p (.lst xs))) : tLst ts σ H Q := h
theorem r_small {xs : List V} {A : Prop} (h : A) (hs : xs.length ≤ sizeLine) : xs.length ≤ sizeLine ∧ A := ⟨hs, h⟩
theorem r_CB {r : List V → Hp → VK → Prop} {ts : TA} (h : ts σ H fun vs H1 => r vs H1 Q) : tCB r ts σ H Q := h
theorem r_call {sp : Sp} {E : XK} {ts : TA} (h : ts σ H fun vs H1 => sp vs H1 Q E) : tCall sp [] E ts σ H Q := by
  have e : (fun vs H1 => sp (vs ++ []) H1 Q E) = fun vs H1 => sp vs H1 Q E := by
    funext vs H1
    rw [List.append_nil]
  show ts σ H fun vs H1 => sp (vs ++ []) H1 Q E
  rw [e]
  exact h
theorem r_bm {T : String} {r : V → List V → Hp → VK → Prop} {ts : TA} (h : te σ H fun x H1 => tyV K T x H1 ∧ ts σ H1 fun xs H2 => r x xs H2 Q) : tBM K T r te ts σ H Q := h
theorem r_bm0 {T : String} {r : V → List V → Hp → VK → Prop} (h : te σ H fun x H1 => tyV K T x H1 ∧ r x [] H1 Q) : tBM0 K T r te σ H Q := h
theorem ty_lst {p : Addr} {xs : List V} (h : H p = some (.lst xs)) : tyV K "list" (.ref p) H := .inl ⟨rfl, _, .inl (.inl h)⟩
theorem r_app0 {p : Addr} {xs : List V} {y : V} (h : H p = some (.lst xs)) (hs : xs.length < sizeLine) (q : Q .non (upd H p (.lst (xs ++ [y])))) : rAppend (.ref p) [y] H Q := ⟨p, xs, y, rfl, rfl, h, hs, q⟩
theorem r_ixL {p : Addr} {xs : List V} {i : Int} {v : V} (h : SqL K H p xs) (ha : atI xs i = some v) (q : Q v H) : rIxL K (.ref p) (.int i) H Q := ⟨p, xs, i, v, rfl, rfl, h, ha, q⟩
theorem r_ixT {p : Addr} {xs : List V} {i : Int} {v : V} (h : SqT K H p xs) (ha : atI xs i = some v) (q : Q v H) : rIxT K (.ref p) (.int i) H Q := ⟨p, xs, i, v, rfl, rfl, h, ha, q⟩
theorem r_int {i : Int} {A : Int → Prop} {B : Prop} (q : A i) : (∃ j, [V.int i] = [V.int j] ∧ A j) ∨ B := .inl ⟨i, rfl, q⟩
theorem r_lenL {p : Addr} {xs : List V} {A : Addr → List V → Prop} (h : SqL K H p xs) (q : A p xs) : ∃ p' ys, [V.ref p] = [V.ref p'] ∧ (SqL K H p' ys ∨ SqT K H p' ys) ∧ A p' ys := ⟨p, xs, rfl, .inl h, q⟩
theorem r_lenT {p : Addr} {xs : List V} {A : Addr → List V → Prop} (h : SqT K H p xs) (q : A p xs) : ∃ p' ys, [V.ref p] = [V.ref p'] ∧ (SqL K H p' ys ∨ SqT K H p' ys) ∧ A p' ys := ⟨p, xs, rfl, .inr h, q⟩
theorem r_i2 {i j : Int} {A : Int → Int → Prop} (q : A i j) : ∃ i' j', [V.int i, V.int j] = [V.int i', V.int j'] ∧ A i' j' := ⟨i, j, rfl, q⟩
theorem r_i1 {i : Int} {A : Int → Prop} (q : A i) : ∃ i', [V.int i] = [V.int i'] ∧ A i' := ⟨i, rfl, q⟩
theorem r_ite {p A B : Prop} [Decidable p] (h1 : p → A) (h2 : ¬ p → B) : if decide p = true then A else B := by
  by_cases h : p
  · rw [if_pos (decide_eq_true h)]
    exact h1 h
  · rw [if_neg (by simp [h])]
    exact h2 h
theorem r_iteN {p A B : Prop} [Decidable p] (h1 : ¬ p → A) (h2 : p → B) : if (!decide p) = true then A else B := by
  by_cases h : p
  · rw [if_neg (by simp [h])]
    exact h2 h
  · rw [if_pos (by simp [h])]
    exact h1 h
theorem r_iteB {b : Bool} {A B : Prop} (h1 : b = true → A) (h2 : b = false → B) : if b = true then A else B := by
  cases b
  · exact h2 rfl
  · exact h1 rfl
/-! ### loops -/
theorem r_rng1 {j : Int} {A : Int → Prop} (h1 : -(2 ^ 62) ≤ j) (h2 : j < 2 ^ 62) (h : A j) : ∃ j' : Int, [V.int j] = [V.int j'] ∧ -(2 ^ 62) ≤ j' ∧ j' < 2 ^ 62 ∧ A j' := ⟨j, rfl, h1, h2, h⟩
theorem r_rng2 {i j : Int} {A : Int → Int → Prop} (h1 : -(2 ^ 62) ≤ i ∧ i < 2 ^ 62 ∧ -(2 ^ 62) ≤ j ∧ j < 2 ^ 62) (h : A i j) : ∃ i' j' : Int, [V.int i, V.int j] = [V.int i', V.int j'] ∧ (-(2 ^ 62) ≤ i' ∧ i' < 2 ^ 62 ∧ -(2 ^ 62) ≤ j' ∧ j' < 2 ^ 62) ∧ A i' j' := ⟨i, j, rfl, h1, h⟩
theorem r_sl {r : V → Option Int → Option Int → Hp → VK → Prop} {tl th : TO} (h : te σ H fun x H1 => tl σ H1 fun l H2 => th σ H2 fun u H3 => r x l u H3 Q) : tSl r te tl th σ H Q := h
theorem r_noPart {q : Option Int → Hp → Prop} (h : q none H) : tNoPart σ H q := h
theorem r_part {q : Option Int → Hp → Prop} (h : te σ H fun x H1 => ∃ i, x = .int i ∧ q (some i) H1) : tPart te σ H q := h
theorem r_int1 {i : Int} {A : Int → Prop} (h : A i) : ∃ j, V.int i = .int j ∧ A j := ⟨i, rfl, h⟩
theorem r_slT {a : Addr} {xs : List V} {lo hi : Option Int} (h : SqT K H a xs) (hn : ¬ (HT.sIx xs.length 0 lo = 0 ∧ HT.sIx xs.length xs.length hi = xs.length)) (q : ∀ p, H p = none → Q (.ref p) (upd H p (.tup (cutV xs lo hi)))) : rSlT K (.ref a) lo hi H Q := ⟨a, xs, rfl, h, hn, q⟩
theorem r_slL {a : Addr} {xs : List V} {lo hi : Option Int} (h : SqL K H a xs) (q : ∀ p, H p = none → Q (.ref p) (upd H p (.lst (cutV xs lo hi)))) : rSlL K (.ref a) lo hi H Q := ⟨a, xs, rfl, h, q⟩
theorem r_tru {K : PySem.W.Frag} {q : Bool → Hp → Prop} (h : te σ H fun x H' => ∃ k, TruV K x H' k ∧ q k H') : tTru K te σ H q := h
theorem r_truL {p : Addr} {xs : List V} {q : Bool → Prop} (h : SqL K H p xs) (a : q (!xs.isEmpty)) : ∃ k, TruV K (.ref p) H k ∧ q k := ⟨_, .inl ⟨xs, h, rfl⟩, a⟩
/-- a walk: each turn leads on or there is none left; R goes down in its second place -/
def WkH (J : It) (Fin : Hp → Prop) (Turns : V → Hp → (Hp → Prop) → Prop) (h₀ : Hp) : Prop :=
  ∃ R : Nat → Nat → Hp → Prop, (∃ c, R 0 c h₀) ∧ ∀ i c h, R i c h → (J.stop i h ∧ Fin h) ∨ (J.go i h ∧ ∃ B : Hp → Prop, (∀ h', B h' → ∃ c', c' < c ∧ R (i + 1) c' h') ∧ ∀ y h', J.yld i h y h' → Turns y h' B)
/-- the same, with slots -/
def WkS (J : It) (Fin : St → Hp → Prop) (Turns : V → St → Hp → (St → Hp → Prop) → Prop) (s₀ : St) (h₀ : Hp) : Prop :=
  ∃ R : Nat → Nat → St → Hp → Prop, (∃ c, R 0 c s₀ h₀) ∧ ∀ i c s h, R i c s h → (J.stop i h ∧ Fin s h) ∨ (J.go i h ∧ ∃ B : St → Hp → Prop, (∀ s' h', B s' h' → ∃ c', c' < c ∧ R (i + 1) c' s' h') ∧ ∀ y h', J.yld i h y h' → Turns y s h' B)
/-- a walk of n turns: P i holds ahead of the i-th one -/
theorem walkH {J : It} {n : Nat} {h₀ : Hp} {Fin : Hp → Prop} {Turns : V → Hp → (Hp → Prop) → Prop} (P : Nat → Hp → Prop) (start : P 0 h₀) (last : ∀ h, P n h → J.stop n h ∧ Fin h)
    (next : ∀ i h, i < n → P i h → J.go i h ∧ ∀ y h', J.yld i h y h' → Turns y h' (P (i + 1))) : WkH J Fin Turns h₀ := by
  refine ⟨fun i c h => i ≤ n ∧ i + c = n ∧ P i h, ⟨n, Nat.zero_le n, Nat.zero_add n, start⟩, ?_⟩
  rintro i c h ⟨le, sum, p⟩
  rcases Nat.lt_or_ge i n with lt | ge
  · obtain ⟨g, turns⟩ := next i h lt p
    exact Or.inr ⟨g, P (i + 1), fun h' p' => ⟨c - 1, by omega, lt, by omega, p'⟩, turns⟩
  · obtain rfl : i = n := by omega
    exact Or.inl (last h p)
theorem walkS {J : It} {n : Nat} {s₀ : St} {h₀ : Hp} {Fin : St → Hp → Prop} {Turns : V → St → Hp → (St → Hp → Prop) → Prop} (P : Nat → St → Hp → Prop) (start : P 0 s₀ h₀) (last : ∀ s h, P n s h → J.stop n h ∧ Fin s h)
    (next : ∀ i s h, i < n → P i s h → J.go i h ∧ ∀ y h', J.yld i h y h' → Turns y s h' (P (i + 1))) : WkS J Fin Turns s₀ h₀ := by
  refine ⟨fun i c s h => i ≤ n ∧ i + c = n ∧ P i s h, ⟨n, Nat.zero_le n, Nat.zero_add n, start⟩, ?_⟩
  rintro i c s h ⟨le, sum, p⟩
  rcases Nat.lt_or_ge i n with lt | ge
  · obtain ⟨g, turns⟩ := next i s h lt p
    exact Or.inr ⟨g, P (i + 1), fun s' h' p' => ⟨c - 1, by omega, lt, by omega, p'⟩, turns⟩
  · obtain rfl : i = n := by omega
    exact Or.inl (last s h p)
/-- over a range -/
theorem w_range {lo : Int} {n : Nat} {H0 : Hp} {Qd : Hp → Prop} {Body : V → Hp → (Hp → Prop) → Prop} (P : Nat → Hp → Prop) (start : P 0 H0) (hs : ∀ i H, i < n → P i H → Body (.int (lo + i)) H (P (i + 1))) (hd : ∀ H, P n H → Qd H) : WkH (Itr lo n) Qd Body H0 :=
  walkH P start (fun h p => And.intro (Nat.le_refl n) (hd h p)) fun i h lt p => And.intro lt fun y h' yl => by
    rcases yl with ⟨ey, eh⟩
    rw [ey, eh]
    exact hs i h lt p
/-- over a list -/
theorem w_list {K : PySem.W.Frag} {a : Addr} {xs : List V} {H0 : Hp} {Qd : Hp → Prop} {Body : V → Hp → (Hp → Prop) → Prop} (P : Nat → Hp → Prop) (start : P 0 H0) (hl : ∀ i H, i ≤ xs.length → P i H → SqL K H a xs) (hs : ∀ i x H, xs[i]? = some x → P i H → Body x H (P (i + 1))) (hd : ∀ H, P xs.length H → Qd H) : WkH (Itl K a) Qd Body H0 :=
  walkH P start (fun h p => And.intro ⟨xs, hl _ h (Nat.le_refl _) p, Nat.le_refl _⟩ (hd h p)) fun i h lt p => And.intro ⟨xs, xs[i], hl i h (Nat.le_of_lt lt) p, List.getElem?_eq_getElem lt⟩ fun y h' yl => by
    rcases yl with ⟨eh, at_⟩
    rw [eh]
    exact hs i y h (at_ xs (hl i h (Nat.le_of_lt lt) p)) p
theorem r_forS {wi : TI} {g : TG} {tb : TS} (h : wi σ H fun J h1 => WkS J D.nx (fun y s h2 B => g y s h2 (tb { D with nx := B, ct := B, bk := D.nx })) σ h1) : tFor wi g tb D σ H := h
theorem r_lc {wi : TI} {g : TG} {tt : TT} {vs : List Nat} (h : wi σ H fun J h1 => ∀ D, h1 D = none → WkH J (fun h2 => Q (.ref D) h2) (fun y h2 B => g y (wipe σ vs) h2 fun s h3 => wipe s vs = wipe σ vs ∧ tt s h3 fun b h4 => if b = true then te s h4 fun z h5 => ∃ acc, h5 D = some (.lst acc) ∧ acc.length < sizeLine ∧ B (upd h5 D (.lst (acc ++ [z]))) else B h4) (upd h1 D (.lst []))) :
    tLc wi g tt te vs σ H Q := h
theorem r_lc2 {wi : TI} {g : TG} {tt : TT} {wi1 : TI} {g1 : TG} {tt1 : TT} {vs vs1 : List Nat} (h : wi σ H fun J h1 => ∀ D, h1 D = none → WkH J (fun h2 => Q (.ref D) h2) (fun y h2 B => g y (wipe σ vs) h2 fun s h3 => wipe s vs = wipe σ vs ∧ tt s h3 fun b h4 =>
      if b = true then wi1 s h4 fun J1 h5 => WkH J1 B (fun y1 h6 B1 => g1 y1 (wipe s vs1) h6 fun s1 h7 => wipe s1 vs1 = wipe s vs1 ∧ tt1 s1 h7 fun b1 h8 => if b1 = true then te s1 h8 fun z h9 => ∃ acc, h9 D = some (.lst acc) ∧ acc.length < sizeLine ∧ B1 (upd h9 D (.lst (acc ++ [z]))) else B1 h8) h5 else B h4) (upd h1 D (.lst []))) :
    tLc2 wi g tt wi1 g1 tt1 te vs vs1 σ H Q := h
theorem r_ckw {r : List V → List V → Hp → VK → Prop} {ts tk : TA} (h : ts σ H fun vs H1 => tk σ H1 fun zs H2 => r vs zs H2 Q) : tCKw r ts tk σ H Q := h
theorem r_iR1 {tA : TA} {R : It → Hp → Prop} (h : tA σ H fun vs H1 => ∃ j : Int, vs = [V.int j] ∧ -(2 ^ 62) ≤ j ∧ j < 2 ^ 62 ∧ R (Itr 0 j.toNat) H1) : iRng1 tA σ H R := h
theorem r_iR2 {tA : TA} {R : It → Hp → Prop} (h : tA σ H fun vs H1 => ∃ i j : Int, vs = [V.int i, V.int j] ∧ (-(2 ^ 62) ≤ i ∧ i < 2 ^ 62 ∧ -(2 ^ 62) ≤ j ∧ j < 2 ^ 62) ∧ R (Itr i (j - i).toNat) H1) : iRng2 tA σ H R := h
theorem r_iL {tl : TE} {R : It → Hp → Prop} (h : tl σ H fun x H1 => ∃ a, x = V.ref a ∧ (∃ xs, SqL K H1 a xs) ∧ R (Itl K a) H1) : iList K tl σ H R := h
theorem r_iL2 {a : Addr} {xs : List V} {A : Addr → Prop} (h : SqL K H a xs) (q : A a) : ∃ a', V.ref a = V.ref a' ∧ (∃ xs, SqL K H a' xs) ∧ A a' := ⟨a, rfl, ⟨xs, h⟩, q⟩
end
theorem at_int {ns : List Int} {i : Int} (h0 : 0 ≤ i) (h1 : i < (ns.length : Int)) : atI (ns.map V.int) i = some (.int (ns.getD i.toNat 0)) := by
  obtain ⟨j, rfl⟩ : ∃ j : Nat, i = (j : Int) := ⟨i.toNat, by omega⟩
  have hj : j < ns.length := by omega
  refine atI_nat ?_
  rw [List.getElem?_map, List.getElem?_eq_getElem hj, Int.toNat_natCast, List.getD_eq_getElem?_getD, List.getElem?_eq_getElem hj]
  rfl
/-! ### heaps -/
theorem same_upd {H : Hp} {p : Addr} {o : HO} (new : H p = none) : Same H (upd H p o) := fun a u at_ => (upd_ne (ne_of_none at_ new)).trans at_
/-- all that is tracked is as it was, but what stands at b -/
def But (b : Addr) (H H' : Hp) : Prop := ∀ a o, a ≠ b → H a = some o → H' a = some o
theorem But.refl (b : Addr) (H : Hp) : But b H H := fun _ _ _ h => h
theorem But.trans {b : Addr} {H H1 H2 : Hp} (x : But b H H1) (y : But b H1 H2) : But b H H2 := fun a o n e => y a o n (x a o n e)
theorem But.of {b : Addr} {H H' : Hp} (x : Same H H') : But b H H' := fun a o _ e => x a o e
theorem But.upd {b : Addr} {H : Hp} {o : HO} : But b H (upd H b o) := fun a u n e => by rw [upd_ne n]; exact e
theorem But.same {b : Addr} {H H' : Hp} {o : HO} (x : But b H H') (h : H b = some o) (h' : H' b = some o) : Same H H' := fun a u e => by
  by_cases q : a = b
  · rw [q, h] at e
    rw [q, h']
    exact e
  · exact x a u q e
/-- from outside, what is made and then changed was never there -/
theorem But.new {b : Addr} {H0 H H' : Hp} (x : But b H H') (n : H0 b = none) (s : Same H0 H) : Same H0 H' := fun a u e => x a u (ne_of_none e n) (s a u e)
theorem But.seq {K : PySem.W.Frag} {b : Addr} {H H' : Hp} {a : Addr} {xs : List V} (e : But b H H') (n : a ≠ b) (h : SqL K H a xs) : SqL K H' a xs := by
  rcases h with (z | ⟨u, z⟩) | z
  · exact .inl (.inl (e _ _ n z))
  · exact .inl (.inr ⟨u, e _ _ n z⟩)
  · exact .inr z
theorem But.free {b : Addr} {H H' : Hp} {o : HO} (e : But b H H') (hb : H' b = some o) {l : Addr} (h : H' l = Option.none) : H l = Option.none := by
  cases q : H l with
  | none => rfl
  | some u =>
    by_cases n : l = b
    · rw [n, hb] at h
      cases h
    · rw [e l u n q] at h
      cases h
/-! ### the box of draws: [digits, the next one's place] -/
def Bx (H : Hp) (b d : Addr) : Prop := ∃ (ds : List Int) (at_ : Nat), H b = some (.lst [.ref d, .int at_]) ∧ H d = some (.lst (ds.map V.int)) ∧ d ≠ b
section
variable {H H' : Hp} {b d a p : Addr}
theorem Bx.same (h : Bx H b d) (s : Same H H') : Bx H' b d := let ⟨ds, k, e1, e2, n⟩ := h; ⟨ds, k, s _ _ e1, s _ _ e2, n⟩
theorem Bx.but (h : Bx H b d) (s : But p H H') (nb : p ≠ b) (nd : p ≠ d) : Bx H' b d := let ⟨ds, k, e1, e2, n⟩ := h; ⟨ds, k, s _ _ nb.symm e1, s _ _ nd.symm e2, n⟩
theorem Bx.ne (h : Bx H b d) (n : H a = none) : a ≠ b := let ⟨_, _, e, _⟩ := h; fun q => by rw [q, e] at n; cases n
theorem Bx.neD (h : Bx H b d) (n : H a = none) : a ≠ d := let ⟨_, _, _, e, _⟩ := h; fun q => by rw [q, e] at n; cases n
theorem Bx.neT {xs : List V} (h : Bx H b d) (n : H a = some (.tup xs)) : a ≠ b := let ⟨_, _, e, _⟩ := h; fun q => by rw [q, e] at n; cases n
theorem Bx.free (h : Bx H' b d) (e : But b H H') (n : H' a = none) : H a = none := let ⟨_, _, q, _⟩ := h; e.free q n
end
/-! ### the rules that change the heap, the new heap a letter -/
section
variable {K : PySem.W.Frag} {σ : St} {H : Hp} {Q : VK}
theorem r_setL {p : Addr} {xs : List V} {k : Int} {j : Nat} {v : V} {q : Hp → Prop} (h1 : H p = some (.lst xs)) (h2 : ixN xs.length k = some j) (h : ∀ H', H' p = some (.lst (xs.set j v)) → But p H H' → q H') : rSetL (.ref p) (.int k) v H q :=
  ⟨p, xs, k, j, rfl, rfl, h1, h2, h _ upd_same But.upd⟩
theorem r_app {p : Addr} {xs : List V} {y : V} (h : H p = some (.lst xs)) (hs : xs.length < sizeLine) (q : ∀ H', H' p = some (.lst (xs ++ [y])) → But p H H' → Q .non H') : rAppend (.ref p) [y] H Q := ⟨p, xs, y, rfl, rfl, h, hs, q _ upd_same But.upd⟩
@[elab_as_elim] theorem upd_new {p : Addr} {o : HO} {motive : Hp → Prop} (np : H p = none) (h : ∀ H', H' p = some o → Same H H' → motive H') : motive (upd H p o) := h _ upd_same (same_upd np)
end
theorem drop_get {α : Type} {xs : List α} {i : Nat} {x : α} (h : xs[i]? = some x) : xs.drop i = x :: xs.drop (i + 1) := by
  obtain ⟨hi, rfl⟩ := List.getElem?_eq_some_iff.mp h
  exact List.drop_eq_getElem_cons hi
theorem r_cat {H : Hp} {Q : VK} {l b : Addr} {xs zs : List V} (h1 : H l = some (.lst xs)) (h2 : H b = some (.lst zs)) (hs : xs.length + zs.length ≤ sizeLine) (q : ∀ p, H p = none → Q (.ref p) (upd H p (.lst (xs ++ zs)))) : rCat (.ref l) (.ref b) H Q :=
  ⟨l, b, xs, zs, rfl, rfl, h1, h2, hs, q⟩
/-! ### lists of tuples -/
section
variable {α : Type}
/-- at ts stand tuples, f of the xs -/
def TL (f : α → List V) (H : Hp) (ts : List Addr) (xs : List α) : Prop := ts.length = xs.length ∧ ∀ (i : Nat) (t : Addr), ts[i]? = some t → ∃ x, xs[i]? = some x ∧ H t = some (.tup (f x))
/-- at a stands a list of tuples, f of the xs -/
def LT (f : α → List V) (H : Hp) (a : Addr) (xs : List α) : Prop := ∃ ts : List Addr, H a = some (.lst (ts.map V.ref)) ∧ TL f H ts xs
variable {f : α → List V} {H H' : Hp} {ts : List Addr} {xs : List α} {a b : Addr}
theorem TL.nil : TL f H [] ([] : List α) := ⟨rfl, fun i t h => by simp at h⟩
theorem TL.same (h : TL f H ts xs) (s : Same H H') : TL f H' ts xs := ⟨h.1, fun i t e => let ⟨x, e1, e2⟩ := h.2 i t e; ⟨x, e1, s _ _ e2⟩⟩
theorem TL.but {o : List V} (h : TL f H ts xs) (s : But b H H') (hb : H b = some (.lst o)) : TL f H' ts xs := ⟨h.1, fun i t e => let ⟨x, e1, e2⟩ := h.2 i t e; ⟨x, e1, s _ _ (ne_of e2 hb (by intro z; cases z)) e2⟩⟩
theorem TL.snoc {t : Addr} {x : α} (h : TL f H ts xs) (ht : H t = some (.tup (f x))) : TL f H (ts ++ [t]) (xs ++ [x]) := by
  refine ⟨by rw [List.length_append, List.length_append, h.1]; rfl, fun i u e => ?_⟩
  by_cases hi : i < ts.length
  · rw [List.getElem?_append_left hi] at e
    obtain ⟨y, e1, e2⟩ := h.2 i u e
    exact ⟨y, by rw [List.getElem?_append_left (by rw [← h.1]; exact hi)]; exact e1, e2⟩
  · rw [List.getElem?_append_right (by omega)] at e
    have hi0 : i - ts.length = 0 := by
      by_cases q : i - ts.length = 0
      · exact q
      · rw [List.getElem?_eq_none (by simp; omega)] at e
        cases e
    rw [hi0] at e
    have e' : t = u := Option.some.inj e
    subst e'
    exact ⟨x, by rw [List.getElem?_append_right (by rw [← h.1]; omega), ← h.1, hi0]; rfl, ht⟩
theorem TL.get (h : TL f H ts xs) {i : Nat} {x : α} (e : xs[i]? = some x) : ∃ t, ts[i]? = some t ∧ H t = some (.tup (f x)) := by
  have hi : i < ts.length := by rw [h.1]; exact (List.getElem?_eq_some_iff.mp e).1
  obtain ⟨y, e1, e2⟩ := h.2 i _ (List.getElem?_eq_getElem hi)
  rw [e] at e1
  cases e1
  exact ⟨_, List.getElem?_eq_getElem hi, e2⟩
/-- an item of the list, read -/
theorem TL.at (h : TL f H ts xs) {i : Int} (h0 : 0 ≤ i) (h1 : i < (xs.length : Int)) : ∃ x t, xs[i.toNat]? = some x ∧ atI (ts.map V.ref) i = some (.ref t) ∧ H t = some (.tup (f x)) := by
  have hi : i.toNat < xs.length := by omega
  obtain ⟨t, e1, e2⟩ := h.get (List.getElem?_eq_getElem hi)
  refine ⟨_, t, List.getElem?_eq_getElem hi, ?_, e2⟩
  have e : i = ((i.toNat : Nat) : Int) := by omega
  rw [e]
  refine atI_nat ?_
  rw [List.getElem?_map, e1]
  rfl
theorem snoc_of {β : Type} : ∀ {l : List β}, l ≠ [] → ∃ G g, l = G ++ [g]
  | [], h => absurd rfl h
  | [x], _ => ⟨[], x, rfl⟩
  | x :: y :: r, _ => by
    obtain ⟨G, g, e⟩ := snoc_of (l := y :: r) (by simp)
    exact ⟨x :: G, g, by rw [e]; rfl⟩
theorem TL.unsnoc {ys : List α} {y : α} (h : TL f H ts (ys ++ [y])) : ∃ (ts0 : List Addr) (tl : Addr), ts = ts0 ++ [tl] ∧ TL f H ts0 ys ∧ H tl = some (.tup (f y)) := by
  have hl := h.1
  simp only [List.length_append, List.length_cons, List.length_nil] at hl
  obtain ⟨ts0, tl, rfl⟩ : ∃ ts0 tl, ts = ts0 ++ [tl] := by
    have hne : ts ≠ [] := by intro e; rw [e] at hl; simp at hl
    exact snoc_of hne
  simp only [List.length_append, List.length_cons, List.length_nil] at hl
  have hl' : ts0.length = ys.length := by omega
  refine ⟨ts0, tl, rfl, ⟨hl', fun i t e => ?_⟩, ?_⟩
  · have hi := (List.getElem?_eq_some_iff.mp e).1
    obtain ⟨x, e1, e2⟩ := h.2 i t (by rw [List.getElem?_append_left hi]; exact e)
    rw [List.getElem?_append_left (by omega)] at e1
    exact ⟨x, e1, e2⟩
  · obtain ⟨x, e1, e2⟩ := h.2 ts0.length tl (by rw [List.getElem?_append_right (Nat.le_refl _), Nat.sub_self]; rfl)
    rw [hl', List.getElem?_append_right (Nat.le_refl _), Nat.sub_self] at e1
    have e1' : y = x := Option.some.inj e1
    rw [e1']
    exact e2
theorem ixN_last (n : Nat) : ixN (n + 1) (-1) = some n := by
  unfold ixN
  rw [if_neg (by omega), if_pos (by omega)]
  congr 1
  omega
theorem set_last (ts : List Addr) (a b : Addr) : ((ts ++ [a]).map V.ref).set ts.length (V.ref b) = (ts ++ [b]).map V.ref := by
  rw [List.map_append, List.map_append, List.set_append_right _ _ (by rw [List.length_map]; exact Nat.le_refl _), List.length_map, Nat.sub_self]
  rfl
theorem TL.len (h : TL f H ts xs) : (ts.map V.ref).length = xs.length := by rw [List.length_map, h.1]
theorem LT.same (h : LT f H a xs) (s : Same H H') : LT f H' a xs := let ⟨ts, e, q⟩ := h; ⟨ts, s _ _ e, q.same s⟩
theorem LT.but {o : List V} (h : LT f H a xs) (s : But b H H') (hb : H b = some (.lst o)) (n : a ≠ b) : LT f H' a xs := let ⟨ts, e, q⟩ := h; ⟨ts, s _ _ n e, q.but s hb⟩
theorem TL.box (h : TL f H ts xs) (s : But b H H') {d : Addr} (B : Bx H b d) : TL f H' ts xs := let ⟨_, _, e, _⟩ := B; h.but s e
theorem LT.box (h : LT f H a xs) (s : But b H H') {d : Addr} (B : Bx H b d) (n : a ≠ b) : LT f H' a xs := let ⟨_, _, e, _⟩ := B; h.but s e n
end
/-- a block -/
@[reducible] def bV (b : Int × Int) : List V := [.int b.1, .int b.2]
theorem menu {ns : List Int} {r : Int} (h0 : 0 ≤ r) (h1 : r < (ns.length : Int)) : ∃ v, v ∈ ns ∧ atI (ns.map V.int) r = some (.int v) := by
  refine ⟨ns.getD r.toNat 0, ?_, at_int h0 h1⟩
  have hi : r.toNat < ns.length := by omega
  simp only [List.getD_eq_getElem?_getD]
  rw [List.getElem?_eq_getElem hi]
  exact List.getElem_mem hi
/-! ### isinstance -/
section
variable {K : PySem.W.Frag} {H : Hp} {Q : VK}
theorem r_isi {x : V} {t T : String} {b : Bool} (ty : TyOf K H x (.type t)) (e : kitB t T = some b) (q : Q (.bl b) H) : rIsi K [x, .ty T] H Q := ⟨x, _, _, _, b, rfl, .ty T, .base ty, kit_ty e, q⟩
theorem kit_bb : kitB "bool" "bool" = some true := by decide +kernel
theorem kit_ii : kitB "int" "int" = some true := by decide +kernel
theorem kit_ib : kitB "int" "bool" = some false := by decide +kernel
theorem kit_bi : kitB "bool" "int" = some true := by decide +kernel
theorem kit_nb : kitB "NoneType" "bool" = some false := by decide +kernel
theorem kit_nt : kitB "NoneType" "tuple" = some false := by decide +kernel
theorem kit_ll : kitB "list" "list" = some true := by decide +kernel
theorem kit_tt : kitB "tuple" "tuple" = some true := by decide +kernel
theorem kit_ss : kitB "str" "str" = some true := by decide +kernel
theorem kit_lt : kitB "list" "tuple" = some false := by decide +kernel
theorem kit_tl : kitB "tuple" "list" = some false := by decide +kernel
theorem r_isi_ib {i : Int} (q : Q (.bl false) H) : rIsi K [.int i, .ty "bool"] H Q := r_isi (.int i) kit_ib q
theorem r_isi_ii {i : Int} (q : Q (.bl true) H) : rIsi K [.int i, .ty "int"] H Q := r_isi (.int i) kit_ii q
theorem r_isi_bb {i : Bool} (q : Q (.bl true) H) : rIsi K [.bl i, .ty "bool"] H Q := r_isi (.bl i) kit_bb q
theorem r_isi_nb (q : Q (.bl false) H) : rIsi K [.non, .ty "bool"] H Q := r_isi .non kit_nb q
theorem r_isi_nt (q : Q (.bl false) H) : rIsi K [.non, .ty "tuple"] H Q := r_isi .non kit_nt q
theorem r_isi_ll {a : Addr} {xs : List V} (e : H a = some (.lst xs)) (q : Q (.bl true) H) : rIsi K [.ref a, .ty "list"] H Q := r_isi (.lst e) kit_ll q
theorem r_isi_tt {a : Addr} {xs : List V} (e : H a = some (.tup xs)) (q : Q (.bl true) H) : rIsi K [.ref a, .ty "tuple"] H Q := r_isi (.tup e) kit_tt q
end
theorem ite_notT {A B : Prop} (h : B) : if (!true) = true then A else B := h
theorem ite_notF {A B : Prop} (h : A) : if (!false) = true then A else B := h
/-! ### data at any depth -/
class Enc (α : Type) [DecidableEq α] where
  enc : α → PyData
  dep : Nat
  lay : ∀ x, (enc x).canLay0 = true
  dle : ∀ x, (enc x).depth ≤ dep
  eqv : ∀ x y, PyData.eqv (enc x) (enc y) = decide (x = y)
open Enc (enc)
instance encInt : Enc Int := ⟨.int, 0, fun _ => rfl, fun _ => Nat.le_refl _, fun x y => by rw [PyData.eqv]; exact Bool.beq_eq_decide_eq x y⟩
instance encBool : Enc Bool := ⟨.bool, 0, fun _ => rfl, fun _ => Nat.le_refl _, fun x y => by rw [PyData.eqv]; exact Bool.beq_eq_decide_eq x y⟩
theorem layAll {α : Type} [DecidableEq α] [Enc α] : ∀ xs : List α, PyData.canLayAll0 (xs.map enc) = true
  | [] => rfl
  | x :: xs => by rw [List.map_cons, PyData.canLayAll0, Enc.lay x, layAll xs]; rfl
theorem depAll {α : Type} [DecidableEq α] [Enc α] : ∀ xs : List α, PyData.depthAll (xs.map enc) ≤ Enc.dep α
  | [] => by rw [List.map_nil, PyData.depthAll]; exact Nat.zero_le _
  | x :: xs => by
    have h1 := depAll xs
    have h2 := Enc.dle x
    rw [List.map_cons]
    rw [PyData.depthAll]
    omega
theorem eqvAll {α : Type} [DecidableEq α] [Enc α] : ∀ xs ys : List α, PyData.eqvAll (xs.map enc) (ys.map enc) = decide (xs = ys)
  | .nil, .nil => by rw [List.map_nil, PyData.eqvAll]; exact (decide_eq_true rfl).symm
  | .nil, .cons b m => by simp [PyData.eqvAll, List.map_cons]
  | .cons a l, .nil => by simp [PyData.eqvAll, List.map_cons]
  | x :: xs, y :: ys => by
    rw [List.map_cons, List.map_cons, PyData.eqvAll, Enc.eqv, eqvAll xs ys]
    by_cases h : x = y <;> by_cases h' : xs = ys <;> simp [h, h']
instance encList {α : Type} [DecidableEq α] [Enc α] : Enc (List α) := ⟨fun xs => .list (xs.map enc), Enc.dep α + 1, fun xs => by rw [PyData.canLay0]; exact layAll xs,
  fun xs => by have := depAll xs; rw [PyData.depth]; omega, fun xs ys => by rw [PyData.eqv]; exact eqvAll xs ys⟩
instance encPair {α β : Type} [DecidableEq α] [DecidableEq β] [Enc α] [Enc β] : Enc (α × β) := ⟨fun x => .tuple [enc x.1, enc x.2], max (Enc.dep α) (Enc.dep β) + 1,
  fun x => by rw [PyData.canLay0, PyData.canLayAll0, PyData.canLayAll0, PyData.canLayAll0, Enc.lay, Enc.lay]; rfl,
  fun x => by
    have h1 := Enc.dle x.1
    have h2 := Enc.dle x.2
    rw [PyData.depth, PyData.depthAll, PyData.depthAll, PyData.depthAll]
    omega,
  fun x y => by
    rw [PyData.eqv, PyData.eqvAll, PyData.eqvAll, PyData.eqvAll, Enc.eqv, Enc.eqv]
    obtain ⟨a, b⟩ := x
    obtain ⟨c, d⟩ := y
    by_cases h : a = c <;> by_cases h' : b = d <;> simp [h, h']⟩
theorem shapedE {α : Type} [DecidableEq α] [Enc α] (hd : Enc.dep α ≤ 64) (x : α) : SeqAt.shaped (enc x) = true := by
  have h := Enc.dle x
  show ((enc x).canLay0 && decide ((enc x).depth ≤ 64)) = true
  rw [Bool.and_eq_true]
  exact ⟨Enc.lay x, decide_eq_true (by omega)⟩
theorem Same.sqT {K : PySem.W.Frag} {H H' : Hp} {a : Addr} {xs : List V} (e : Same H H') (h : SqT K H a xs) : SqT K H' a xs := by
  rcases h with (z | ⟨u, z⟩) | z
  · exact .inl (.inl (e _ _ z))
  · exact .inl (.inr ⟨u, e _ _ z⟩)
  · exact .inr z
mutual
theorem Dp.same {K : PySem.W.Frag} {H H' : Hp} (s : Same H H') : ∀ (d : PyData) (v : V), Dp K H v d → Dp K H' v d
  | .none, _, h => by cases h; exact .non
  | .bool b, _, h => by cases h; exact .bl b
  | .int i, _, h => by cases h; exact .int i
  | .str x, _, h => by cases h; exact .str x
  | .list ds, _, h => by
    cases h with
    | lst a b => exact .lst (s.seq a) (DpAll.same s ds _ b)
  | .tuple ds, _, h => by
    cases h with
    | tup a b => exact .tup (Same.sqT s a) (DpAll.same s ds _ b)
  | .dict _, _, h => by cases h
theorem DpAll.same {K : PySem.W.Frag} {H H' : Hp} (s : Same H H') : ∀ (ds : List PyData) (vs : List V), DpAll K H vs ds → DpAll K H' vs ds
  | [], _, h => by cases h; exact .nil
  | d :: ds, _, h => by
    cases h with
    | cons a b => exact .cons (Dp.same s d _ a) (DpAll.same s ds _ b)
end
/-- the value v is the datum x -/
def Is {α : Type} [DecidableEq α] [Enc α] (K : PySem.W.Frag) (H : Hp) (v : V) (x : α) : Prop := Dp K H v (enc x)
section
variable {K : PySem.W.Frag} {H H' : Hp} {Q : VK}
theorem Is.same {α : Type} [DecidableEq α] [Enc α] {v : V} {x : α} (h : Is K H v x) (s : Same H H') : Is K H' v x := Dp.same s _ _ h
theorem is_int {i : Int} : Is K H (.int i) i := .int i
theorem is_bl {i : Bool} : Is K H (.bl i) i := .bl i
theorem dpAll_ints : ∀ ns : List Int, DpAll K H (ns.map V.int) (ns.map enc)
  | [] => .nil
  | n :: ns => .cons (.int n) (dpAll_ints ns)
theorem is_ints {a : Addr} {ns : List Int} (h : SqL K H a (ns.map V.int)) : Is K H (.ref a) ns := .lst h (dpAll_ints ns)
theorem is_pair {α β : Type} [DecidableEq α] [DecidableEq β] [Enc α] [Enc β] {a : Addr} {u v : V} {x : α} {y : β} (h : SqT K H a [u, v]) (h1 : Is K H u x) (h2 : Is K H v y) : Is K H (.ref a) (x, y) := .tup h (.cons h1 (.cons h2 .nil))
theorem TL.dp : ∀ {ts : List Addr} {bs : List (Int × Int)}, TL bV H ts bs → DpAll K H (ts.map V.ref) (bs.map enc)
  | [], [], _ => .nil
  | [], _ :: _, h => by have := h.1; simp at this
  | _ :: _, [], h => by have := h.1; simp at this
  | t :: ts, b :: bs, h => by
    obtain ⟨x, e1, e2⟩ := h.2 0 t rfl
    have e1' : b = x := Option.some.inj e1
    subst e1'
    refine .cons (is_pair (SqT.of e2) is_int is_int) (TL.dp ⟨by have := h.1; simpa using this, fun i t' e => ?_⟩)
    obtain ⟨x, e3, e4⟩ := h.2 (i + 1) t' (by simpa using e)
    exact ⟨x, by simpa using e3, e4⟩
theorem LT.is {a : Addr} {bs : List (Int × Int)} (h : LT bV H a bs) : Is K H (.ref a) bs := let ⟨_, e, t⟩ := h; .lst (SqL.of e) t.dp
theorem r_neE {α : Type} [DecidableEq α] [Enc α] {u v : V} {x y : α} (h1 : Is K H u x) (h2 : Is K H v y) (hd : Enc.dep α ≤ 64) (q : Q (.bl (!decide (x = y))) H) : rNeD K u v H Q :=
  ⟨_, _, h1, h2, shapedE hd x, shapedE hd y, by rw [Enc.eqv]; exact q⟩
theorem r_neSame {u v : V} {d : PyData} (h1 : Dp K H u d) (h2 : Dp K H v d) (hs : SeqAt.shaped d = true) (q : Q (.bl false) H) : rNeD K u v H Q :=
  ⟨_, _, h1, h2, hs, hs, by rw [SeqAt.eqv_refl d (SeqAt.canLay_of_shaped hs)]; exact q⟩
theorem r_eqSame {u v : V} {d : PyData} (h1 : Dp K H u d) (h2 : Dp K H v d) (hs : SeqAt.shaped d = true) (q : Q (.bl true) H) : rEqD K u v H Q :=
  ⟨_, _, h1, h2, hs, hs, by rw [SeqAt.eqv_refl d (SeqAt.canLay_of_shaped hs)]; exact q⟩
theorem first_at {β : Type} {x : β} : ∀ {xs : List β}, x ∈ xs → ∃ j : Nat, xs[j]? = some x ∧ ∀ m : Nat, m < j → xs[m]? ≠ some x
  | y :: xs, h => by
    by_cases e : y = x
    · exact ⟨0, by rw [e]; rfl, fun m hm => by omega⟩
    · obtain h | h := List.mem_cons.mp h
      · exact absurd h.symm e
      · obtain ⟨j, h1, h2⟩ := first_at h
        refine ⟨j + 1, by simpa using h1, fun m hm => ?_⟩
        cases m with
        | zero => intro q; exact e (Option.some.inj q)
        | succ m => have := h2 m (by omega); simpa using this
theorem r_indexE {α : Type} [DecidableEq α] [Enc α] {a : Addr} {y : V} {xs : List α} {x : α} (h1 : Is K H (.ref a) xs) (h2 : Is K H y x) (hd : Enc.dep α + 1 ≤ 64) (hm : x ∈ xs) (q : ∀ j : Nat, xs[j]? = some x → Q (.int j) H) : rIndexD K (.ref a) [y] H Q := by
  obtain ⟨j, e1, e2⟩ := first_at hm
  refine ⟨a, y, enc x, xs.map enc, j, enc x, rfl, rfl, h1, h2, shapedE (α := List α) hd xs, shapedE (by omega) x, by rw [List.getElem?_map, e1]; rfl, by rw [Enc.eqv]; simp, fun m z' hm' hz => ?_, q j e1⟩
  rw [List.getElem?_map] at hz
  obtain ⟨u, hu, rfl⟩ := Option.map_eq_some_iff.mp hz
  rw [Enc.eqv]
  exact decide_eq_false fun e => e2 m hm' (by rw [hu, e])
theorem r_eqE {α : Type} [DecidableEq α] [Enc α] {u v : V} {x y : α} (h1 : Is K H u x) (h2 : Is K H v y) (hd : Enc.dep α ≤ 64) (q : Q (.bl (decide (x = y))) H) : rEqD K u v H Q :=
  ⟨_, _, h1, h2, shapedE hd x, shapedE hd y, by rw [Enc.eqv]; exact q⟩
end
/-! ### valid layouts -/
def VL (size : Int) : Int → List (Int × Int) → Prop
  | e, [] => e ≤ size
  | e, (s, l) :: r => e ≤ s ∧ 1 ≤ l ∧ VL size (s + l) r
def endOf : Int → List (Int × Int) → Int
  | e, [] => e
  | _, (s, l) :: r => endOf (s + l) r
theorem VL.snoc {size s l : Int} : ∀ {bs : List (Int × Int)} {e : Int}, VL size e bs → endOf e bs ≤ s → 1 ≤ l → s + l ≤ size → VL size e (bs ++ [(s, l)])
  | [], e, h, h1, h2, h3 => ⟨h1, h2, h3⟩
  | (a, c) :: r, e, h, h1, h2, h3 => ⟨h.1, h.2.1, VL.snoc h.2.2 h1 h2 h3⟩
theorem endOf_snoc {s l : Int} : ∀ (bs : List (Int × Int)) (e : Int), endOf e (bs ++ [(s, l)]) = s + l
  | [], _ => rfl
  | (a, c) :: r, _ => endOf_snoc r (a + c)
theorem VL.end_le {size : Int} : ∀ {bs : List (Int × Int)} {e : Int}, VL size e bs → endOf e bs ≤ size
  | [], _, h => h
  | (s, l) :: r, _, h => VL.end_le (bs := r) (e := s + l) h.2.2
theorem VL.le_size {size : Int} : ∀ {bs : List (Int × Int)} {e : Int}, VL size e bs → e ≤ size
  | [], _, h => h
  | (s, l) :: r, e, h => by
    have := VL.le_size h.2.2
    have := h.1
    have := h.2.1
    omega
theorem VL.mem {size : Int} : ∀ {bs : List (Int × Int)} {e : Int}, VL size e bs → ∀ x ∈ bs, e ≤ x.1 ∧ 1 ≤ x.2 ∧ x.1 + x.2 ≤ size
  | (s, l) :: r, e, h, x, hx => by
    obtain rfl | hx := List.mem_cons.mp hx
    · exact ⟨h.1, h.2.1, h.2.2.le_size⟩
    · have := VL.mem h.2.2 x hx
      have h1 := h.1
      have h2 := h.2.1
      omega
theorem VL.pw {size : Int} : ∀ {bs : List (Int × Int)} {e : Int}, VL size e bs → bs.Pairwise (fun a b => a.1 + a.2 ≤ b.1)
  | [], _, _ => .nil
  | (s, l) :: r, e, h => List.pairwise_cons.mpr ⟨fun x hx => (VL.mem h.2.2 x hx).1, VL.pw h.2.2⟩
/-- the cell's value: one more than the index of its block, or 0 -/
def cellOf (at_ : Int) : Int → List (Int × Int) → Int
  | _, [] => 0
  | k, (s, l) :: r => if s ≤ at_ ∧ at_ < s + l then k + 1 else cellOf at_ (k + 1) r
def Covers (bs : List (Int × Int)) (at_ : Int) : Prop := ∃ x ∈ bs, x.1 ≤ at_ ∧ at_ < x.1 + x.2
theorem cellOf_zero {at_ : Int} : ∀ {bs : List (Int × Int)} {k : Int}, 0 ≤ k → (cellOf at_ k bs = 0 ↔ ¬ Covers bs at_)
  | [], k, _ => by simp [cellOf, Covers]
  | (s, l) :: r, k, hk => by
    unfold cellOf
    by_cases c : s ≤ at_ ∧ at_ < s + l
    · rw [if_pos c]
      constructor
      · intro h; omega
      · intro h; exact absurd ⟨(s, l), List.mem_cons_self, c⟩ h
    · rw [if_neg c, cellOf_zero (bs := r) (by omega)]
      constructor
      · rintro h ⟨x, hx, hc⟩
        obtain rfl | hx := List.mem_cons.mp hx
        · exact c hc
        · exact h ⟨x, hx, hc⟩
      · rintro h ⟨x, hx, hc⟩
        exact h ⟨x, List.mem_cons_of_mem _ hx, hc⟩
theorem cellOf_take {at_ : Int} {size : Int} : ∀ {bs : List (Int × Int)} {e k : Int} {j : Nat} {x : Int × Int}, VL size e bs → bs[j]? = some x → (x.1 ≤ at_ ∧ at_ < x.1 + x.2) → cellOf at_ k bs = k + j + 1
  | (s, l) :: r, e, k, 0, x, h, ex, hc => by
    have e' : (s, l) = x := Option.some.inj ex
    subst e'
    unfold cellOf
    rw [if_pos hc]
    simp
  | (s, l) :: r, e, k, j + 1, x, h, ex, hc => by
    have ex' : r[j]? = some x := by simpa using ex
    have hm := VL.mem h.2.2 x (List.mem_of_getElem? ex')
    unfold cellOf
    rw [if_neg (by omega), cellOf_take h.2.2 ex' hc]
    omega
theorem cellOf_snoc {at_ : Int} {size : Int} : ∀ {bs : List (Int × Int)} {e c : Int} {k : Nat} {x : Int × Int}, VL size e bs → bs[k]? = some x → cellOf at_ c (bs.take (k + 1)) = if x.1 ≤ at_ ∧ at_ < x.1 + x.2 then c + k + 1 else cellOf at_ c (bs.take k)
  | (s, l) :: r, e, c, 0, x, h, ex => by
    have e' : (s, l) = x := Option.some.inj ex
    subst e'
    show cellOf at_ c [(s, l)] = _
    unfold cellOf
    simp only [List.take_zero, cellOf]
    simp
  | (s, l) :: r, e, c, k + 1, x, h, ex => by
    have ex' : r[k]? = some x := by simpa using ex
    have hm := VL.mem h.2.2 x (List.mem_of_getElem? ex')
    have ih := cellOf_snoc (at_ := at_) (c := c + 1) h.2.2 ex'
    rw [List.take_succ_cons, List.take_succ_cons, cellOf, cellOf, ih]
    by_cases q : s ≤ at_ ∧ at_ < s + l
    · rw [if_pos q, if_pos q, if_neg (by omega)]
    · rw [if_neg q, if_neg q]
      by_cases q2 : x.1 ≤ at_ ∧ at_ < x.1 + x.2
      · rw [if_pos q2, if_pos q2]; omega
      · rw [if_neg q2, if_neg q2]
def CellsOf (size : Int) (bs : List (Int × Int)) (cs : List Int) : Prop := (cs.length : Int) = size ∧ ∀ i, i < cs.length → cs[i]? = some (cellOf i 0 bs)
/-! ### maximal rows of zeros -/
def runsTo (c : Nat → Int) : Nat → List (Int × Int)
  | 0 => []
  | i + 1 => if c i = 0 then (if 0 < i ∧ c (i - 1) = 0 then (runsTo c i).dropLast ++ [(((runsTo c i).getLastD (0, 0)).1, ((runsTo c i).getLastD (0, 0)).2 + 1)] else runsTo c i ++ [((i : Int), 1)]) else runsTo c i
theorem runsTo_ne {c : Nat → Int} : ∀ {i : Nat}, 0 < i → c (i - 1) = 0 → runsTo c i ≠ []
  | i + 1, _, h => by
    rw [Nat.add_sub_cancel] at h
    rw [runsTo, if_pos h]
    split <;> simp
theorem runsTo_len {c : Nat → Int} : ∀ i : Nat, (runsTo c i).length ≤ i
  | 0 => Nat.le_refl _
  | i + 1 => by
    have ih := runsTo_len (c := c) i
    rw [runsTo]
    split
    · split
      · rename_i h
        have := runsTo_ne h.1 h.2
        have : 0 < (runsTo c i).length := List.length_pos_iff.mpr this
        simp
        omega
      · simp
        omega
    · omega
def gapsF (size : Int) : Int → List (Int × Int) → List (Int × Int)
  | e, [] => if size > e then [(e, size - e)] else []
  | e, (s, l) :: r => if s > e then (e, s - e) :: gapsF size (s + l) r else gapsF size (s + l) r
theorem runs_free {c : Nat → Int} {e : Nat} {G : List (Int × Int)} (h0 : runsTo c e = G) (hp : e = 0 ∨ c (e - 1) ≠ 0) : ∀ m : Nat, (∀ i, e ≤ i → i < e + m → c i = 0) → runsTo c (e + m) = if 0 < m then G ++ [((e : Int), (m : Int))] else G
  | 0, _ => by simpa using h0
  | m + 1, h => by
    have ih := runs_free h0 hp m (fun i h1 h2 => h i h1 (by omega))
    have hc : c (e + m) = 0 := h _ (by omega) (by omega)
    show runsTo c ((e + m) + 1) = _
    rw [runsTo, if_pos hc, ih]
    by_cases hm : 0 < m
    · have h1 : c (e + m - 1) = 0 := h _ (by omega) (by omega)
      rw [if_pos ⟨by omega, h1⟩, if_pos hm, if_pos (Nat.succ_pos _)]
      simp
    · have hm0 : m = 0 := by omega
      subst hm0
      rw [if_neg hm, if_pos (Nat.succ_pos _), if_neg (by
        rintro ⟨h1, h2⟩
        rcases hp with h3 | h3
        · omega
        · exact h3 h2)]
      simp
theorem runs_used {c : Nat → Int} {s : Nat} : ∀ m : Nat, (∀ i, s ≤ i → i < s + m → c i ≠ 0) → runsTo c (s + m) = runsTo c s
  | 0, _ => rfl
  | m + 1, h => by
    show runsTo c ((s + m) + 1) = _
    rw [runsTo, if_neg (h _ (by omega) (by omega))]
    exact runs_used m (fun i h1 h2 => h i h1 (by omega))
theorem runs_gaps {c : Nat → Int} {n : Nat} : ∀ {bs : List (Int × Int)} {e : Nat} {G : List (Int × Int)}, VL n e bs → (∀ i : Nat, e ≤ i → i < n → (c i = 0 ↔ ¬ Covers bs i)) → runsTo c e = G → (e = 0 ∨ c (e - 1) ≠ 0) → runsTo c n = G ++ gapsF n e bs
  | [], e, G, h, hc, h0, hp => by
    have h' : e ≤ n := by have : (e : Int) ≤ n := h; omega
    obtain ⟨m, rfl⟩ : ∃ m, n = e + m := ⟨n - e, by omega⟩
    rw [runs_free h0 hp m (fun i h1 h2 => (hc i h1 h2).mpr (by simp [Covers])), gapsF]
    by_cases hm : 0 < m
    · rw [if_pos hm, if_pos (by omega)]
      congr 3
      omega
    · rw [if_neg hm, if_neg (by omega)]
      simp
  | (s, l) :: r, e, G, h, hc, h0, hp => by
    obtain ⟨h1, h2, h3⟩ := h
    have h4 := h3.le_size
    obtain ⟨s', rfl⟩ : ∃ s' : Nat, s = s' := ⟨s.toNat, by omega⟩
    obtain ⟨l', rfl⟩ : ∃ l' : Nat, l = l' := ⟨l.toNat, by omega⟩
    obtain ⟨m, rfl⟩ : ∃ m, s' = e + m := ⟨s' - e, by omega⟩
    have nc : ∀ i : Nat, i < e + m → ¬ Covers ((((e + m : Nat) : Int), (l' : Int)) :: r) i := by
      rintro i hi ⟨x, hx, hcx⟩
      obtain rfl | hx := List.mem_cons.mp hx
      · simp only at hcx; omega
      · have := VL.mem h3 x hx
        omega
    have a1 := runs_free h0 hp m (fun i q1 q2 => (hc i q1 (by omega)).mpr (nc i q2))
    have a2 := runs_used (c := c) (s := e + m) l' (fun i q1 q2 q3 => (hc i (by omega) (by omega)).mp q3 ⟨_, List.mem_cons_self, by simp only; omega⟩)
    rw [a1] at a2
    have a3 := runs_gaps (c := c) (n := n) (bs := r) (e := e + m + l') (by rw [Int.natCast_add]; exact h3) (fun i q1 q2 => by
      rw [hc i (by omega) q2]
      constructor
      · rintro q3 ⟨x, hx, hcx⟩
        exact q3 ⟨x, List.mem_cons_of_mem _ hx, hcx⟩
      · rintro q3 ⟨x, hx, hcx⟩
        obtain rfl | hx := List.mem_cons.mp hx
        · simp only at hcx; omega
        · exact q3 ⟨x, hx, hcx⟩) a2 (.inr (fun q => (hc (e + m + l' - 1) (by omega) (by omega)).mp q ⟨_, List.mem_cons_self, by simp only; omega⟩))
    rw [a3, gapsF, Int.natCast_add (e + m) l']
    by_cases hm : 0 < m
    · rw [if_pos hm, if_pos (by omega)]
      simp
      omega
    · rw [if_neg hm, if_neg (by omega)]
/-! ### max(xs, default=d) -/
def rMaxD (K : PySem.W.Frag) : List V → List V → Hp → VK → Prop := fun vs zs H Q => ∃ (a : Addr) (ns : List Int) (d : Int), vs = [V.ref a] ∧ zs = [V.int d] ∧ SqL K H a (ns.map V.int) ∧
  Q (.int (match ns with | [] => d | n :: r => r.foldl max n)) H
theorem alike_ints (ns : List Int) : PySem.W.AlikeAll (ns.map PyData.int) := by
  refine ⟨fun x hx y hy => ?_, fun x hx => ?_⟩
  · obtain ⟨i, _, rfl⟩ := List.mem_map.mp hx
    obtain ⟨j, _, rfl⟩ := List.mem_map.mp hy
    rfl
  · obtain ⟨i, _, rfl⟩ := List.mem_map.mp hx
    intro h
    cases h
theorem cr_maxD {X : Cx} {k : Nat} (hc : X.calm = true) (hr : Room k X.A) : CallRK X (.builtin "max") [Str.ofString "default"] (rMaxD X.K) := by
  rintro pins s σ H vs zs us ws Q I r rz ⟨a, ns, d, rfl, rfl, hs, q⟩
  obtain rfl := Vals.ref1 r
  obtain ⟨w1, rfl, td, rfl⟩ := vals1 rz
  rcases I.list hs with ⟨its, rv, hl, -⟩
  obtain ⟨as, hra⟩ := Dp.readsAll I (ns.map PyData.int) _ its (dpAll_ints ns) rv
  have hu := hr.units
  refine PySem.W.max_list_default (I.ok.hd hc) hl.isList hra (alike_ints ns) (by rw [PySem.W.ke_depthAll]; omega) (fun e h' tk hk => ?_) (fun y ys i v h' tk bs e hv hrd hk => ?_)
  · cases ns with
    | nil => exact ⟨.int d, H, I.kept hk, ⟨_, rfl⟩, q⟩
    | cons n r => cases e
  · cases ns with
    | nil => cases e
    | cons n r =>
      rw [List.map_cons] at e
      injection e with e1 e2
      subst e1 e2
      rw [PySem.W.maxD_ints] at hrd
      cases hrd with
      | int i t => exact ⟨.int _, H, I.kept hk, ⟨_, rfl⟩, q⟩
/-! ### slices -/
theorem cut_take {xs : List V} {i : Nat} (h : i ≤ xs.length) : cutV xs none (some (i : Int)) = xs.take i := by
  unfold cutV
  rw [HT.sIx_none, HT.sIx_nat, List.drop_zero, Nat.sub_zero, Nat.min_eq_left h]
theorem cut_drop {xs : List V} {i : Nat} (h : i ≤ xs.length) : cutV xs (some (i : Int)) none = xs.drop i := by
  unfold cutV
  rw [HT.sIx_none, HT.sIx_nat, Nat.min_eq_left h, List.take_of_length_le]
  rw [List.length_drop]
  exact Nat.le_refl _
theorem TL.take {α : Type} {f : α → List V} {H : Hp} {ts : List Addr} {xs : List α} (h : TL f H ts xs) (n : Nat) : TL f H (ts.take n) (xs.take n) := by
  refine ⟨by rw [List.length_take, List.length_take, h.1], fun i t e => ?_⟩
  rw [List.getElem?_take] at e
  split at e
  · rename_i hi
    obtain ⟨x, e1, e2⟩ := h.2 i t e
    exact ⟨x, by rw [List.getElem?_take, if_pos hi]; exact e1, e2⟩
  · cases e
theorem TL.drop {α : Type} {f : α → List V} {H : Hp} {ts : List Addr} {xs : List α} (h : TL f H ts xs) (n : Nat) : TL f H (ts.drop n) (xs.drop n) := by
  refine ⟨by rw [List.length_drop, List.length_drop, h.1], fun i t e => ?_⟩
  rw [List.getElem?_drop] at e ⊢
  exact h.2 _ t e
theorem TL.append {α : Type} {f : α → List V} {H : Hp} {ts us : List Addr} {xs ys : List α} (h : TL f H ts xs) (h' : TL f H us ys) : TL f H (ts ++ us) (xs ++ ys) := by
  refine ⟨by rw [List.length_append, List.length_append, h.1, h'.1], fun i t e => ?_⟩
  by_cases hi : i < ts.length
  · rw [List.getElem?_append_left hi] at e
    obtain ⟨x, e1, e2⟩ := h.2 i t e
    exact ⟨x, by rw [List.getElem?_append_left (by rw [← h.1]; exact hi)]; exact e1, e2⟩
  · rw [List.getElem?_append_right (by omega)] at e
    obtain ⟨x, e1, e2⟩ := h'.2 _ t e
    exact ⟨x, by rw [List.getElem?_append_right (by rw [← h.1]; omega), ← h.1]; exact e1, e2⟩
/-! ### lists of ints that rise -/
theorem inc_ext : ∀ {l m : List Int}, l.Pairwise (· < ·) → m.Pairwise (· < ·) → (∀ x, x ∈ l ↔ x ∈ m) → l = m
  | [], [], _, _, _ => rfl
  | [], y :: m, _, _, h => absurd ((h y).mpr List.mem_cons_self) (by simp)
  | x :: l, [], _, _, h => absurd ((h x).mp List.mem_cons_self) (by simp)
  | .cons x l, .cons y m, hl, hm, h => by
    obtain ⟨l1, l2⟩ := List.pairwise_cons.mp hl
    obtain ⟨m1, m2⟩ := List.pairwise_cons.mp hm
    have e : x = y := by
      have a1 := (h x).mp List.mem_cons_self
      have a2 := (h y).mpr List.mem_cons_self
      obtain a1 | a1 := List.mem_cons.mp a1
      · exact a1
      · obtain a2 | a2 := List.mem_cons.mp a2
        · exact a2.symm
        · have := m1 x a1
          have := l1 y a2
          omega
    subst e
    rw [inc_ext l2 m2 fun z => ?_]
    constructor
    · intro hz
      rcases List.mem_cons.mp ((h z).mp (List.mem_cons_of_mem _ hz)) with e | q
      · have := l1 z hz
        omega
      · exact q
    · intro hz
      rcases List.mem_cons.mp ((h z).mpr (List.mem_cons_of_mem _ hz)) with e | q
      · have := m1 z hz
        omega
      · exact q
/-- the same in the order of pairs -/
def LexLe (a b : Int × Int) : Prop := a.1 < b.1 ∨ (a.1 = b.1 ∧ a.2 ≤ b.2)
theorem lex_uniq {l m : List (Int × Int)} (hl : l.Pairwise LexLe) (hm : m.Pairwise LexLe) (h : l.Perm m) : l = m := by
  refine List.Perm.eq_of_pairwise (le := LexLe) (fun a b _ _ h1 h2 => ?_) hl hm h
  unfold LexLe at h1 h2
  obtain ⟨a1, a2⟩ := a
  obtain ⟨b1, b2⟩ := b
  simp only at h1 h2
  rw [Prod.mk.injEq]
  omega
theorem VL.lex {size e : Int} {bs : List (Int × Int)} (h : VL size e bs) : bs.Pairwise LexLe := by
  have hm := h.mem
  refine (List.Pairwise.and_mem.mp h.pw).imp fun {a b} q => ?_
  have := hm a q.1
  unfold LexLe
  omega
end Pf

namespace Pf
open PySem L2
/-! ### programs as functions: what a def's model says, its run over the heap does -/
/-- addresses of objects that may still change -/
abbrev Ms := List Addr
/-- what stands frozen (outside ms) in H stands frozen (outside ms') in H' -/
def Mv (ms : Ms) (H : Hp) (ms' : Ms) (H' : Hp) : Prop := ∀ a o, a ∉ ms → H a = some o → a ∉ ms' ∧ H' a = some o
/-- all but what stands at B is as it was, and what was there is there -/
def Bu (B : Ms) (H H' : Hp) : Prop := (∀ a o, a ∉ B → H a = some o → H' a = some o) ∧ ∀ a, H a ≠ none → H' a ≠ none
/-- these addresses are taken -/
def Al (ms : Ms) (H : Hp) : Prop := ∀ a ∈ ms, H a ≠ none
section
variable {B ms ms' ms'' : Ms} {H H' H'' : Hp} {p m : Addr} {o : HO}
theorem Bu.refl (B : Ms) (H : Hp) : Bu B H H := ⟨fun _ _ _ e => e, fun _ e => e⟩
theorem Bu.trans (x : Bu B H H') (y : Bu B H' H'') : Bu B H H'' := ⟨fun a o n e => y.1 a o n (x.1 a o n e), fun a e => y.2 a (x.2 a e)⟩
theorem Bu.same (s : Same H H') : Bu B H H' := ⟨fun a o _ e => s a o e, fun a e => by
  cases h : H a with
  | none => exact absurd h e
  | some o => rw [s a o h]; exact fun z => by cases z⟩
theorem Bu.to_same (x : Bu [] H H') : Same H H' := fun a o e => x.1 a o (by simp) e
theorem Mv.refl : Mv ms H ms H := fun _ _ n e => ⟨n, e⟩
theorem Mv.trans (x : Mv ms H ms' H') (y : Mv ms' H' ms'' H'') : Mv ms H ms'' H'' := fun a o n e => let ⟨n1, e1⟩ := x a o n e; y a o n1 e1
theorem Mv.same (s : Same H H') : Mv ms H ms H' := fun a o n e => ⟨n, s a o e⟩
theorem Mv.bu (hB : ∀ a ∈ B, a ∈ ms) (x : Bu B H H') : Mv ms H ms H' := fun a o n e => ⟨n, x.1 a o (fun z => n (hB a z)) e⟩
theorem Mv.but (hm : m ∈ ms) (s : But m H H') : Mv ms H ms H' := fun a o n e => ⟨n, s a o (fun z => n (z ▸ hm)) e⟩
theorem Mv.new (np : H p = none) (s : Same H H') : Mv ms H (p :: ms) H' := fun a o n e => ⟨fun z => by
  obtain z | z := List.mem_cons.mp z
  · rw [z, np] at e; cases e
  · exact n z, s a o e⟩
theorem Mv.less (h : ∀ a ∈ ms', a ∈ ms) : Mv ms H ms' H := fun a o n e => ⟨fun z => n (h a z), e⟩
theorem Al.bu (h : Al ms H) (x : Bu B H H') : Al ms H' := fun a m => x.2 a (h a m)
theorem Al.same (h : Al ms H) (s : Same H H') : Al ms H' := h.bu (B := []) (Bu.same s)
theorem Al.not (h : Al ms H) (np : H p = none) : p ∉ ms := fun m => h p m np
theorem Al.but (h : Al ms H) (s : But m H H') (e : H' m = some o) : Al ms H' := fun a ha => by
  by_cases q : a = m
  · rw [q, e]; exact fun z => by cases z
  · cases h' : H a with
    | none => exact absurd h' (h a ha)
    | some o' => rw [s a o' q h']; exact fun z => by cases z
theorem Al.cons (h : Al ms H) (e : H p = some o) : Al (p :: ms) H := fun a ha => by
  obtain z | z := List.mem_cons.mp ha
  · rw [z, e]; exact fun z => by cases z
  · exact h a z
theorem Al.less (h : Al ms H) (l : ∀ a ∈ ms', a ∈ ms) : Al ms' H := fun a ha => h a (l a ha)
/-- a list of one's own, changed: seen from the entry nothing has changed -/
theorem Bu.own (x : Bu B H H') (n : H p = none) (s : But p H' H'') (e : H'' p = some o) : Bu B H H'' := ⟨fun a o na ea => s a o (fun z => by rw [z, n] at ea; cases ea) (x.1 a o na ea), fun a ea => by
  by_cases q : a = p
  · rw [q] at ea; exact absurd n ea
  · have := x.2 a ea
    cases h' : H' a with
    | none => exact absurd h' this
    | some o' => rw [s a o' q h']; exact fun z => by cases z⟩
theorem Bu.none (x : Bu B H H') (n : H' p = Option.none) : H p = Option.none := by
  cases h : H p with
  | none => rfl
  | some o => exact absurd n (x.2 p (by rw [h]; exact fun z => by cases z))
end
theorem notc {a m : Addr} {B : Ms} (n : a ∉ m :: B) : a ≠ m ∧ a ∉ B := ⟨fun z => n (z ▸ List.mem_cons_self), fun z => n (List.mem_cons_of_mem _ z)⟩
theorem nin {a m : Addr} {B : Ms} (h : a ≠ m) (n : a ∉ B) : a ∉ m :: B := fun z => by
  obtain z | z := List.mem_cons.mp z
  · exact h z
  · exact n z
theorem nab {a D : Addr} {B : Ms} (h : a ∈ B) (n : D ∉ B) : a ≠ D := fun z => n (z ▸ h)
/-- how a value stands for a datum -/
class Rp (α : Type) where
  rp : Ms → Hp → V → α → Prop
  mv : ∀ {ms ms' : Ms} {H H' : Hp} {v : V} {x : α}, rp ms H v x → Mv ms H ms' H' → rp ms' H' v x
open Rp (rp)
/-- item by item -/
def RL {α : Type} (r : V → α → Prop) : List V → List α → Prop
  | [], [] => True
  | v :: vs, x :: xs => r v x ∧ RL r vs xs
  | _, _ => False
theorem RL.imp {α : Type} {r r' : V → α → Prop} (h : ∀ v x, r v x → r' v x) : ∀ {vs : List V} {xs : List α}, RL r vs xs → RL r' vs xs
  | [], [], _ => trivial
  | _ :: _, _ :: _, ⟨a, b⟩ => ⟨h _ _ a, RL.imp h b⟩
theorem RL.len {α : Type} {r : V → α → Prop} : ∀ {vs : List V} {xs : List α}, RL r vs xs → vs.length = xs.length
  | [], [], _ => rfl
  | _ :: _, _ :: _, ⟨_, b⟩ => by rw [List.length_cons, List.length_cons, RL.len b]
theorem RL.get {α : Type} {r : V → α → Prop} : ∀ {vs : List V} {xs : List α} {i : Nat} {v : V}, RL r vs xs → vs[i]? = some v → ∃ x, xs[i]? = some x ∧ r v x
  | [], _us, _, _, _, e => by simp at e
  | _ :: _, _ :: _, 0, _, ⟨a, _⟩, e => ⟨_, rfl, by cases e; exact a⟩
  | _ :: _, _ :: _, i + 1, _, ⟨_, b⟩, e => by
    obtain ⟨x, e1, e2⟩ := RL.get b (i := i) (by simpa using e)
    exact ⟨x, by simpa using e1, e2⟩
theorem RL.get' {α : Type} {r : V → α → Prop} : ∀ {vs : List V} {xs : List α} {i : Nat} {x : α}, RL r vs xs → xs[i]? = some x → ∃ v, vs[i]? = some v ∧ r v x
  | _us, [], _, _, _, e => by simp at e
  | _ :: _, _ :: _, 0, _, ⟨a, _⟩, e => ⟨_, rfl, by cases e; exact a⟩
  | _ :: _, _ :: _, i + 1, _, ⟨_, b⟩, e => by
    obtain ⟨x, e1, e2⟩ := RL.get' b (i := i) (by simpa using e)
    exact ⟨x, by simpa using e1, e2⟩
theorem RL.app {α : Type} {r : V → α → Prop} : ∀ {vs : List V} {xs : List α} {us : List V} {ys : List α}, RL r vs xs → RL r us ys → RL r (vs ++ us) (xs ++ ys)
  | [], [], _, _, _, h => h
  | _ :: _, _ :: _, _, _, ⟨a, b⟩, h => ⟨a, RL.app b h⟩
theorem RL.snoc {α : Type} {r : V → α → Prop} {vs : List V} {xs : List α} {v : V} {x : α} (h : RL r vs xs) (e : r v x) : RL r (vs ++ [v]) (xs ++ [x]) := h.app ⟨e, trivial⟩
theorem RL.set {α : Type} {r : V → α → Prop} : ∀ {vs : List V} {xs : List α} {i : Nat} {v : V} {x : α}, RL r vs xs → r v x → RL r (vs.set i v) (xs.set i x)
  | [], [], _, _, _, _, _ => trivial
  | _ :: _, _ :: _, 0, _, _, ⟨_, b⟩, e => ⟨e, b⟩
  | _ :: _, _ :: _, i + 1, _, _, ⟨a, b⟩, e => ⟨a, RL.set b e⟩
theorem RL.erase {α : Type} {r : V → α → Prop} : ∀ {vs : List V} {xs : List α} {i : Nat}, RL r vs xs → RL r (vs.eraseIdx i) (xs.eraseIdx i)
  | [], [], _, _ => trivial
  | _ :: _, _ :: _, 0, ⟨_, b⟩ => b
  | _ :: _, _ :: _, i + 1, ⟨a, b⟩ => ⟨a, RL.erase b⟩
theorem RL.take {α : Type} {r : V → α → Prop} : ∀ {vs : List V} {xs : List α} {i : Nat}, RL r vs xs → RL r (vs.take i) (xs.take i)
  | _, _, 0, _ => by rw [List.take_zero, List.take_zero]; trivial
  | [], [], _ + 1, _ => trivial
  | _ :: _, _ :: _, i + 1, ⟨a, b⟩ => ⟨a, RL.take b⟩
theorem RL.drop {α : Type} {r : V → α → Prop} : ∀ {vs : List V} {xs : List α} {i : Nat}, RL r vs xs → RL r (vs.drop i) (xs.drop i)
  | _, _, 0, h => h
  | [], [], _ + 1, _ => trivial
  | v :: vs, x :: xs, i + 1, h => by
    show RL r (vs.drop i) (xs.drop i)
    exact RL.drop h.2
theorem RL.ints {r : V → Int → Prop} (h : ∀ v x, r v x → v = .int x) : ∀ {vs : List V} {xs : List Int}, RL r vs xs → vs = xs.map V.int
  | [], [], _ => rfl
  | _ :: _, _ :: _, ⟨a, b⟩ => by rw [h _ _ a, RL.ints h b]; rfl
theorem RL.bools {r : V → Bool → Prop} (h : ∀ v x, r v x → v = .bl x) : ∀ {vs : List V} {xs : List Bool}, RL r vs xs → vs = xs.map V.bl
  | [], [], _ => rfl
  | _ :: _, _ :: _, ⟨a, b⟩ => by rw [h _ _ a, RL.bools h b]; rfl
theorem RL.of_map {β : Type} {r : V → β → Prop} {f : β → V} (h : ∀ x, r (f x) x) : ∀ xs : List β, RL r (xs.map f) xs
  | [] => trivial
  | x :: xs => ⟨h x, RL.of_map h xs⟩
instance : Rp Int := ⟨fun _ _ v x => v = .int x, fun h _ => h⟩
instance : Rp Bool := ⟨fun _ _ v x => v = .bl x, fun h _ => h⟩
instance : Rp Str := ⟨fun _ _ v x => v = .str x, fun h _ => h⟩
instance : Rp Unit := ⟨fun _ _ v _ => v = .non, fun h _ => h⟩
instance {α : Type} [Rp α] : Rp (Option α) := ⟨fun ms H v x => match x with | none => v = .non | some y => rp ms H v y, fun {ms ms' H H' v x} h M => by
  cases x with
  | none => exact h
  | some y => exact Rp.mv h M⟩
/-- a list stands at a -/
def Ls {α : Type} [Rp α] (ms : Ms) (H : Hp) (a : Addr) (xs : List α) : Prop := ∃ vs, H a = some (.lst vs) ∧ RL (rp ms H) vs xs ∧ vs.length ≤ sizeLine
theorem Ls.step {α : Type} [Rp α] {ms ms' : Ms} {H H' : Hp} {a : Addr} {xs : List α} (h : Ls ms H a xs) (M : Mv ms H ms' H') (e : ∀ o, H a = some o → H' a = some o) : Ls ms' H' a xs :=
  let ⟨vs, e1, r, l⟩ := h; ⟨vs, e _ e1, r.imp fun _ _ z => Rp.mv z M, l⟩
theorem Ls.same {α : Type} [Rp α] {ms : Ms} {H H' : Hp} {a : Addr} {xs : List α} (h : Ls ms H a xs) (s : Same H H') : Ls ms H' a xs := h.step (Mv.same s) fun o e => s a o e
theorem Ls.but {α : Type} [Rp α] {ms : Ms} {H H' : Hp} {a m : Addr} {xs : List α} (h : Ls ms H a xs) (hm : m ∈ ms) (n : a ≠ m) (s : But m H H') : Ls ms H' a xs := h.step (Mv.but hm s) fun o e => s a o n e
theorem Ls.bu {α : Type} [Rp α] {B ms : Ms} {H H' : Hp} {a : Addr} {xs : List α} (h : Ls ms H a xs) (hB : ∀ a ∈ B, a ∈ ms) (n : a ∉ B) (s : Bu B H H') : Ls ms H' a xs := h.step (Mv.bu hB s) fun o e => s.1 a o n e
theorem Ls.new {α : Type} [Rp α] {ms : Ms} {H H' : Hp} {a p : Addr} {xs : List α} (h : Ls ms H a xs) (np : H p = none) (s : Same H H') : Ls (p :: ms) H' a xs := h.step (Mv.new np s) fun o e => s a o e
theorem Ls.less {α : Type} [Rp α] {ms ms' : Ms} {H : Hp} {a : Addr} {xs : List α} (h : Ls ms H a xs) (l : ∀ a ∈ ms', a ∈ ms) : Ls ms' H a xs := h.step (Mv.less l) fun o e => e
theorem Ls.len {α : Type} [Rp α] {ms : Ms} {H : Hp} {a : Addr} {xs : List α} (h : Ls ms H a xs) : xs.length ≤ sizeLine := by obtain ⟨vs, _, r, l⟩ := h; rw [← r.len]; exact l
theorem Ls.alive {α : Type} [Rp α] {ms : Ms} {H : Hp} {a : Addr} {xs : List α} (h : Ls ms H a xs) : H a ≠ none := by obtain ⟨vs, e, _⟩ := h; rw [e]; exact fun z => by cases z
theorem Ls.ne {α : Type} [Rp α] {ms : Ms} {H : Hp} {a p : Addr} {xs : List α} (h : Ls ms H a xs) (np : H p = none) : a ≠ p := fun z => h.alive (z ▸ np)
instance instRpList {α : Type} [Rp α] : Rp (List α) := ⟨fun ms H v xs => ∃ a, v = .ref a ∧ a ∉ ms ∧ Ls ms H a xs, fun {ms ms' H H' v x} h M => by
  obtain ⟨a, rfl, n, vs, e, r, l⟩ := h
  obtain ⟨n', e'⟩ := M a _ n e
  exact ⟨a, rfl, n', vs, e', r.imp fun _ _ z => Rp.mv z M, l⟩⟩
instance instRpProd {α β : Type} [Rp α] [Rp β] : Rp (α × β) := ⟨fun ms H v x => ∃ a u w, v = .ref a ∧ a ∉ ms ∧ H a = some (.tup [u, w]) ∧ rp ms H u x.1 ∧ rp ms H w x.2, fun {ms ms' H H' v x} h M => by
  obtain ⟨a, u, w, rfl, n, e, r1, r2⟩ := h
  obtain ⟨n', e'⟩ := M a _ n e
  exact ⟨a, u, w, rfl, n', e', Rp.mv r1 M, Rp.mv r2 M⟩⟩
/-- a tuple of three -/
structure T3 (α β γ : Type) : Type where
  a : α
  b : β
  c : γ
deriving DecidableEq
instance instRpT3 {α β γ : Type} [Rp α] [Rp β] [Rp γ] : Rp (T3 α β γ) := ⟨fun ms H v x => ∃ a u w y, v = .ref a ∧ a ∉ ms ∧ H a = some (.tup [u, w, y]) ∧ rp ms H u x.a ∧ rp ms H w x.b ∧ rp ms H y x.c, fun {ms ms' H H' v x} h M => by
  obtain ⟨a, u, w, y, rfl, n, e, r1, r2, r3⟩ := h
  obtain ⟨n', e'⟩ := M a _ n e
  exact ⟨a, u, w, y, rfl, n', e', Rp.mv r1 M, Rp.mv r2 M, Rp.mv r3 M⟩⟩
/-- a list of two unlike items -/
structure L2P (α β : Type) : Type where
  a : α
  b : β
deriving DecidableEq
instance instRpL2P {α β : Type} [Rp α] [Rp β] : Rp (L2P α β) := ⟨fun ms H v x => ∃ a u w, v = .ref a ∧ a ∉ ms ∧ H a = some (.lst [u, w]) ∧ rp ms H u x.a ∧ rp ms H w x.b, fun {ms ms' H H' v x} h M => by
  obtain ⟨a, u, w, rfl, n, e, r1, r2⟩ := h
  obtain ⟨n', e'⟩ := M a _ n e
  exact ⟨a, u, w, rfl, n', e', Rp.mv r1 M, Rp.mv r2 M⟩⟩
/-- the arguments of a def -/
class RpA (ι : Type) where
  ra : Ms → Hp → List V → ι → Prop
  mv : ∀ {ms ms' : Ms} {H H' : Hp} {vs : List V} {x : ι}, ra ms H vs x → Mv ms H ms' H' → ra ms' H' vs x
open RpA (ra)
instance instRpANil : RpA Unit := ⟨fun _ _ vs _ => vs = [], fun h _ => h⟩
instance instRpACons {α ι : Type} [Rp α] [RpA ι] : RpA (α × ι) := ⟨fun ms H vs x => ∃ v us, vs = v :: us ∧ rp ms H v x.1 ∧ ra ms H us x.2, fun {ms ms' H H' v x} h M => by
  obtain ⟨v, us, rfl, r1, r2⟩ := h
  exact ⟨v, us, rfl, Rp.mv r1 M, RpA.mv r2 M⟩⟩
/-! ### the model's words -/
def bnd {α β : Type} (x : α) (k : α → Option β) : Option β := k x
theorem bnd_inv {α β : Type} {x : α} {k : α → Option β} {r : β} (h : bnd x k = some r) : ∃ y, y = x ∧ k y = some r := ⟨_, rfl, h⟩
theorem bind_inv {α β : Type} {x : Option α} {k : α → Option β} {r : β} (h : x.bind k = some r) : ∃ y, x = some y ∧ k y = some r := by
  cases x with
  | none => cases h
  | some y => exact ⟨y, rfl, h⟩
/-- a turn: on, or out with an answer -/
inductive Fl (ρ s : Type) where
  | ret (r : ρ)
  | go (x : s)
def fold {α s : Type} (f : α → s → Option s) : List α → s → Option s
  | [], x => some x
  | a :: as, x => (f a x).bind fun y => fold f as y
def loop {α s ρ : Type} (f : α → s → Option (Fl ρ s)) : List α → s → Option (Fl ρ s)
  | [], x => some (.go x)
  | a :: as, x => (f a x).bind fun y => match y with | .ret r => some (.ret r) | .go z => loop f as z
/-- a comprehension: what is kept, in order -/
def coll {α β s : Type} (f : α → s → Option (Option β × s)) : List α → s → Option (List β × s)
  | [], x => some ([], x)
  | a :: as, x => (f a x).bind fun y => (coll f as y.2).bind fun z => some (y.1.toList ++ z.1, z.2)
/-- a comprehension that draws nothing -/
def colP {α β : Type} (f : α → Option (Option β)) : List α → Option (List β)
  | [] => some []
  | a :: as => (f a).bind fun y => (colP f as).bind fun z => some (y.toList ++ z)
def appF {α : Type} (xs : List α) (x : α) : Option (List α) := if xs.length < sizeLine then some (xs ++ [x]) else none
def catF {α : Type} (xs ys : List α) : Option (List α) := if xs.length + ys.length ≤ sizeLine then some (xs ++ ys) else none
def rngL (lo : Int) (n : Nat) : List Int := (List.range n).map fun i : Nat => lo + (i : Int)
def rng2 (lo hi : Int) : Option (List Int) := if -(2 ^ 62) ≤ lo ∧ lo < 2 ^ 62 ∧ -(2 ^ 62) ≤ hi ∧ hi < 2 ^ 62 ∧ (hi - lo).toNat ≤ sizeLine then some (rngL lo (hi - lo).toNat) else none
def rng1 (hi : Int) : Option (List Int) := if -(2 ^ 62) ≤ hi ∧ hi < 2 ^ 62 ∧ hi.toNat ≤ sizeLine then some (rngL 0 hi.toNat) else none
def enumL {α : Type} (xs : List α) : List (Int × α) := xs.mapIdx fun i x => ((i : Int), x)
def setF {α : Type} (xs : List α) (i : Int) (x : α) : Option (List α) := (ixN xs.length i).bind fun j => some (xs.set j x)
/-! ### the judgement: an expression gives x; B may change, from p to q -/
structure Wd (B ms : Ms) (H : Hp) : Prop where
  hB : ∀ a ∈ B, a ∈ ms
  al : Al ms H
theorem Wd.bu {B ms : Ms} {H H' : Hp} (W : Wd B ms H) (x : Bu B H H') : Wd B ms H' := ⟨W.hB, W.al.bu x⟩
theorem Wd.mv {B ms : Ms} {H H' : Hp} (W : Wd B ms H) (x : Bu B H H') : Mv ms H ms H' := Mv.bu W.hB x
abbrev Hq := Ms → Hp → Prop
def Ex {α : Type} [Rp α] (B ms : Ms) (te : TE) (σ : St) (H0 : Hp) (p : Hq) (x : α) (q : Hq) : Prop :=
  ∀ H, Bu B H0 H → p ms H → ∀ Q : VK, (∀ v H', Bu B H H' → q ms H' → rp ms H' v x → Q v H') → te σ H Q
/-- a list that is made -/
def En {α : Type} [Rp α] (B ms : Ms) (te : TE) (σ : St) (H0 : Hp) (p : Hq) (xs : List α) (q : Hq) : Prop :=
  ∀ H, Bu B H0 H → p ms H → ∀ Q : VK, (∀ a H', Bu B H H' → q (a :: ms) H' → H a = none → a ∉ ms → Ls (a :: ms) H' a xs → Q (.ref a) H') → te σ H Q
/-- a list to be read, frozen or not -/
def El {α : Type} [Rp α] (B ms : Ms) (te : TE) (σ : St) (H0 : Hp) (p : Hq) (xs : List α) (q : Hq) : Prop :=
  ∀ H, Bu B H0 H → p ms H → ∀ Q : VK, (∀ a H', Bu B H H' → q ms H' → a ∉ B → Ls ms H' a xs → Q (.ref a) H') → te σ H Q
def Et (B ms : Ms) (tt : TT) (σ : St) (H0 : Hp) (p : Hq) (c : Bool) (q : Hq) : Prop :=
  ∀ H, Bu B H0 H → p ms H → ∀ R : Bool → Hp → Prop, (∀ H', Bu B H H' → q ms H' → R c H') → tt σ H R
def Ea {ι : Type} [RpA ι] (B ms : Ms) (ta : TA) (σ : St) (H0 : Hp) (p : Hq) (x : ι) (q : Hq) : Prop :=
  ∀ H, Bu B H0 H → p ms H → ∀ Q : List V → Hp → Prop, (∀ vs H', Bu B H H' → q ms H' → ra ms H' vs x → Q vs H') → ta σ H Q
/-- stays when what is frozen, and what stands at B, stays -/
def Sb (B : Ms) (q : Hq) : Prop := ∀ ms ms' H H', q ms H → Mv ms H ms' H' → (∀ a ∈ B, ∀ o, H a = some o → H' a = some o) → q ms' H'
theorem Sb.same {B ms : Ms} {q : Hq} {H H' : Hp} (h : Sb B q) (s : Same H H') (z : q ms H) : q ms H' := h _ _ _ _ z (Mv.same s) fun a _ o e => s a o e
def Tr : Hq := fun _ _ => True
theorem sb_tr {B : Ms} : Sb B Tr := fun _ _ _ _ _ _ _ => trivial
section
variable {α β γ : Type} [Rp α] [Rp β] [Rp γ] {K : PySem.W.Frag} {B ms : Ms} {σ : St} {H0 : Hp} {p q r : Hq} {ta tb tc te : TE} {x : α} {y : β} {z : γ}
theorem Ex.use {H : Hp} {Q : VK} (h : Ex B ms te σ H p x q) (hp : p ms H) (k : ∀ v H', Bu B H H' → q ms H' → rp ms H' v x → Q v H') : te σ H Q := h H (Bu.refl B H) hp Q k
theorem Et.use {tt : TT} {c : Bool} {H : Hp} {R : Bool → Hp → Prop} (h : Et B ms tt σ H p c q) (hp : p ms H) (k : ∀ H', Bu B H H' → q ms H' → R c H') : tt σ H R := h H (Bu.refl B H) hp R k
theorem El.use {xs : List α} {H : Hp} {Q : VK} (h : El B ms te σ H p xs q) (hp : p ms H) (k : ∀ a H', Bu B H H' → q ms H' → a ∉ B → Ls ms H' a xs → Q (.ref a) H') : te σ H Q := h H (Bu.refl B H) hp Q k
theorem Ex.later {H : Hp} (h : Ex B ms te σ H0 p x q) (b : Bu B H0 H) : Ex B ms te σ H p x q := fun H1 b1 hp Q k => h H1 (b.trans b1) hp Q k
theorem ex_var (W : Wd B ms H0) {i : Nat} {v : V} (hs : σ[i]? = some (some v)) (h : rp ms H0 v x) : Ex B ms (tVar i) σ H0 p x p := fun H b hp Q k => ⟨v, hs, k v H (Bu.refl B H) hp (Rp.mv h (W.mv b))⟩
theorem ex_int (n : Int) : Ex B ms (tC (.int n)) σ H0 p n p := fun H b hp Q k => k _ H (Bu.refl B H) hp rfl
theorem ex_bl (n : Bool) : Ex B ms (tC (.bl n)) σ H0 p n p := fun H b hp Q k => k _ H (Bu.refl B H) hp rfl
theorem ex_str (n : Str) : Ex B ms (tC (.str n)) σ H0 p n p := fun H b hp Q k => k _ H (Bu.refl B H) hp rfl
theorem ex_non : Ex B ms (tC .non) σ H0 p (none : Option α) p := fun H b hp Q k => k _ H (Bu.refl B H) hp rfl
theorem ex_some (h : Ex B ms te σ H0 p x q) : Ex B ms te σ H0 p (some x) q := h
/-- the same judged of the same datum, said otherwise -/
theorem ex_eq {x' : α} (e : x = x') (h : Ex B ms te σ H0 p x q) : Ex B ms te σ H0 p x' q := e ▸ h
theorem ex_opI0 {g : Int → Int → V} {i j : Int} (hg : ∀ ms H, rp ms H (g i j) z) (ha : Ex B ms ta σ H0 p i q) (hb : Ex B ms tb σ H0 q j r) : Ex B ms (tOp (rI0 g) ta tb) σ H0 p z r :=
  fun H b hp Q k => ha H b hp _ fun v H1 b1 q1 e1 => hb H1 (b.trans b1) q1 _ fun u H2 b2 q2 e2 => ⟨i, j, e1, e2, k _ H2 (b1.trans b2) q2 (hg _ _)⟩
theorem ex_opI {C : Int → Int → Prop} {g : Int → Int → V} {i j : Int} (hc : C i j) (hg : ∀ ms H, rp ms H (g i j) z) (ha : Ex B ms ta σ H0 p i q) (hb : Ex B ms tb σ H0 q j r) : Ex B ms (tOp (rI C g) ta tb) σ H0 p z r :=
  fun H b hp Q k => ha H b hp _ fun v H1 b1 q1 e1 => hb H1 (b.trans b1) q1 _ fun u H2 b2 q2 e2 => ⟨i, j, e1, e2, hc, k _ H2 (b1.trans b2) q2 (hg _ _)⟩
theorem ex_opU {g : Int → V} {i : Int} (hg : ∀ ms H, rp ms H (g i) z) (ha : Ex B ms ta σ H0 p i q) : Ex B ms (tUn (rU g) ta) σ H0 p z q :=
  fun H b hp Q k => ha H b hp _ fun v H1 b1 q1 e1 => ⟨i, e1, k _ H1 b1 q1 (hg _ _)⟩
theorem ex_eqI {i j : Int} (ha : Ex B ms ta σ H0 p i q) (hb : Ex B ms tb σ H0 q j r) : Ex B ms (tOp rEq ta tb) σ H0 p (decide (i = j)) r :=
  fun H b hp Q k => ha H b hp _ fun v H1 b1 q1 e1 => hb H1 (b.trans b1) q1 _ fun u H2 b2 q2 e2 => by
    have e1' : v = .int i := e1
    have e2' : u = .int j := e2
    subst e1' e2'
    exact r_eqI (k _ H2 (b1.trans b2) q2 rfl)
theorem ex_neI {i j : Int} (ha : Ex B ms ta σ H0 p i q) (hb : Ex B ms tb σ H0 q j r) : Ex B ms (tOp rNe ta tb) σ H0 p (!decide (i = j)) r :=
  fun H b hp Q k => ha H b hp _ fun v H1 b1 q1 e1 => hb H1 (b.trans b1) q1 _ fun u H2 b2 q2 e2 => by
    have e1' : v = .int i := e1
    have e2' : u = .int j := e2
    subst e1' e2'
    exact r_neI (k _ H2 (b1.trans b2) q2 rfl)
theorem ex_eqB {i j : Bool} (ha : Ex B ms ta σ H0 p i q) (hb : Ex B ms tb σ H0 q j r) : Ex B ms (tOp rEq ta tb) σ H0 p (decide (i = j)) r :=
  fun H b hp Q k => ha H b hp _ fun v H1 b1 q1 e1 => hb H1 (b.trans b1) q1 _ fun u H2 b2 q2 e2 => by
    have e1' : v = .bl i := e1
    have e2' : u = .bl j := e2
    subst e1' e2'
    exact r_eqB (k _ H2 (b1.trans b2) q2 rfl)
theorem ex_neB {i j : Bool} (ha : Ex B ms ta σ H0 p i q) (hb : Ex B ms tb σ H0 q j r) : Ex B ms (tOp rNe ta tb) σ H0 p (!decide (i = j)) r :=
  fun H b hp Q k => ha H b hp _ fun v H1 b1 q1 e1 => hb H1 (b.trans b1) q1 _ fun u H2 b2 q2 e2 => by
    have e1' : v = .bl i := e1
    have e2' : u = .bl j := e2
    subst e1' e2'
    exact r_neB (k _ H2 (b1.trans b2) q2 rfl)
theorem ex_eqS {i j : Str} (ha : Ex B ms ta σ H0 p i q) (hb : Ex B ms tb σ H0 q j r) : Ex B ms (tOp rEq ta tb) σ H0 p (decide (i = j)) r :=
  fun H b hp Q k => ha H b hp _ fun v H1 b1 q1 e1 => hb H1 (b.trans b1) q1 _ fun u H2 b2 q2 e2 => by
    have e1' : v = .str i := e1
    have e2' : u = .str j := e2
    subst e1' e2'
    refine ⟨rfl, ?_⟩
    rw [show decide (V.str i = V.str j) = decide (i = j) by simp]
    exact k _ H2 (b1.trans b2) q2 rfl
/-! truth -/
theorem et_val {c : Bool} (h : Ex B ms te σ H0 p c q) : Et B ms (tB te) σ H0 p c q := fun H b hp R k => h H b hp _ fun v H1 b1 q1 e1 => ⟨c, e1, k H1 b1 q1⟩
theorem et_test {c : Bool} (h : Ex B ms te σ H0 p c q) : Et B ms (tTest te) σ H0 p c q := fun H b hp R k => h H b hp _ fun v H1 b1 q1 e1 => ⟨c, e1, k H1 b1 q1⟩
theorem et_truL {xs : List α} (h : El B ms te σ H0 p xs q) : Et B ms (tTru K te) σ H0 p (!xs.isEmpty) q := fun H b hp R k => h H b hp _ fun a H1 b1 q1 na ⟨vs, e, rl, _⟩ => by
  have e2 : vs.isEmpty = xs.isEmpty := by
    have := rl.len
    cases vs <;> cases xs <;> simp_all
  refine r_truL (SqL.of e) ?_
  rw [e2]
  exact k H1 b1 q1
theorem et_not {tt : TT} {c : Bool} (h : Et B ms tt σ H0 p c q) : Et B ms (L2.tNot tt) σ H0 p (!c) q := fun H b hp R k => h H b hp _ fun H1 b1 q1 => k H1 b1 q1
theorem et_and {t1 t2 : TT} {c d : Bool} (h1 : Et B ms t1 σ H0 p c q) (h2 : c = true → Et B ms t2 σ H0 q d r) (h3 : c = false → d = false ∧ ∀ H, q ms H → r ms H) : Et B ms (L2.tAnd t1 t2) σ H0 p d r := fun H b hp R k => h1 H b hp _ fun H1 b1 q1 => by
  cases c with
  | true =>
    exact h2 rfl H1 (b.trans b1) q1 _ fun H2 b2 q2 => k H2 (b1.trans b2) q2
  | false =>
    obtain ⟨rfl, h⟩ := h3 rfl
    exact k H1 b1 (h _ q1)
theorem et_or {t1 t2 : TT} {c d : Bool} (h1 : Et B ms t1 σ H0 p c q) (h2 : c = false → Et B ms t2 σ H0 q d r) (h3 : c = true → d = true ∧ ∀ H, q ms H → r ms H) : Et B ms (L2.tOr t1 t2) σ H0 p d r := fun H b hp R k => h1 H b hp _ fun H1 b1 q1 => by
  cases c with
  | false =>
    exact h2 rfl H1 (b.trans b1) q1 _ fun H2 b2 q2 => k H2 (b1.trans b2) q2
  | true =>
    obtain ⟨rfl, h⟩ := h3 rfl
    exact k H1 b1 (h _ q1)
theorem ex_and {c d : Bool} (h1 : Ex B ms ta σ H0 p c q) (h2 : c = true → Ex B ms tb σ H0 q d r) (h3 : c = false → d = false ∧ ∀ H, q ms H → r ms H) : Ex B ms (tAndV ta tb) σ H0 p d r := fun H b hp R k => h1 H b hp _ fun v H1 b1 q1 ev => by
  refine ⟨c, ev, ?_⟩
  cases c with
  | true =>
    exact h2 rfl H1 (b.trans b1) q1 _ fun v H2 b2 q2 e2 => k v H2 (b1.trans b2) q2 e2
  | false =>
    obtain ⟨rfl, h⟩ := h3 rfl
    exact k _ H1 b1 (h _ q1) rfl
theorem ex_or {c d : Bool} (h1 : Ex B ms ta σ H0 p c q) (h2 : c = false → Ex B ms tb σ H0 q d r) (h3 : c = true → d = true ∧ ∀ H, q ms H → r ms H) : Ex B ms (tOrV ta tb) σ H0 p d r := fun H b hp R k => h1 H b hp _ fun v H1 b1 q1 ev => by
  refine ⟨c, ev, ?_⟩
  cases c with
  | false =>
    exact h2 rfl H1 (b.trans b1) q1 _ fun v H2 b2 q2 e2 => k v H2 (b1.trans b2) q2 e2
  | true =>
    obtain ⟨rfl, h⟩ := h3 rfl
    exact k _ H1 b1 (h _ q1) rfl
theorem ex_not {c : Bool} (h : Ex B ms te σ H0 p c q) : Ex B ms (tNotV te) σ H0 p (!c) q := fun H b hp Q k => h H b hp _ fun v H1 b1 q1 e1 => ⟨c, e1, k _ H1 b1 q1 rfl⟩
theorem ex_if {tt : TT} {c : Bool} (h1 : Et B ms tt σ H0 p c q) (h2 : c = true → Ex B ms ta σ H0 q x r) (h3 : c = false → Ex B ms tb σ H0 q x r) : Ex B ms (L2.tIf tt ta tb) σ H0 p x r := fun H b hp Q k => h1 H b hp _ fun H1 b1 q1 => by
  cases c with
  | true => exact h2 rfl H1 (b.trans b1) q1 _ fun v H2 b2 q2 e2 => k v H2 (b1.trans b2) q2 e2
  | false => exact h3 rfl H1 (b.trans b1) q1 _ fun v H2 b2 q2 e2 => k v H2 (b1.trans b2) q2 e2
theorem et_and' {t1 t2 : TT} {c d : Bool} (h1 : Et B ms t1 σ H0 p c q) (h2 : c = true → Et B ms t2 σ H0 q d q) : Et B ms (L2.tAnd t1 t2) σ H0 p (c && d) q := et_and h1 (fun e => by rw [show (c && d) = d by rw [e]; rfl]; exact h2 e) fun e => ⟨by rw [e]; rfl, fun _ z => z⟩
theorem et_or' {t1 t2 : TT} {c d : Bool} (h1 : Et B ms t1 σ H0 p c q) (h2 : c = false → Et B ms t2 σ H0 q d q) : Et B ms (L2.tOr t1 t2) σ H0 p (c || d) q := et_or h1 (fun e => by rw [show (c || d) = d by rw [e]; rfl]; exact h2 e) fun e => ⟨by rw [e]; rfl, fun _ z => z⟩
theorem ex_and' {c d : Bool} (h1 : Ex B ms ta σ H0 p c q) (h2 : c = true → Ex B ms tb σ H0 q d q) : Ex B ms (tAndV ta tb) σ H0 p (c && d) q := ex_and h1 (fun e => by rw [show (c && d) = d by rw [e]; rfl]; exact h2 e) fun e => ⟨by rw [e]; rfl, fun _ z => z⟩
theorem ex_or' {c d : Bool} (h1 : Ex B ms ta σ H0 p c q) (h2 : c = false → Ex B ms tb σ H0 q d q) : Ex B ms (tOrV ta tb) σ H0 p (c || d) q := ex_or h1 (fun e => by rw [show (c || d) = d by rw [e]; rfl]; exact h2 e) fun e => ⟨by rw [e]; rfl, fun _ z => z⟩
/-! a < b < c -/
theorem ex_chain {g h : Int → Int → Bool} {i j l : Int} {d : Bool} (ha : Ex B ms ta σ H0 p i q) (hb : Ex B ms tb σ H0 q j r) (hc : Ex B ms tc σ H0 r l r) (e : d = (g i j && h j l)) : Ex B ms (tChain (rI0 fun i j => .bl (g i j)) (rI0 fun i j => .bl (h i j)) ta tb tc) σ H0 p d r :=
  fun H b hp Q k => ha H b hp _ fun v H1 b1 q1 e1 => hb H1 (b.trans b1) q1 _ fun u H2 b2 q2 e2 => ⟨i, j, e1, e2, g i j, rfl, by
    cases hg : g i j with
    | true =>
      rw [if_pos rfl]
      refine hc H2 ((b.trans b1).trans b2) q2 _ fun w H3 b3 q3 e3 => ⟨j, l, e2, e3, ?_⟩
      rw [e, hg] at k
      exact k _ H3 ((b1.trans b2).trans b3) q3 rfl
    | false =>
      rw [if_neg (by decide)]
      rw [e, hg] at k
      exact k _ H2 (b1.trans b2) q2 rfl⟩
/-- the same, where the third part may fail -/
theorem ex_chainP {g h : Int → Int → Bool} {i j : Int} {d : Bool} (ha : Ex B ms ta σ H0 p i q) (hb : Ex B ms tb σ H0 q j r) (hc : g i j = true → ∃ l : Int, Ex B ms tc σ H0 r l r ∧ h j l = d) (e : g i j = false → d = false) : Ex B ms (tChain (rI0 fun i j => .bl (g i j)) (rI0 fun i j => .bl (h i j)) ta tb tc) σ H0 p d r :=
  fun H b hp Q k => ha H b hp _ fun v H1 b1 q1 e1 => hb H1 (b.trans b1) q1 _ fun u H2 b2 q2 e2 => ⟨i, j, e1, e2, g i j, rfl, by
    cases hg : g i j with
    | true =>
      rw [if_pos rfl]
      obtain ⟨l, hc, ed⟩ := hc hg
      refine hc H2 ((b.trans b1).trans b2) q2 _ fun w H3 b3 q3 e3 => ⟨j, l, e2, e3, ?_⟩
      rw [← ed] at k
      exact k _ H3 ((b1.trans b2).trans b3) q3 rfl
    | false =>
      rw [if_neg (by decide)]
      rw [e hg] at k
      exact k _ H2 (b1.trans b2) q2 rfl⟩
end
section
variable {α β γ : Type} [Rp α] [Rp β] [Rp γ] {K : PySem.W.Frag} {B ms : Ms} {σ : St} {H0 : Hp} {p q r : Hq} {ta tb tc te : TE} {x : α} {y : β} {z : γ}
/-! lists to read -/
theorem el_of {xs : List α} (hB : ∀ a ∈ B, a ∈ ms) (h : Ex B ms te σ H0 p xs q) : El B ms te σ H0 p xs q := fun H b hp Q k => h H b hp _ fun v H1 b1 q1 ⟨a, e, n, l⟩ => by
  subst e
  exact k a H1 b1 q1 (fun z => n (hB a z)) l
theorem el_var {i : Nat} {a : Addr} {xs : List α} (W : Wd B ms H0) (hs : σ[i]? = some (some (.ref a))) (n : a ∉ B) (h : Ls ms H0 a xs) : El B ms (tVar i) σ H0 p xs p := fun H b hp Q k => ⟨_, hs, k a H (Bu.refl B H) hp n (h.bu W.hB n b)⟩
theorem ex_len {xs : List α} (h : El B ms te σ H0 p xs q) : Ex B ms (tCB (fun xs H Q => ∃ p ys, xs = [.ref p] ∧ (SqL K H p ys ∨ SqT K H p ys) ∧ Q (.int ys.length) H) (tCons te tNil)) σ H0 p (xs.length : Int) q := fun H b hp Q k => h H b hp _ fun a H1 b1 q1 na ⟨vs, e, rl, _⟩ =>
  ⟨a, vs, rfl, .inl (SqL.of e), k _ H1 b1 q1 (by rw [rl.len]; rfl)⟩
theorem ex_ixL {xs : List α} {i : Int} (h1 : El B ms ta σ H0 p xs q) (h2 : Ex B ms tb σ H0 q i r) (W : Wd B ms H0) (e : atI xs i = some x) : Ex B ms (tOp (rIxL K) ta tb) σ H0 p x r := fun H b hp Q k => h1 H b hp _ fun a H1 b1 q1 na l1 => h2 H1 (b.trans b1) q1 _ fun u H2 b2 q2 e2 => by
  obtain ⟨vs, ev, rl, _⟩ := l1.bu W.hB na b2
  obtain ⟨j, ej, ex⟩ := Option.bind_eq_some_iff.mp e
  obtain ⟨v, hv, rv⟩ := rl.get' ex
  have e2' : u = .int i := e2
  subst e2'
  refine ⟨a, vs, i, v, rfl, rfl, SqL.of ev, ?_, k v H2 (b1.trans b2) q2 rv⟩
  unfold atI
  rw [rl.len, ej]
  exact hv
theorem ex_fst {u : α × β} (h1 : Ex B ms ta σ H0 p u q) : Ex B ms (tOp (rIxT K) ta (tC (.int 0))) σ H0 p u.1 q := fun H b hp Q k => h1 H b hp _ fun v H1 b1 q1 ⟨a, w1, w2, e, n, eh, r1, r2⟩ => by
  subst e
  exact ⟨a, _, 0, w1, rfl, rfl, SqT.of eh, rfl, k _ H1 b1 q1 r1⟩
theorem ex_snd {u : α × β} (h1 : Ex B ms ta σ H0 p u q) : Ex B ms (tOp (rIxT K) ta (tC (.int 1))) σ H0 p u.2 q := fun H b hp Q k => h1 H b hp _ fun v H1 b1 q1 ⟨a, w1, w2, e, n, eh, r1, r2⟩ => by
  subst e
  exact ⟨a, _, 1, w2, rfl, rfl, SqT.of eh, rfl, k _ H1 b1 q1 r2⟩
theorem ex_t1 {u : T3 α β γ} (h1 : Ex B ms ta σ H0 p u q) : Ex B ms (tOp (rIxT K) ta (tC (.int 0))) σ H0 p u.a q := fun H b hp Q k => h1 H b hp _ fun v H1 b1 q1 ⟨a, w1, w2, w3, e, n, eh, r1, r2, r3⟩ => by
  subst e
  exact ⟨a, _, 0, w1, rfl, rfl, SqT.of eh, rfl, k _ H1 b1 q1 r1⟩
theorem ex_t2 {u : T3 α β γ} (h1 : Ex B ms ta σ H0 p u q) : Ex B ms (tOp (rIxT K) ta (tC (.int 1))) σ H0 p u.b q := fun H b hp Q k => h1 H b hp _ fun v H1 b1 q1 ⟨a, w1, w2, w3, e, n, eh, r1, r2, r3⟩ => by
  subst e
  exact ⟨a, _, 1, w2, rfl, rfl, SqT.of eh, rfl, k _ H1 b1 q1 r2⟩
theorem ex_t3 {u : T3 α β γ} (h1 : Ex B ms ta σ H0 p u q) : Ex B ms (tOp (rIxT K) ta (tC (.int 2))) σ H0 p u.c q := fun H b hp Q k => h1 H b hp _ fun v H1 b1 q1 ⟨a, w1, w2, w3, e, n, eh, r1, r2, r3⟩ => by
  subst e
  exact ⟨a, _, 2, w3, rfl, rfl, SqT.of eh, rfl, k _ H1 b1 q1 r3⟩
theorem Sb.less {H : Hp} {a : Addr} {q : Hq} (h : Sb B q) (z : q (a :: ms) H) : q ms H := h _ _ _ _ z (Mv.less fun _ m => List.mem_cons_of_mem _ m) fun _ _ _ e => e
theorem Sb.new {H H' : Hp} {a : Addr} {q : Hq} (h : Sb B q) (na : H a = none) (s : Same H H') (z : q ms H) : q (a :: ms) H' := h _ _ _ _ z (Mv.new na s) fun _ _ _ e => s _ _ e
theorem En.ex {xs : List α} (hq : Sb B q) (h : En B ms te σ H0 p xs q) : Ex B ms te σ H0 p xs q := fun H b hp Q k => h H b hp _ fun a H1 b1 q1 na nm l => k _ H1 b1 (hq.less q1) ⟨a, rfl, nm, l.less fun _ m => List.mem_cons_of_mem _ m⟩
theorem ls_new {H : Hp} {t : Addr} {vs : List V} {xs : List α} (nt : H t = none) (rl : RL (rp ms H) vs xs) (l : vs.length ≤ sizeLine) : Ls (t :: ms) (upd H t (.lst vs)) t xs := ⟨vs, upd_same, rl.imp fun _ _ z => Rp.mv z (Mv.new nt (same_upd nt)), l⟩
/-! arguments -/
theorem ea_nil : Ea B ms tNil σ H0 p () p := fun H b hp Q k => k [] H (Bu.refl B H) hp rfl
theorem ea_cons {ι : Type} [RpA ι] {ts : TA} {i : ι} (W : Wd B ms H0) (h1 : Ex B ms te σ H0 p x q) (h2 : Ea B ms ts σ H0 q i r) : Ea B ms (tCons te ts) σ H0 p (x, i) r := fun H b hp Q k => h1 H b hp _ fun v H1 b1 q1 e1 => h2 H1 (b.trans b1) q1 _ fun vs H2 b2 q2 e2 =>
  k (v :: vs) H2 (b1.trans b2) q2 ⟨v, vs, rfl, Rp.mv e1 (Mv.bu W.hB b2), e2⟩
theorem ex_tup2 {ts : TA} {u : α × β} (W : Wd B ms H0) (hq : Sb B q) (h : Ea B ms ts σ H0 p (u.1, u.2, ()) q) : Ex B ms (tTup ts) σ H0 p u q := fun H b hp Q k => h H b hp _ fun vs H1 b1 q1 e1 => by
  obtain ⟨v1, _, rfl, r1, v2, _, rfl, r2, e⟩ := e1
  have e' : _ = [] := e
  subst e'
  refine ⟨by rw [sizeLine_eq]; simp, fun t nt => ?_⟩
  have s := same_upd (o := .tup [v1, v2]) nt
  exact k _ _ (b1.trans (Bu.same s)) (hq.same s q1) ⟨t, v1, v2, rfl, ((W.al.bu b).bu b1).not nt, upd_same, Rp.mv r1 (Mv.same s), Rp.mv r2 (Mv.same s)⟩
theorem ex_tup3 {ts : TA} {u : T3 α β γ} (W : Wd B ms H0) (hq : Sb B q) (h : Ea B ms ts σ H0 p (u.a, u.b, u.c, ()) q) : Ex B ms (tTup ts) σ H0 p u q := fun H b hp Q k => h H b hp _ fun vs H1 b1 q1 e1 => by
  obtain ⟨v1, _, rfl, r1, v2, _, rfl, r2, v3, _, rfl, r3, e⟩ := e1
  have e' : _ = [] := e
  subst e'
  refine ⟨by rw [sizeLine_eq]; simp, fun t nt => ?_⟩
  have s := same_upd (o := .tup [v1, v2, v3]) nt
  exact k _ _ (b1.trans (Bu.same s)) (hq.same s q1) ⟨t, v1, v2, v3, rfl, ((W.al.bu b).bu b1).not nt, upd_same, Rp.mv r1 (Mv.same s), Rp.mv r2 (Mv.same s), Rp.mv r3 (Mv.same s)⟩
theorem ex_l1 {u : L2P α β} (h1 : Ex B ms ta σ H0 p u q) : Ex B ms (tOp (rIxL K) ta (tC (.int 0))) σ H0 p u.a q := fun H b hp Q k => h1 H b hp _ fun v H1 b1 q1 ⟨a, w1, w2, e, n, eh, r1, r2⟩ => by
  subst e
  exact ⟨a, _, 0, w1, rfl, rfl, SqL.of eh, rfl, k _ H1 b1 q1 r1⟩
theorem ex_l2 {u : L2P α β} (h1 : Ex B ms ta σ H0 p u q) : Ex B ms (tOp (rIxL K) ta (tC (.int 1))) σ H0 p u.b q := fun H b hp Q k => h1 H b hp _ fun v H1 b1 q1 ⟨a, w1, w2, e, n, eh, r1, r2⟩ => by
  subst e
  exact ⟨a, _, 1, w2, rfl, rfl, SqL.of eh, rfl, k _ H1 b1 q1 r2⟩
theorem ex_two {ts : TA} {u : L2P α β} (W : Wd B ms H0) (hq : Sb B q) (h : Ea B ms ts σ H0 p (u.a, u.b, ()) q) : Ex B ms (tLst ts) σ H0 p u q := fun H b hp Q k => h H b hp _ fun vs H1 b1 q1 e1 => by
  obtain ⟨v1, _, rfl, r1, v2, _, rfl, r2, e⟩ := e1
  have e' : _ = [] := e
  subst e'
  refine ⟨by rw [sizeLine_eq]; simp, fun t nt => ?_⟩
  have s := same_upd (o := .lst [v1, v2]) nt
  exact k _ _ (b1.trans (Bu.same s)) (hq.same s q1) ⟨t, v1, v2, rfl, ((W.al.bu b).bu b1).not nt, upd_same, Rp.mv r1 (Mv.same s), Rp.mv r2 (Mv.same s)⟩
/-- items of a list display -/
def Es (B ms : Ms) (ta : TA) (σ : St) (H0 : Hp) (p : Hq) (xs : List α) (q : Hq) : Prop :=
  ∀ H, Bu B H0 H → p ms H → ∀ Q : List V → Hp → Prop, (∀ vs H', Bu B H H' → q ms H' → RL (rp ms H') vs xs → Q vs H') → ta σ H Q
theorem es_nil : Es B ms tNil σ H0 p ([] : List α) p := fun H b hp Q k => k [] H (Bu.refl B H) hp trivial
theorem es_cons {xs : List α} {ts : TA} (W : Wd B ms H0) (h1 : Ex B ms te σ H0 p x q) (h2 : Es B ms ts σ H0 q xs r) : Es B ms (tCons te ts) σ H0 p (x :: xs) r := fun H b hp Q k => h1 H b hp _ fun v H1 b1 q1 e1 => h2 H1 (b.trans b1) q1 _ fun vs H2 b2 q2 e2 =>
  k (v :: vs) H2 (b1.trans b2) q2 ⟨Rp.mv e1 (Mv.bu W.hB b2), e2⟩
/-- a fresh list -/
theorem rp_new {H : Hp} {t : Addr} {vs : List V} {xs : List α} (al : Al ms H) (nt : H t = none) (rl : RL (rp ms H) vs xs) (l : vs.length ≤ sizeLine) : rp ms (upd H t (.lst vs)) (.ref t) xs :=
  ⟨t, rfl, al.not nt, vs, upd_same, rl.imp fun _ _ z => Rp.mv z (Mv.same (same_upd nt)), l⟩
theorem en_lst {ts : TA} {xs : List α} (W : Wd B ms H0) (hq : Sb B q) (hl : xs.length ≤ 1000) (h : Es B ms ts σ H0 p xs q) : En B ms (tLst ts) σ H0 p xs q := fun H b hp Q k => h H b hp _ fun vs H1 b1 q1 rl => by
  have hl' : vs.length ≤ sizeLine := by rw [rl.len, sizeLine_eq]; omega
  refine ⟨hl', fun t nt => ?_⟩
  have s := same_upd (o := .lst vs) nt
  exact k _ _ (b1.trans (Bu.same s)) (hq.new nt s q1) (b1.none nt) (((W.al.bu b).bu b1).not nt) (ls_new nt rl hl')
theorem en_listof {xs : List α} (W : Wd B ms H0) (hq : Sb B q) (h : El B ms te σ H0 p xs q) : En B ms (tCB (fun xs H Q => ∃ p ys, xs = [.ref p] ∧ (SqL K H p ys ∨ SqT K H p ys) ∧ ∀ l, H l = none → Q (.ref l) (upd H l (.lst ys))) (tCons te tNil)) σ H0 p xs q := fun H b hp Q k => h H b hp _ fun a H1 b1 q1 na ⟨vs, e, rl, l⟩ => by
  refine ⟨a, vs, rfl, .inl (SqL.of e), fun t nt => ?_⟩
  have s := same_upd (o := .lst vs) nt
  exact k _ _ (b1.trans (Bu.same s)) (hq.new nt s q1) (b1.none nt) (((W.al.bu b).bu b1).not nt) (ls_new nt rl l)
theorem en_cat {xs ys zs : List α} (W : Wd B ms H0) (hr : Sb B r) (h1 : El B ms ta σ H0 p xs q) (h2 : El B ms tb σ H0 q ys r) (e : catF xs ys = some zs) : En B ms (tOp rCat ta tb) σ H0 p zs r := fun H b hp Q k => h1 H b hp _ fun a H1 b1 q1 na l1 => h2 H1 (b.trans b1) q1 _ fun a2 H2 b2 q2 na2 l2 => by
  obtain ⟨vs, ev, rl, _⟩ := l1.bu W.hB na b2
  obtain ⟨us, eu, rl2, _⟩ := l2
  unfold catF at e
  split at e
  · rename_i hl
    cases e
    have hl' : vs.length + us.length ≤ sizeLine := by rw [rl.len, rl2.len]; exact hl
    refine ⟨a, a2, vs, us, rfl, rfl, ev, eu, hl', fun t nt => ?_⟩
    have s := same_upd (o := .lst (vs ++ us)) nt
    exact k _ _ ((b1.trans b2).trans (Bu.same s)) (hr.new nt s q2) ((b1.trans b2).none nt) ((((W.al.bu b).bu b1).bu b2).not nt) (ls_new nt (rl.app rl2) (by rw [List.length_append]; exact hl'))
  · cases e
/-! slices -/
def cutF {α : Type} (xs : List α) (lo hi : Option Int) : List α := (xs.drop (HT.sIx xs.length 0 lo)).take (HT.sIx xs.length xs.length hi - HT.sIx xs.length 0 lo)
def Eo (B ms : Ms) (th : TO) (σ : St) (H0 : Hp) (p : Hq) (i : Option Int) (q : Hq) : Prop :=
  ∀ H, Bu B H0 H → p ms H → ∀ Q : Option Int → Hp → Prop, (∀ H', Bu B H H' → q ms H' → Q i H') → th σ H Q
theorem eo_none : Eo B ms tNoPart σ H0 p none p := fun H b hp Q k => k H (Bu.refl B H) hp
theorem eo_some {i : Int} (h : Ex B ms te σ H0 p i q) : Eo B ms (tPart te) σ H0 p (some i) q := fun H b hp Q k => h H b hp _ fun v H1 b1 q1 e => ⟨i, e, k H1 b1 q1⟩
theorem en_slice {xs : List α} {lo hi : Option Int} {tl th : TO} {s : Hq} (W : Wd B ms H0) (hs : Sb B s) (h1 : El B ms te σ H0 p xs q) (h2 : Eo B ms tl σ H0 q lo r) (h3 : Eo B ms th σ H0 r hi s) : En B ms (tSl (rSlL K) te tl th) σ H0 p (cutF xs lo hi) s := fun H b hp Q k => h1 H b hp _ fun a H1 b1 q1 na l1 =>
  h2 H1 (b.trans b1) q1 _ fun H2 b2 q2 => h3 H2 ((b.trans b1).trans b2) q2 _ fun H3 b3 q3 => by
  obtain ⟨vs, ev, rl, l⟩ := (l1.bu W.hB na b2).bu W.hB na b3
  refine ⟨a, vs, rfl, SqL.of ev, fun t nt => ?_⟩
  have s := same_upd (o := .lst (cutV vs lo hi)) nt
  refine k _ _ (((b1.trans b2).trans b3).trans (Bu.same s)) (hs.new nt s q3) (((b1.trans b2).trans b3).none nt) (((((W.al.bu b).bu b1).bu b2).bu b3).not nt) (ls_new nt ?_ (Nat.le_trans (cutV_length vs lo hi) l))
  unfold cutV cutF
  rw [rl.len]
  exact rl.drop.take
/-! sums, any, all, max, min -/
theorem ex_sum {xs : List Int} (h : El B ms te σ H0 p xs q) : Ex B ms (tCB (rSum K) (tCons te tNil)) σ H0 p xs.sum q := fun H b hp Q k => h H b hp _ fun a H1 b1 q1 na ⟨vs, e, rl, l⟩ => by
  rw [rl.ints fun _ _ h => h] at e
  exact ⟨a, xs, rfl, SqL.of e, k _ H1 b1 q1 rfl⟩
theorem ex_any {xs : List Bool} (h : El B ms te σ H0 p xs q) : Ex B ms (tCB (rAny K) (tCons te tNil)) σ H0 p (xs.any id) q := fun H b hp Q k => h H b hp _ fun a H1 b1 q1 na ⟨vs, e, rl, l⟩ => by
  rw [rl.bools fun _ _ h => h] at e
  exact ⟨a, xs, rfl, SqL.of e, k _ H1 b1 q1 rfl⟩
theorem ex_all {xs : List Bool} (h : El B ms te σ H0 p xs q) : Ex B ms (tCB (rAll K) (tCons te tNil)) σ H0 p (xs.all id) q := fun H b hp Q k => h H b hp _ fun a H1 b1 q1 na ⟨vs, e, rl, l⟩ => by
  rw [rl.bools fun _ _ h => h] at e
  exact ⟨a, xs, rfl, SqL.of e, k _ H1 b1 q1 rfl⟩
theorem ex_max2 {ts : TA} {i j : Int} (h : Ea B ms ts σ H0 p (i, j, ()) q) : Ex B ms (tCB (fun xs H Q => ∃ i j, xs = [.int i, .int j] ∧ Q (.int (if j > i then j else i)) H) ts) σ H0 p (max i j) q := fun H b hp Q k => h H b hp _ fun vs H1 b1 q1 e1 => by
  obtain ⟨v1, _, rfl, r1, v2, _, rfl, r2, e⟩ := e1
  refine ⟨i, j, ?_, k _ H1 b1 q1 ?_⟩
  · have e' : _ = [] := e
    have r1' : v1 = .int i := r1
    have r2' : v2 = .int j := r2
    rw [e', r1', r2']
  · show V.int _ = V.int _
    congr 1
    split <;> omega
theorem ex_min2 {ts : TA} {i j : Int} (h : Ea B ms ts σ H0 p (i, j, ()) q) : Ex B ms (tCB (fun xs H Q => ∃ i j, xs = [.int i, .int j] ∧ Q (.int (if j < i then j else i)) H) ts) σ H0 p (min i j) q := fun H b hp Q k => h H b hp _ fun vs H1 b1 q1 e1 => by
  obtain ⟨v1, _, rfl, r1, v2, _, rfl, r2, e⟩ := e1
  refine ⟨i, j, ?_, k _ H1 b1 q1 ?_⟩
  · have e' : _ = [] := e
    have r1' : v1 = .int i := r1
    have r2' : v2 = .int j := r2
    rw [e', r1', r2']
  · show V.int _ = V.int _
    congr 1
    split <;> omega
/-! equality of data -/
class RpD (α : Type) [DecidableEq α] [Enc α] [Rp α] : Prop where
  dp : ∀ {K : PySem.W.Frag} {ms : Ms} {H : Hp} {v : V} {x : α}, rp ms H v x → Is K H v x
theorem dpAll_of [DecidableEq α] [Enc α] [RpD α] {K : PySem.W.Frag} {ms : Ms} {H : Hp} : ∀ {vs : List V} {xs : List α}, RL (rp ms H) vs xs → DpAll K H vs (xs.map Enc.enc)
  | [], [], _ => .nil
  | _ :: _, _ :: _, ⟨a, b⟩ => .cons (RpD.dp a) (dpAll_of b)
instance : RpD Int := ⟨fun h => by have h' : _ = V.int _ := h; subst h'; exact is_int⟩
instance : RpD Bool := ⟨fun h => by have h' : _ = V.bl _ := h; subst h'; exact is_bl⟩
theorem Ls.is [DecidableEq α] [Enc α] [RpD α] {K : PySem.W.Frag} {ms : Ms} {H : Hp} {a : Addr} {xs : List α} (h : Ls ms H a xs) : Is K H (.ref a) xs := let ⟨_, e, rl, _⟩ := h; .lst (SqL.of e) (dpAll_of rl)
instance [DecidableEq α] [Enc α] [RpD α] : RpD (List α) := ⟨fun ⟨a, e, _, l⟩ => by subst e; exact l.is⟩
instance [DecidableEq α] [Enc α] [RpD α] [DecidableEq β] [Enc β] [RpD β] : RpD (α × β) := ⟨fun ⟨a, u, w, e, _, eh, r1, r2⟩ => by subst e; exact is_pair (SqT.of eh) (RpD.dp r1) (RpD.dp r2)⟩
instance encT3 [DecidableEq α] [DecidableEq β] [DecidableEq γ] [Enc α] [Enc β] [Enc γ] : Enc (T3 α β γ) := ⟨fun x => .tuple [Enc.enc x.a, Enc.enc x.b, Enc.enc x.c], max (Enc.dep α) (max (Enc.dep β) (Enc.dep γ)) + 1,
  fun x => by rw [PyData.canLay0, PyData.canLayAll0, PyData.canLayAll0, PyData.canLayAll0, PyData.canLayAll0, Enc.lay, Enc.lay, Enc.lay]; rfl,
  fun x => by
    have h1 := Enc.dle x.a
    have h2 := Enc.dle x.b
    have h3 := Enc.dle x.c
    rw [PyData.depth, PyData.depthAll, PyData.depthAll, PyData.depthAll, PyData.depthAll]
    omega,
  fun x y => by
    rw [PyData.eqv, PyData.eqvAll, PyData.eqvAll, PyData.eqvAll, PyData.eqvAll, Enc.eqv, Enc.eqv, Enc.eqv]
    obtain ⟨a, b, c⟩ := x
    obtain ⟨a', b', c'⟩ := y
    by_cases h : a = a' <;> by_cases h' : b = b' <;> by_cases h2 : c = c' <;> simp [h, h', h2]⟩
instance [DecidableEq α] [Enc α] [RpD α] [DecidableEq β] [Enc β] [RpD β] [DecidableEq γ] [Enc γ] [RpD γ] : RpD (T3 α β γ) := ⟨fun ⟨a, u, w, y, e, _, eh, r1, r2, r3⟩ => by subst e; exact .tup (SqT.of eh) (.cons (RpD.dp r1) (.cons (RpD.dp r2) (.cons (RpD.dp r3) .nil)))⟩
theorem eqv_non_none {d : PyData} (h : d ≠ .none) : PyData.eqv .none d = false := by
  cases d <;> first | exact absurd rfl h | rfl
theorem eqv_none_non {d : PyData} (h : d ≠ .none) : PyData.eqv d .none = false := by
  cases d <;> first | exact absurd rfl h | rfl
def encO [DecidableEq α] [Enc α] : Option α → PyData
  | none => .none
  | some y => Enc.enc y
theorem dp_optE {K : PySem.W.Frag} [DecidableEq α] [Enc α] [RpD α] {H : Hp} {v : V} {x : Option α} (h : rp ms H v x) : Dp K H v (encO x) := by
  cases x with
  | none => have h' : v = .non := h; subst h'; exact .non
  | some y => exact RpD.dp (α := α) (x := y) h
class EncN (α : Type) [DecidableEq α] [Enc α] : Prop where
  nn : ∀ x : α, Enc.enc x ≠ .none
instance : EncN Int := ⟨fun _ z => by cases z⟩
instance [DecidableEq α] [Enc α] : EncN (List α) := ⟨fun _ z => by cases z⟩
instance [DecidableEq α] [Enc α] [DecidableEq β] [Enc β] : EncN (α × β) := ⟨fun _ z => by cases z⟩
instance : EncN Bool := ⟨fun _ z => by cases z⟩
instance [DecidableEq α] [Enc α] [DecidableEq β] [Enc β] [DecidableEq γ] [Enc γ] : EncN (T3 α β γ) := ⟨fun _ z => by cases z⟩
instance encOpt [DecidableEq α] [Enc α] [EncN α] : Enc (Option α) := ⟨encO, Enc.dep α,
  fun x => by cases x with | none => rfl | some y => exact Enc.lay y,
  fun x => by cases x with | none => exact Nat.zero_le _ | some y => exact Enc.dle y,
  fun x y => by
    cases x <;> cases y <;> simp only [encO]
    · rfl
    · simp [eqv_non_none (EncN.nn _)]
    · simp [eqv_none_non (EncN.nn _)]
    · rw [Enc.eqv]; simp⟩
instance [DecidableEq α] [Enc α] [RpD α] [EncN α] : RpD (Option α) := ⟨fun h => dp_optE h⟩
theorem ex_eqL [DecidableEq α] [Enc α] [RpD α] {xs ys : List α} (W : Wd B ms H0) (hd : Enc.dep (List α) ≤ 64) (h1 : El B ms ta σ H0 p xs q) (h2 : El B ms tb σ H0 q ys r) : Ex B ms (tOp (rEqD K) ta tb) σ H0 p (decide (xs = ys)) r := fun H b hp Q k => h1 H b hp _ fun a H1 b1 q1 na l1 => h2 H1 (b.trans b1) q1 _ fun a2 H2 b2 q2 na2 l2 =>
  r_eqE (l1.bu W.hB na b2).is l2.is hd (k _ H2 (b1.trans b2) q2 rfl)
theorem ex_neL [DecidableEq α] [Enc α] [RpD α] {xs ys : List α} (W : Wd B ms H0) (hd : Enc.dep (List α) ≤ 64) (h1 : El B ms ta σ H0 p xs q) (h2 : El B ms tb σ H0 q ys r) : Ex B ms (tOp (rNeD K) ta tb) σ H0 p (!decide (xs = ys)) r := fun H b hp Q k => h1 H b hp _ fun a H1 b1 q1 na l1 => h2 H1 (b.trans b1) q1 _ fun a2 H2 b2 q2 na2 l2 =>
  r_neE (l1.bu W.hB na b2).is l2.is hd (k _ H2 (b1.trans b2) q2 rfl)
theorem ex_eqE [DecidableEq α] [Enc α] [RpD α] {y : α} (W : Wd B ms H0) (hd : Enc.dep α ≤ 64) (h1 : Ex B ms ta σ H0 p x q) (h2 : Ex B ms tb σ H0 q y r) : Ex B ms (tOp (rEqD K) ta tb) σ H0 p (decide (x = y)) r := fun H b hp Q k => h1 H b hp _ fun v H1 b1 q1 l1 => h2 H1 (b.trans b1) q1 _ fun u H2 b2 q2 l2 =>
  r_eqE (RpD.dp (Rp.mv l1 (Mv.bu W.hB b2))) (RpD.dp l2) hd (k _ H2 (b1.trans b2) q2 rfl)
theorem ex_neE [DecidableEq α] [Enc α] [RpD α] {y : α} (W : Wd B ms H0) (hd : Enc.dep α ≤ 64) (h1 : Ex B ms ta σ H0 p x q) (h2 : Ex B ms tb σ H0 q y r) : Ex B ms (tOp (rNeD K) ta tb) σ H0 p (!decide (x = y)) r := fun H b hp Q k => h1 H b hp _ fun v H1 b1 q1 l1 => h2 H1 (b.trans b1) q1 _ fun u H2 b2 q2 l2 =>
  r_neE (RpD.dp (Rp.mv l1 (Mv.bu W.hB b2))) (RpD.dp l2) hd (k _ H2 (b1.trans b2) q2 rfl)
/-! None or not -/
class RpO (α : Type) [Rp α] : Prop where
  nn : ∀ {ms : Ms} {H : Hp} {v : V} {x : α}, rp ms H v x → v ≠ .non
instance : RpO Int := ⟨fun h => by have h' : _ = V.int _ := h; subst h'; exact fun z => by cases z⟩
instance : RpO (List α) := ⟨fun ⟨a, e, _⟩ => by subst e; exact fun z => by cases z⟩
instance : RpO (α × β) := ⟨fun ⟨a, _, _, e, _⟩ => by subst e; exact fun z => by cases z⟩
instance : RpO (T3 α β γ) := ⟨fun ⟨a, _, _, _, e, _⟩ => by subst e; exact fun z => by cases z⟩
theorem non_of [RpO α] {H : Hp} {v : V} {x : Option α} (h : rp ms H v x) : decide (v = .non) = x.isNone := by
  cases x with
  | none => have h' : v = .non := h; rw [h']; rfl
  | some y => exact decide_eq_false (RpO.nn (α := α) (x := y) h)
theorem ex_isN [RpO α] {x : Option α} (h1 : Ex B ms ta σ H0 p x q) : Ex B ms (tOp (fun x y H Q => y = .non ∧ Q (.bl (decide (x = .non))) H) ta (tC .non)) σ H0 p x.isNone q := fun H b hp Q k => h1 H b hp _ fun v H1 b1 q1 l1 => ⟨rfl, by rw [non_of l1]; exact k _ H1 b1 q1 rfl⟩
theorem ex_notN [RpO α] {x : Option α} (h1 : Ex B ms ta σ H0 p x q) : Ex B ms (tOp (fun x y H Q => y = .non ∧ Q (.bl (!decide (x = .non))) H) ta (tC .non)) σ H0 p (!x.isNone) q := fun H b hp Q k => h1 H b hp _ fun v H1 b1 q1 l1 => ⟨rfl, by rw [non_of l1]; exact k _ H1 b1 q1 rfl⟩
/-! int(i), isinstance of what is known -/
theorem ex_intI {ts : TA} {i : Int} {A : List V → Hp → VK → Prop} (h : Ea B ms ts σ H0 p (i, ()) q) : Ex B ms (tCB (fun xs H Q => (∃ i, xs = [.int i] ∧ Q (.int i) H) ∨ A xs H Q) ts) σ H0 p i q := fun H b hp Q k => h H b hp _ fun vs H1 b1 q1 e1 => by
  obtain ⟨v1, _, rfl, r1, e⟩ := e1
  have e' : _ = [] := e
  have r1' : v1 = .int i := r1
  subst e' r1'
  exact .inl ⟨i, rfl, k _ H1 b1 q1 rfl⟩
theorem ex_isiL {xs : List α} (h : El B ms te σ H0 p xs q) : Ex B ms (tCB (rIsi K) (tCons te (tCons (tC (.ty "list")) tNil))) σ H0 p true q := fun H b hp Q k => h H b hp _ fun a H1 b1 q1 na ⟨vs, e, rl, l⟩ => r_isi_ll e (k _ H1 b1 q1 rfl)
theorem ex_isiT {x : α × β} (h : Ex B ms te σ H0 p x q) : Ex B ms (tCB (rIsi K) (tCons te (tCons (tC (.ty "tuple")) tNil))) σ H0 p true q := fun H b hp Q k => h H b hp _ fun v H1 b1 q1 ⟨a, u, w, e, _, eh, _⟩ => by subst e; exact r_isi_tt eh (k _ H1 b1 q1 rfl)
theorem ex_isiT3 {x : T3 α β γ} (h : Ex B ms te σ H0 p x q) : Ex B ms (tCB (rIsi K) (tCons te (tCons (tC (.ty "tuple")) tNil))) σ H0 p true q := fun H b hp Q k => h H b hp _ fun v H1 b1 q1 ⟨a, u, w, y, e, _, eh, _⟩ => by subst e; exact r_isi_tt eh (k _ H1 b1 q1 rfl)
theorem kit_nl : kitB "NoneType" "list" = some false := by decide +kernel
theorem r_isi_nl {H : Hp} {Q : VK} (q : Q (.bl false) H) : rIsi K [.non, .ty "list"] H Q := r_isi .non kit_nl q
theorem ex_isiOL {x : Option (List α)} (h : Ex B ms te σ H0 p x q) : Ex B ms (tCB (rIsi K) (tCons te (tCons (tC (.ty "list")) tNil))) σ H0 p x.isSome q := fun H b hp Q k => h H b hp _ fun v H1 b1 q1 e => by
  cases x with
  | none => have e' : v = .non := e; subst e'; exact r_isi_nl (k _ H1 b1 q1 rfl)
  | some xs =>
    obtain ⟨a, e1, n, vs, ev, _⟩ := (show rp ms H1 v xs from e)
    subst e1
    exact r_isi_ll ev (k _ H1 b1 q1 rfl)
theorem ex_isiOT2 {x : Option (α × β)} (h : Ex B ms te σ H0 p x q) : Ex B ms (tCB (rIsi K) (tCons te (tCons (tC (.ty "tuple")) tNil))) σ H0 p x.isSome q := fun H b hp Q k => h H b hp _ fun v H1 b1 q1 e => by
  cases x with
  | none => have e' : v = .non := e; subst e'; exact r_isi_nt (k _ H1 b1 q1 rfl)
  | some xs =>
    obtain ⟨a, u, w, e1, _, eh, _⟩ := (show rp ms H1 v xs from e)
    subst e1
    exact r_isi_tt eh (k _ H1 b1 q1 rfl)
theorem ex_isiOT3 {x : Option (T3 α β γ)} (h : Ex B ms te σ H0 p x q) : Ex B ms (tCB (rIsi K) (tCons te (tCons (tC (.ty "tuple")) tNil))) σ H0 p x.isSome q := fun H b hp Q k => h H b hp _ fun v H1 b1 q1 e => by
  cases x with
  | none => have e' : v = .non := e; subst e'; exact r_isi_nt (k _ H1 b1 q1 rfl)
  | some xs =>
    obtain ⟨a, u, w, y, e1, _, eh, _⟩ := (show rp ms H1 v xs from e)
    subst e1
    exact r_isi_tt eh (k _ H1 b1 q1 rfl)
theorem ex_isib {i : Int} (h : Ex B ms te σ H0 p i q) : Ex B ms (tCB (rIsi K) (tCons te (tCons (tC (.ty "bool")) tNil))) σ H0 p false q := fun H b hp Q k => h H b hp _ fun v H1 b1 q1 e => by
  have e' : v = .int i := e
  subst e'
  exact r_isi_ib (k _ H1 b1 q1 rfl)
theorem ex_isii {i : Int} (h : Ex B ms te σ H0 p i q) : Ex B ms (tCB (rIsi K) (tCons te (tCons (tC (.ty "int")) tNil))) σ H0 p true q := fun H b hp Q k => h H b hp _ fun v H1 b1 q1 e => by
  have e' : v = .int i := e
  subst e'
  exact r_isi_ii (k _ H1 b1 q1 rfl)
theorem ex_isibb {i : Bool} (h : Ex B ms te σ H0 p i q) : Ex B ms (tCB (rIsi K) (tCons te (tCons (tC (.ty "bool")) tNil))) σ H0 p true q := fun H b hp Q k => h H b hp _ fun v H1 b1 q1 e => by
  have e' : v = .bl i := e
  subst e'
  exact r_isi_bb (k _ H1 b1 q1 rfl)
theorem ex_lenT {u : α × β} (h : Ex B ms te σ H0 p u q) : Ex B ms (tCB (fun xs H Q => ∃ p ys, xs = [.ref p] ∧ (SqL K H p ys ∨ SqT K H p ys) ∧ Q (.int ys.length) H) (tCons te tNil)) σ H0 p (2 : Int) q := fun H b hp Q k => h H b hp _ fun v H1 b1 q1 ⟨a, w1, w2, e, _, eh, _⟩ => by
  subst e
  exact ⟨a, _, rfl, .inr (SqT.of eh), k _ H1 b1 q1 rfl⟩
theorem ex_lenT3 {u : T3 α β γ} (h : Ex B ms te σ H0 p u q) : Ex B ms (tCB (fun xs H Q => ∃ p ys, xs = [.ref p] ∧ (SqL K H p ys ∨ SqT K H p ys) ∧ Q (.int ys.length) H) (tCons te tNil)) σ H0 p (3 : Int) q := fun H b hp Q k => h H b hp _ fun v H1 b1 q1 ⟨a, w1, w2, w3, e, _, eh, _⟩ => by
  subst e
  exact ⟨a, _, rfl, .inr (SqT.of eh), k _ H1 b1 q1 rfl⟩
/-! in, of whole numbers -/
theorem inV_ints (i : Int) : ∀ xs : List Int, inV (.int i) (xs.map V.int) = decide (i ∈ xs)
  | [] => rfl
  | x :: xs => by
    have ih := inV_ints i xs
    unfold inV at ih ⊢
    rw [List.map_cons, List.any_cons, ih, show eqV (.int x) (.int i) = decide (x = i) by simp [eqV]; rfl]
    by_cases h : x = i
    · subst h; simp
    · have h' : i ≠ x := fun z => h z.symm
      simp [h, h']
theorem ex_in {i : Int} {xs : List Int} (W : Wd B ms H0) (h1 : Ex B ms ta σ H0 p i q) (h2 : El B ms tb σ H0 q xs r) : Ex B ms (tOp (rIn K false) ta tb) σ H0 p (decide (i ∈ xs)) r := fun H b hp Q k => h1 H b hp _ fun v H1 b1 q1 e1 => h2 H1 (b.trans b1) q1 _ fun a H2 b2 q2 na ⟨vs, e, rl, l⟩ => by
  rw [rl.ints fun _ _ h => h] at e
  have e1' : v = .int i := e1
  subst e1'
  refine ⟨a, _, rfl, .inl (SqL.of e), rfl, by simp [flatV], ?_⟩
  rw [inV_ints]
  exact k _ H2 (b1.trans b2) q2 rfl
theorem ex_notIn {i : Int} {xs : List Int} (W : Wd B ms H0) (h1 : Ex B ms ta σ H0 p i q) (h2 : El B ms tb σ H0 q xs r) : Ex B ms (tOp (rIn K true) ta tb) σ H0 p (!decide (i ∈ xs)) r := fun H b hp Q k => h1 H b hp _ fun v H1 b1 q1 e1 => h2 H1 (b.trans b1) q1 _ fun a H2 b2 q2 na ⟨vs, e, rl, l⟩ => by
  rw [rl.ints fun _ _ h => h] at e
  have e1' : v = .int i := e1
  subst e1'
  refine ⟨a, _, rfl, .inl (SqL.of e), rfl, by simp [flatV], ?_⟩
  rw [inV_ints]
  exact k _ H2 (b1.trans b2) q2 rfl
/-! calls -/
/-- a def that changes nothing that is there -/
def spP {ι ρ : Type} [RpA ι] [Rp ρ] (F : ι → Option ρ) : Sp := fun vs H Q _ => ∃ (ms : Ms) (i : ι) (r : ρ), Al ms H ∧ ra ms H vs i ∧ F i = some r ∧ ∀ v H', Same H H' → rp ms H' v r → Q v H'
/-- a def that draws from the box -/
def Bxs (b : Addr) (bx : List Int × Nat) : Hq := fun ms H => ∃ d, H b = some (.lst [.ref d, .int (bx.2 : Nat)]) ∧ d ≠ b ∧ d ∉ ms ∧ H d = some (.lst (bx.1.map V.int))
theorem sb_bxs {b : Addr} {bx : List Int × Nat} : Sb [b] (Bxs b bx) := fun ms ms' H H' ⟨d, e1, n, n2, e2⟩ M h => let ⟨n3, e3⟩ := M d _ n2 e2; ⟨d, h b (by simp) _ e1, n, n3, e3⟩
def spB {ι ρ : Type} [RpA ι] [Rp ρ] (F : List Int × Nat → ι → Option (ρ × (List Int × Nat))) : Sp := fun vs H Q _ => ∃ (ms : Ms) (b : Addr) (us : List V) (bx bx' : List Int × Nat) (i : ι) (r : ρ), vs = .ref b :: us ∧ b ∈ ms ∧ Al ms H ∧ Bxs b bx ms H ∧ ra ms H us i ∧ F bx i = some (r, bx') ∧
  ∀ v H', Bu [b] H H' → Bxs b bx' ms H' → rp ms H' v r → Q v H'
theorem ex_call {ι : Type} [RpA ι] {F : ι → Option α} {ts : TA} {E : XK} {i : ι} (W : Wd B ms H0) (hq : Sb B q) (h : Ea B ms ts σ H0 p i q) (e : F i = some x) : Ex B ms (tCall (spP F) [] E ts) σ H0 p x q := fun H b hp Q k => r_call (h H b hp _ fun vs H1 b1 q1 e1 =>
  ⟨ms, i, x, (W.al.bu b).bu b1, e1, e, fun v H' s rv => k v H' (b1.trans (Bu.same s)) (hq.same s q1) rv⟩)
/-- a call that is given lists that may still change, and answers no list -/
theorem ex_callB {ι : Type} [RpA ι] {F : List Int × Nat → ι → Option (α × (List Int × Nat))} {ts : TA} {E : XK} {i : ι} {b : Addr} {bx bx' : List Int × Nat} {v : Nat} (W : Wd [b] ms H0) (hs : σ[v]? = some (some (.ref b))) (h : Ea [b] ms ts σ H0 (Bxs b bx) i (Bxs b bx)) (e : F bx i = some (x, bx')) :
    Ex [b] ms (tCall (spB F) [] E (tCons (tVar v) ts)) σ H0 (Bxs b bx) x (Bxs b bx') := fun H bu hp Q k => r_call (show (tCons (tVar v) ts) σ H _ from ⟨_, hs, h H bu hp _ fun vs H1 b1 q1 e1 =>
  ⟨ms, b, vs, bx, bx', i, x, rfl, W.hB b (by simp), (W.al.bu bu).bu b1, q1, e1, e, fun v H' s q' rv => k v H' (b1.trans s) q' rv⟩⟩)
/-! what is walked -/
structure NSt (N : Hq) : Prop where
  mv : ∀ {ms ms' : Ms} {H H' : Hp}, N ms H → Mv ms H ms' H' → N ms' H'
def ItOk (J : It) (N : Hq) (xs : List α) : Prop := ∀ (i : Nat) (ms : Ms) (H : Hp), N ms H → Al ms H → (xs.length ≤ i → J.stop i H) ∧ ∀ x, xs[i]? = some x → J.go i H ∧ ∀ v H', J.yld i H v H' → Same H H' ∧ rp ms H' v x
def Ei (B ms : Ms) (wi : TI) (σ : St) (H0 : Hp) (p : Hq) (xs : List α) (q : Hq) : Prop :=
  ∀ H, Bu B H0 H → p ms H → ∀ R : It → Hp → Prop, (∀ J N H', Bu B H H' → q ms H' → NSt N → N ms H' → ItOk J N xs → R J H') → wi σ H R
def Fz {α : Type} [Rp α] (a : Addr) (xs : List α) : Hq := fun ms H => rp ms H (.ref a) xs
theorem nst_fz {a : Addr} {xs : List α} : NSt (Fz a xs) := ⟨fun h M => Rp.mv h M⟩
theorem Fz.get {H : Hp} {a : Addr} {xs : List α} (h : Fz a xs ms H) : Ls ms H a xs := by obtain ⟨a', e, n, l⟩ := h; cases e; exact l
theorem itok_list {a : Addr} {xs : List α} : ItOk (Itl K a) (Fz a xs) xs := fun i ms H hf al => by
  obtain ⟨vs, e, rl, l⟩ := hf.get
  refine ⟨fun h => ⟨vs, SqL.of e, by rw [rl.len]; exact h⟩, fun x ex => ?_⟩
  obtain ⟨v, ev, rv⟩ := rl.get' ex
  refine ⟨⟨vs, v, SqL.of e, ev⟩, fun u H' ⟨eH, h⟩ => ?_⟩
  subst eH
  have := h vs (SqL.of e)
  rw [ev] at this
  cases this
  exact ⟨fun _ _ z => z, rv⟩
theorem itok_rng {lo : Int} {n : Nat} : ItOk (Itr lo n) Tr (rngL lo n) := fun i ms H _ al => ⟨fun h => by
  have h' : n ≤ i := by simpa [rngL] using h
  exact h', fun x ex => by
  unfold rngL at ex
  rw [List.getElem?_map] at ex
  obtain ⟨j, ej, rfl⟩ := Option.map_eq_some_iff.mp ex
  obtain ⟨hj, e⟩ := List.getElem?_eq_some_iff.mp ej
  rw [List.getElem_range] at e
  rw [List.length_range] at hj
  subst e
  refine ⟨hj, fun u H' ⟨eH, h⟩ => ?_⟩
  subst eH
  exact ⟨fun _ _ z => z, h⟩⟩
theorem itok_zip {a b : Addr} {xs : List α} {ys : List β} : ItOk (Itz K a b) (fun ms H => Fz a xs ms H ∧ Fz b ys ms H) (xs.zip ys) := fun i ms H ⟨h1, h2⟩ al => by
  obtain ⟨vs, e, rl, l⟩ := h1.get
  obtain ⟨us, e2, rl2, l2⟩ := h2.get
  refine ⟨fun h => ?_, fun x ex => ?_⟩
  · refine ⟨vs, us, SqL.of e, SqL.of e2, ?_⟩
    rw [List.length_zip] at h
    have := rl.len
    have := rl2.len
    omega
  obtain ⟨x1, x2⟩ := x
  rw [List.getElem?_zip_eq_some] at ex
  obtain ⟨v, ev, rv⟩ := rl.get' ex.1
  obtain ⟨u, eu, ru⟩ := rl2.get' ex.2
  refine ⟨⟨vs, us, v, u, SqL.of e, SqL.of e2, ev, eu⟩, fun w H' ⟨T, v', u', ew, nT, eH, h1, h2⟩ => ?_⟩
  subst ew eH
  have h1' := h1 vs (SqL.of e)
  have h2' := h2 us (SqL.of e2)
  rw [ev] at h1'
  rw [eu] at h2'
  cases h1'
  cases h2'
  have s := same_upd (o := .tup [v, u]) nT
  exact ⟨s, T, v, u, rfl, al.not nT, upd_same, Rp.mv rv (Mv.same s), Rp.mv ru (Mv.same s)⟩
theorem itok_enum {a : Addr} {xs : List α} : ItOk (Ite K a) (Fz a xs) (enumL xs) := fun i ms H hf al => by
  obtain ⟨vs, e, rl, l⟩ := hf.get
  refine ⟨fun h => ⟨vs, SqL.of e, by unfold enumL at h; rw [List.length_mapIdx] at h; rw [rl.len]; exact h⟩, fun x ex => ?_⟩
  unfold enumL at ex
  rw [List.getElem?_mapIdx] at ex
  obtain ⟨y, ey, rfl⟩ := Option.map_eq_some_iff.mp ex
  obtain ⟨v, ev, rv⟩ := rl.get' ey
  refine ⟨⟨vs, v, SqL.of e, ev⟩, fun w H' ⟨T, v', ew, nT, eH, h⟩ => ?_⟩
  subst ew eH
  have h' := h vs (SqL.of e)
  rw [ev] at h'
  cases h'
  have s := same_upd (o := .tup [.int (i : Nat), v]) nT
  exact ⟨s, T, _, v, rfl, al.not nT, upd_same, rfl, Rp.mv rv (Mv.same s)⟩
theorem itok_tup2 {a : Addr} {x : α × α} : ItOk (Itt K a) (fun ms H => rp ms H (.ref a) x) [x.1, x.2] := fun i ms H hf al => by
  obtain ⟨a', u, w, e, n, eh, r1, r2⟩ := hf
  cases e
  refine ⟨fun h => ⟨[u, w], SqT.of eh, h⟩, fun y ey => ?_⟩
  have go : ∀ v, [u, w][i]? = some v → rp ms H v y → (Itt K a).go i H ∧ ∀ v H', (Itt K a).yld i H v H' → Same H H' ∧ rp ms H' v y := fun v ev rv => by
    refine ⟨⟨[u, w], v, SqT.of eh, ev⟩, fun z H' ⟨eH, h⟩ => ?_⟩
    subst eH
    have := h _ (SqT.of eh)
    rw [ev] at this
    cases this
    exact ⟨fun _ _ z => z, rv⟩
  match i, ey with
  | 0, ey => cases ey; exact go u rfl r1
  | 1, ey => cases ey; exact go w rfl r2
theorem ei_list {xs : List α} (h : Ex B ms te σ H0 p xs q) : Ei B ms (iList K te) σ H0 p xs q := fun H b hp R k => h H b hp _ fun v H1 b1 q1 ⟨a, e, n, l⟩ => by
  subst e
  obtain ⟨vs, ev, rl, l2⟩ := id l
  exact ⟨a, rfl, ⟨vs, SqL.of ev⟩, k _ (Fz a xs) H1 b1 q1 nst_fz ⟨a, rfl, n, l⟩ itok_list⟩
theorem nst_tr : NSt Tr := ⟨fun _ _ => trivial⟩
theorem ei_rng2 {ts : TA} {i j : Int} {xs : List Int} (h : Ea B ms ts σ H0 p (i, j, ()) q) (e : rng2 i j = some xs) : Ei B ms (iRng2 ts) σ H0 p xs q := fun H b hp R k => h H b hp _ fun vs H1 b1 q1 e1 => by
  obtain ⟨v1, _, rfl, r1, v2, _, rfl, r2, e0⟩ := e1
  have e0' : _ = [] := e0
  have r1' : v1 = .int i := r1
  have r2' : v2 = .int j := r2
  subst e0' r1' r2'
  unfold rng2 at e
  split at e
  · rename_i hl
    cases e
    exact ⟨i, j, rfl, ⟨hl.1, hl.2.1, hl.2.2.1, hl.2.2.2.1⟩, k _ Tr H1 b1 q1 nst_tr trivial itok_rng⟩
  · cases e
theorem ei_rng1 {ts : TA} {j : Int} {xs : List Int} (h : Ea B ms ts σ H0 p (j, ()) q) (e : rng1 j = some xs) : Ei B ms (iRng1 ts) σ H0 p xs q := fun H b hp R k => h H b hp _ fun vs H1 b1 q1 e1 => by
  obtain ⟨v1, _, rfl, r1, e0⟩ := e1
  have e0' : _ = [] := e0
  have r1' : v1 = .int j := r1
  subst e0' r1'
  unfold rng1 at e
  split at e
  · rename_i hl
    cases e
    exact ⟨j, rfl, hl.1, hl.2.1, k _ Tr H1 b1 q1 nst_tr trivial itok_rng⟩
  · cases e
theorem ei_zip {ts : TA} {xs : List α} {ys : List β} (h : Ea B ms ts σ H0 p (xs, ys, ()) q) : Ei B ms (iZip K ts) σ H0 p (xs.zip ys) q := fun H b hp R k => h H b hp _ fun vs H1 b1 q1 e1 => by
  obtain ⟨v1, _, rfl, r1, v2, _, rfl, r2, e0⟩ := e1
  have e0' : _ = [] := e0
  subst e0'
  obtain ⟨a1, rfl, n1, l1⟩ := id r1
  obtain ⟨a2, rfl, n2, l2⟩ := id r2
  obtain ⟨vs, ev, _⟩ := l1
  obtain ⟨us, eu, _⟩ := l2
  exact ⟨a1, a2, vs, us, rfl, SqL.of ev, SqL.of eu, k _ _ H1 b1 q1 ⟨fun h M => ⟨nst_fz.mv h.1 M, nst_fz.mv h.2 M⟩⟩ ⟨r1, r2⟩ itok_zip⟩
theorem ei_enum {ts : TA} {xs : List α} (h : Ea B ms ts σ H0 p (xs, ()) q) : Ei B ms (iEnum K ts) σ H0 p (enumL xs) q := fun H b hp R k => h H b hp _ fun vs H1 b1 q1 e1 => by
  obtain ⟨v1, _, rfl, r1, e0⟩ := e1
  have e0' : _ = [] := e0
  subst e0'
  obtain ⟨a1, rfl, n1, l1⟩ := id r1
  obtain ⟨vs, ev, _⟩ := l1
  exact ⟨a1, vs, rfl, SqL.of ev, k _ _ H1 b1 q1 nst_fz r1 itok_enum⟩
/-- stays when what is frozen, and what stands at S, stays -/
def NSS (S : Ms) (N : Hq) : Prop := ∀ {ms ms' : Ms} {H H' : Hp}, N ms H → Mv ms H ms' H' → (∀ a ∈ S, ∀ o, H a = some o → H' a = some o) → N ms' H'
theorem NSt.ss {N : Hq} (h : NSt N) : NSS [] N := fun n M _ => h.mv n M
/-- what a comprehension walks: it may be a list that may change elsewhere -/
def Ej (B ms : Ms) (wi : TI) (σ : St) (H0 : Hp) (p : Hq) (xs : List α) (q : Hq) : Prop :=
  ∀ H, Bu B H0 H → p ms H → ∀ R : It → Hp → Prop, (∀ J N S H', Bu B H H' → q ms H' → NSS S N → (∀ a ∈ S, a ∉ B ∧ H' a ≠ none) → N ms H' → ItOk J N xs → R J H') → wi σ H R
theorem Ei.ej {wi : TI} {xs : List α} (h : Ei B ms wi σ H0 p xs q) : Ej B ms wi σ H0 p xs q := fun H b hp R k => h H b hp R fun J N H' b1 q1 st n1 ok => k J N [] H' b1 q1 st.ss (fun a z => by cases z) n1 ok
theorem itok_listM {a : Addr} {xs : List α} : ItOk (Itl K a) (fun ms H => Ls ms H a xs) xs := fun i ms H hf al => by
  obtain ⟨vs, e, rl, l⟩ := hf
  refine ⟨fun h => ⟨vs, SqL.of e, by rw [rl.len]; exact h⟩, fun x ex => ?_⟩
  obtain ⟨v, ev, rv⟩ := rl.get' ex
  refine ⟨⟨vs, v, SqL.of e, ev⟩, fun u H' ⟨eH, h⟩ => ?_⟩
  rw [eH]
  have := h vs (SqL.of e)
  rw [ev] at this
  obtain rfl := Option.some.inj this
  exact ⟨fun _ _ z => z, rv⟩
theorem ej_listM {i : Nat} {a : Addr} {xs : List α} (W : Wd B ms H0) (hs : σ[i]? = some (some (.ref a))) (n : a ∉ B) (l : Ls ms H0 a xs) : Ej B ms (iList K (tVar i)) σ H0 p xs p := fun H b hp R k => by
  have l1 := l.bu W.hB n b
  obtain ⟨vs, ev, rl, l2⟩ := id l1
  refine ⟨_, hs, a, rfl, ⟨vs, SqL.of ev⟩, k _ (fun ms H => Ls ms H a xs) [a] H (Bu.refl B H) hp (fun n M s => n.step M (s a (by simp))) (fun c hc => ?_) l1 itok_listM⟩
  rw [List.mem_singleton.mp hc]
  exact ⟨n, l1.alive⟩
/-- what is known at H0 of things that are read, still so at H with ms' -/
structure Lt (B ms : Ms) (H0 : Hp) (ms' : Ms) (H : Hp) : Prop where
  W : Wd B ms' H
  M : Mv ms H0 ms' H
  S : ∀ a o, a ∉ B → H0 a = some o → H a = some o
theorem Ls.lt {H : Hp} {ms' : Ms} {a : Addr} {xs : List α} (h : Ls ms H0 a xs) (n : a ∉ B) (L : Lt B ms H0 ms' H) : Ls ms' H a xs := h.step L.M fun o e => L.S a o n e
/-- how a turn of a comprehension binds: from v, the slots σ2 -/
def Bnd (g : TG) (v : V) (σ : St) (H : Hp) (σ2 : St) : Prop := ∀ R : St → Hp → Prop, R σ2 H → g v σ H R
theorem bnd_name {i : Nat} {v : V} {H : Hp} : Bnd (gName i) v σ H (σ.set i (some v)) := fun R h => h
theorem coll_len {α β s : Type} {f : α → s → Option (Option β × s)} : ∀ {xs : List α} {x y : s} {ys : List β}, coll f xs x = some (ys, y) → ys.length ≤ xs.length
  | [], _, _, _, h => by cases h; exact Nat.le_refl _
  | a :: as, x, y, ys, h => by
    obtain ⟨u, hu, h⟩ := bind_inv h
    obtain ⟨z, hz, h⟩ := bind_inv h
    cases h
    have := coll_len hz
    rw [List.length_append, List.length_cons]
    have : u.1.toList.length ≤ 1 := by cases u.1 <;> simp
    omega
theorem en_lcS {s : Type} {wi : TI} {g : TG} {tt : TT} {vs : List Nat} {xs : List α} {ys : List β} {x0 x1 : s} {P : s → Hq} {f : α → s → Option (Option β × s)} (W : Wd B ms H0) (hP : ∀ x, Sb B (P x)) (hl : xs.length ≤ sizeLine) (hi : Ej B ms wi σ H0 p xs (P x0)) (hc : coll f xs x0 = some (ys, x1))
    (hb : ∀ (ms' : Ms) (H : Hp) (y : α) (v : V) (r : Option β) (x x' : s), Lt B ms H0 ms' H → P x ms' H → rp ms' H v y → f y x = some (r, x') → ∃ σ2, Bnd g v (wipe σ vs) H σ2 ∧ wipe σ2 vs = wipe σ vs ∧ ∃ c q', Et B ms' tt σ2 H (P x) c q' ∧ (c = false → r = none ∧ ∀ H, q' ms' H → P x' ms' H) ∧ (c = true → ∃ u, r = some u ∧ Ex B ms' te σ2 H q' u (P x'))) :
    En B ms (tLc wi g tt te vs) σ H0 p ys (P x1) := fun H b hp Q k => by
  refine r_lc (hi H b hp _ fun J N S H1 b1 q1 st hS n1 ok D nD => ?_)
  have W1 := (W.bu b).bu b1
  have nDm : D ∉ ms := W1.al.not nD
  have nDB : D ∉ B := fun z => nDm (W.hB D z)
  have s1 := same_upd (o := .lst []) nD
  have hSD : ∀ a ∈ S, a ≠ D := fun a ha z => (hS a ha).2 (z ▸ nD)
  refine ⟨fun i m H => m = xs.length - i ∧ i ≤ xs.length ∧ ∃ acc ys1 ys2 x, H D = some (.lst acc) ∧ RL (rp (D :: ms) H) acc ys1 ∧ acc.length ≤ i ∧ Bu B H1 H ∧ P x (D :: ms) H ∧ N (D :: ms) H ∧ coll f (xs.drop i) x = some (ys2, x1) ∧ ys1 ++ ys2 = ys ∧ Mv ms H1 (D :: ms) H,
    ⟨xs.length, by simp, Nat.zero_le _, [], [], ys, x0, upd_same, trivial, Nat.le_refl _, Bu.same s1, hP _ _ _ _ _ q1 (Mv.new nD s1) (fun a ha o e => s1 a o e), st n1 (Mv.new nD s1) (fun a ha o e => s1 a o e), hc, rfl, Mv.new nD s1⟩, ?_⟩
  rintro i m H2 ⟨rfl, hi, acc, ys1, ys2, x, hD, rl, hacc, b2, q2, n2, hd, eys, M2⟩
  have al2 : Al (D :: ms) H2 := (W1.al.bu b2).cons hD
  obtain ⟨ok1, ok2⟩ := ok i _ H2 n2 al2
  by_cases hlt : i < xs.length
  · right
    have ex := List.getElem?_eq_getElem hlt
    generalize xs[i] = y at ex
    obtain ⟨go, yld⟩ := ok2 y ex
    rw [drop_get ex] at hd
    obtain ⟨⟨r, x'⟩, hf, hd⟩ := bind_inv hd
    obtain ⟨⟨ys3, x3⟩, hd3, hd⟩ := bind_inv hd
    obtain ⟨e1, e2⟩ := Prod.mk.inj (Option.some.inj hd)
    subst e1
    rw [show x3 = x1 from e2] at hd3
    refine ⟨go, fun H' => xs.length - (i + 1) = xs.length - (i + 1) ∧ i + 1 ≤ xs.length ∧ ∃ acc ys1 ys2 x, H' D = some (.lst acc) ∧ RL (rp (D :: ms) H') acc ys1 ∧ acc.length ≤ i + 1 ∧ Bu B H1 H' ∧ P x (D :: ms) H' ∧ N (D :: ms) H' ∧ coll f (xs.drop (i + 1)) x = some (ys2, x1) ∧ ys1 ++ ys2 = ys ∧ Mv ms H1 (D :: ms) H', fun H' h => ⟨_, by omega, h⟩, fun v H3 hy => ?_⟩
    obtain ⟨s3, rv⟩ := yld v H3 hy
    have hB' : ∀ a ∈ B, a ∈ D :: ms := fun a ha => List.mem_cons_of_mem _ (W.hB a ha)
    have W3 : Wd B (D :: ms) H3 := ⟨hB', al2.same s3⟩
    have M3 : Mv ms H1 (D :: ms) H3 := M2.trans (Mv.same s3)
    have bb : Bu B H0 H3 := ((b.trans b1).trans b2).trans (Bu.same s3)
    have L3 : Lt B ms H0 (D :: ms) H3 := ⟨W3, (Mv.bu W.hB (b.trans b1)).trans M3, bb.1⟩
    have q3 := (hP x).same s3 q2
    obtain ⟨σ2, bd, ew, c, q', ht, hf0, hf1⟩ := hb _ H3 y v r x x' L3 q3 rv hf
    refine bd _ ⟨ew, ?_⟩
    refine ht.use q3 fun H4 b4 q4 => ?_
    have hD4 : H4 D = some (.lst acc) := b4.1 _ _ nDB (s3 _ _ hD)
    have M24 : Mv (D :: ms) H2 (D :: ms) H4 := (Mv.same s3).trans (Mv.bu hB' b4)
    cases c with
    | false =>
      obtain ⟨rfl, hq⟩ := hf0 rfl
      rw [if_neg (by decide)]
      refine ⟨rfl, hlt, acc, ys1, ys3, x', hD4, rl.imp fun _ _ z => Rp.mv z M24, by omega, (b2.trans (Bu.same s3)).trans b4, hq _ q4, st n2 M24 (fun a ha o e => b4.1 _ _ (hS a ha).1 (s3 _ _ e)), hd3, by simpa using eys, M2.trans M24⟩
    | true =>
      obtain ⟨y2, rfl, he⟩ := hf1 rfl
      rw [if_pos rfl]
      refine he H4 b4 q4 _ fun u H5 b5 q5 r5 => ?_
      have hD5 : H5 D = some (.lst acc) := b5.1 _ _ nDB hD4
      have M25 : Mv (D :: ms) H2 (D :: ms) H5 := M24.trans (Mv.bu hB' b5)
      have M56 : Mv (D :: ms) H5 (D :: ms) (upd H5 D (.lst (acc ++ [u]))) := Mv.but (m := D) (by simp) But.upd
      refine ⟨acc, hD5, by omega, rfl, hlt, acc ++ [u], ys1 ++ [y2], ys3, x', upd_same, RL.snoc (rl.imp fun _ _ z => Rp.mv z (M25.trans M56)) (Rp.mv r5 M56), by simp; omega,
        Bu.own (((b2.trans (Bu.same s3)).trans b4).trans b5) nD But.upd upd_same, hP _ _ _ _ _ q5 M56 (fun a ha o e => by rw [upd_ne (nab ha nDB)]; exact e), st n2 (M25.trans M56) (fun a ha o e => by rw [upd_ne (hSD a ha)]; exact b5.1 _ _ (hS a ha).1 (b4.1 _ _ (hS a ha).1 (s3 _ _ e))), hd3, by rw [← eys]; simp, M2.trans (M25.trans M56)⟩
  · left
    have e : i = xs.length := by omega
    subst e
    rw [List.drop_length] at hd
    cases hd
    refine ⟨ok1 (Nat.le_refl _), ?_⟩
    rw [List.append_nil] at eys
    subst eys
    exact k D H2 (b1.trans b2) q2 (b1.none nD) nDm ⟨acc, hD, rl, by omega⟩
theorem coll_of {α β : Type} {f : α → Option (Option β)} : ∀ {xs : List α} {ys : List β}, colP f xs = some ys → coll (fun a (_ : Unit) => (f a).map fun y => (y, ())) xs () = some (ys, ())
  | [], _, h => by cases h; rfl
  | a :: as, ys, h => by
    obtain ⟨u, hu, h⟩ := bind_inv h
    obtain ⟨z, hz, h⟩ := bind_inv h
    cases h
    show ((f a).map fun y => (y, ())).bind _ = _
    rw [hu]
    show ((coll _ as ()).bind _) = _
    rw [coll_of hz]
    rfl
theorem en_lc {wi : TI} {g : TG} {tt : TT} {vs : List Nat} {xs : List α} {ys : List β} {f : α → Option (Option β)} (W : Wd B ms H0) (hq : Sb B q) (hl : xs.length ≤ sizeLine) (hi : Ej B ms wi σ H0 p xs q) (hc : colP f xs = some ys)
    (hb : ∀ (ms' : Ms) (H : Hp) (y : α) (v : V) (r : Option β), Lt B ms H0 ms' H → q ms' H → rp ms' H v y → f y = some r → ∃ σ2, Bnd g v (wipe σ vs) H σ2 ∧ wipe σ2 vs = wipe σ vs ∧ ∃ c, Et B ms' tt σ2 H q c q ∧ (c = false → r = none) ∧ (c = true → ∃ u, r = some u ∧ Ex B ms' te σ2 H q u q)) :
    En B ms (tLc wi g tt te vs) σ H0 p ys q :=
  en_lcS (P := fun _ => q) W (fun _ => hq) hl hi (coll_of hc) fun ms' H y v r x x' L hp rv hf => by
    obtain ⟨r', hr, e⟩ := Option.map_eq_some_iff.mp hf
    obtain rfl : r' = r := congrArg Prod.fst e
    obtain ⟨σ2, b1, b2, c, h1, h2, h3⟩ := hb ms' H y v _ L hp rv hr
    exact ⟨σ2, b1, b2, c, q, h1, fun e => ⟨h2 e, fun _ z => z⟩, h3⟩
/-! two clauses -/
def col2 {α γ β : Type} (g : α → Option (List γ)) (f : α → γ → Option (Option β)) : List α → Option (List β)
  | [] => some []
  | a :: as => (g a).bind fun cs => (colP (f a) cs).bind fun ys => (col2 g f as).bind fun z => some (ys ++ z)
theorem colP_len {α β : Type} {f : α → Option (Option β)} {xs : List α} {ys : List β} (h : colP f xs = some ys) : ys.length ≤ xs.length := coll_len (coll_of h)
theorem en_lc2 {wi wi1 : TI} {g g1 : TG} {vs vs1 : List Nat} {xs : List α} {ys : List β} {gg : α → Option (List γ)} {f : α → γ → Option (Option β)} (W : Wd B ms H0) (hq : Sb B q) (hi : Ei B ms wi σ H0 p xs q) (hc : col2 gg f xs = some ys) (hl : ys.length ≤ sizeLine)
    (hb : ∀ (ms' : Ms) (H : Hp) (y : α) (v : V) (cs : List γ), Lt B ms H0 ms' H → q ms' H → rp ms' H v y → gg y = some cs → ∃ σ2, Bnd g v (wipe σ vs) H σ2 ∧ wipe σ2 vs = wipe σ vs ∧ Ei B ms' wi1 σ2 H q cs q ∧
      ∀ (ms' : Ms) (H : Hp) (c : γ) (u : V) (r : Option β), Lt B ms H0 ms' H → q ms' H → rp ms' H v y → rp ms' H u c → f y c = some r → ∃ σ3, Bnd g1 u (wipe σ2 vs1) H σ3 ∧ wipe σ3 vs1 = wipe σ2 vs1 ∧ ∃ z, r = some z ∧ Ex B ms' te σ3 H q z q) :
    En B ms (tLc2 wi g tYes wi1 g1 tYes te vs vs1) σ H0 p ys q := fun H b hp Q k => by
  refine r_lc2 (hi H b hp _ fun J N H1 b1 q1 st n1 ok D nD => ?_)
  have W1 := (W.bu b).bu b1
  have nDm : D ∉ ms := W1.al.not nD
  have nDB : D ∉ B := fun z => nDm (W.hB D z)
  have s1 := same_upd (o := .lst []) nD
  refine ⟨fun i m H => m = xs.length - i ∧ i ≤ xs.length ∧ ∃ acc ys1 ys2, H D = some (.lst acc) ∧ RL (rp (D :: ms) H) acc ys1 ∧ Bu B H1 H ∧ q (D :: ms) H ∧ N (D :: ms) H ∧ col2 gg f (xs.drop i) = some ys2 ∧ ys1 ++ ys2 = ys ∧ Mv ms H1 (D :: ms) H,
    ⟨xs.length, by simp, Nat.zero_le _, [], [], ys, upd_same, trivial, Bu.same s1, hq _ _ _ _ q1 (Mv.new nD s1) (fun a ha o e => s1 a o e), st.mv n1 (Mv.new nD s1), hc, rfl, Mv.new nD s1⟩, ?_⟩
  rintro i m H2 ⟨rfl, hi, acc, ys1, ys2, hD, rl, b2, q2, n2, hd, eys, M2⟩
  have al2 : Al (D :: ms) H2 := (W1.al.bu b2).cons hD
  obtain ⟨ok1, ok2⟩ := ok i _ H2 n2 al2
  have hB' : ∀ a ∈ B, a ∈ D :: ms := fun a ha => List.mem_cons_of_mem _ (W.hB a ha)
  by_cases hlt : i < xs.length
  · right
    have ex := List.getElem?_eq_getElem hlt
    generalize xs[i] = y at ex
    obtain ⟨go, yld⟩ := ok2 y ex
    rw [drop_get ex] at hd
    obtain ⟨cs, hg, hd⟩ := bind_inv hd
    obtain ⟨zs, hf, hd⟩ := bind_inv hd
    obtain ⟨ys3, hd3, hd⟩ := bind_inv hd
    cases hd
    refine ⟨go, fun H' => xs.length - (i + 1) = xs.length - (i + 1) ∧ i + 1 ≤ xs.length ∧ ∃ acc ys1 ys2, H' D = some (.lst acc) ∧ RL (rp (D :: ms) H') acc ys1 ∧ Bu B H1 H' ∧ q (D :: ms) H' ∧ N (D :: ms) H' ∧ col2 gg f (xs.drop (i + 1)) = some ys2 ∧ ys1 ++ ys2 = ys ∧ Mv ms H1 (D :: ms) H', fun H' h => ⟨_, by omega, h⟩, fun v H3 hy => ?_⟩
    obtain ⟨s3, rv⟩ := yld v H3 hy
    have W3 : Wd B (D :: ms) H3 := ⟨hB', al2.same s3⟩
    have M3 : Mv ms H1 (D :: ms) H3 := M2.trans (Mv.same s3)
    have bb : Bu B H0 H3 := ((b.trans b1).trans b2).trans (Bu.same s3)
    have L3 : Lt B ms H0 (D :: ms) H3 := ⟨W3, (Mv.bu W.hB (b.trans b1)).trans M3, bb.1⟩
    have q3 := hq.same s3 q2
    obtain ⟨σ2, bd, ew, hi1, hb1⟩ := hb _ H3 y v cs L3 q3 rv hg
    refine bd _ ⟨ew, ?_⟩
    refine r_yes ?_
    refine iteT ?_
    refine hi1 H3 (Bu.refl B H3) q3 _ fun J1 N1 H4 b4 q4 st1 n4 ok1' => ?_
    have hD4 : H4 D = some (.lst acc) := b4.1 _ _ nDB (s3 _ _ hD)
    have M24 : Mv (D :: ms) H2 (D :: ms) H4 := (Mv.same s3).trans (Mv.bu hB' b4)
    refine ⟨fun j m H => m = cs.length - j ∧ j ≤ cs.length ∧ ∃ acc yz1 yz2, H D = some (.lst acc) ∧ RL (rp (D :: ms) H) acc (ys1 ++ yz1) ∧ Bu B H1 H ∧ q (D :: ms) H ∧ N1 (D :: ms) H ∧ colP (f y) (cs.drop j) = some yz2 ∧ yz1 ++ yz2 = zs ∧ Mv (D :: ms) H4 (D :: ms) H,
      ⟨cs.length, by simp, Nat.zero_le _, acc, [], zs, hD4, by rw [List.append_nil]; exact rl.imp fun _ _ z => Rp.mv z M24, (b2.trans (Bu.same s3)).trans b4, q4, n4, hf, rfl, Mv.refl⟩, ?_⟩
    rintro j m H5 ⟨rfl, hj, acc5, yz1, yz2, hD5, rl5, b5, q5, n5, hd5, eyz, M5⟩
    have al5 : Al (D :: ms) H5 := (W1.al.bu b5).cons hD5
    obtain ⟨ok3, ok4⟩ := ok1' j _ H5 n5 al5
    by_cases hlt5 : j < cs.length
    · right
      have ex5 := List.getElem?_eq_getElem hlt5
      generalize cs[j] = c at ex5
      obtain ⟨go5, yld5⟩ := ok4 c ex5
      rw [drop_get ex5] at hd5
      obtain ⟨r, hf5, hd5⟩ := bind_inv hd5
      obtain ⟨ws, hd6, hd5⟩ := bind_inv hd5
      cases hd5
      refine ⟨go5, fun H' => cs.length - (j + 1) = cs.length - (j + 1) ∧ j + 1 ≤ cs.length ∧ ∃ acc yz1 yz2, H' D = some (.lst acc) ∧ RL (rp (D :: ms) H') acc (ys1 ++ yz1) ∧ Bu B H1 H' ∧ q (D :: ms) H' ∧ N1 (D :: ms) H' ∧ colP (f y) (cs.drop (j + 1)) = some yz2 ∧ yz1 ++ yz2 = zs ∧ Mv (D :: ms) H4 (D :: ms) H', fun H' h => ⟨_, by omega, h⟩, fun u H6 hy6 => ?_⟩
      obtain ⟨s6, ru⟩ := yld5 u H6 hy6
      have W6 : Wd B (D :: ms) H6 := ⟨hB', al5.same s6⟩
      have M46 : Mv (D :: ms) H4 (D :: ms) H6 := M5.trans (Mv.same s6)
      have M36 : Mv (D :: ms) H3 (D :: ms) H6 := (Mv.bu hB' b4).trans M46
      have b16 : Bu B H1 H6 := b5.trans (Bu.same s6)
      have L6 : Lt B ms H0 (D :: ms) H6 := ⟨W6, ((Mv.bu W.hB (b.trans b1)).trans M3).trans M36, ((b.trans b1).trans b16).1⟩
      have q6 := hq.same s6 q5
      obtain ⟨σ3, bd6, ew6, z, rfl, he⟩ := hb1 _ H6 c u r L6 q6 (Rp.mv rv M36) ru hf5
      refine bd6 _ ⟨ew6, ?_⟩
      refine r_yes ?_
      refine iteT ?_
      refine he H6 (Bu.refl B H6) q6 _ fun u2 H7 b7 q7 r7 => ?_
      have hD7 : H7 D = some (.lst acc5) := b7.1 _ _ nDB (s6 _ _ hD5)
      have M57 : Mv (D :: ms) H5 (D :: ms) H7 := (Mv.same s6).trans (Mv.bu hB' b7)
      have M78 : Mv (D :: ms) H7 (D :: ms) (upd H7 D (.lst (acc5 ++ [u2]))) := Mv.but (m := D) (by simp) But.upd
      have ll : acc5.length < sizeLine := by
        have h1 := rl5.len
        have h2 : ys.length = ys1.length + (yz1.length + (1 + ws.length)) + ys3.length := by
          rw [← eys, ← eyz]
          simp
          omega
        rw [List.length_append] at h1
        omega
      refine ⟨acc5, hD7, ll, rfl, hlt5, acc5 ++ [u2], yz1 ++ [z], ws, upd_same, by rw [← List.append_assoc]; exact RL.snoc (rl5.imp fun _ _ z => Rp.mv z (M57.trans M78)) (Rp.mv r7 M78),
        Bu.own (b16.trans b7) nD But.upd upd_same, hq _ _ _ _ q7 M78 (fun a ha o e => by rw [upd_ne (nab ha nDB)]; exact e), st1.mv n5 (M57.trans M78), hd6, by rw [← eyz]; simp, M5.trans (M57.trans M78)⟩
    · left
      have e : j = cs.length := by omega
      subst e
      rw [List.drop_length] at hd5
      cases hd5
      rw [List.append_nil] at eyz
      subst eyz
      refine ⟨ok3 (Nat.le_refl _), rfl, hlt, acc5, ys1 ++ yz1, ys3, hD5, rl5, b5, q5, st.mv n2 (M24.trans M5), hd3, by rw [← eys, List.append_assoc], M2.trans (M24.trans M5)⟩
  · left
    have e : i = xs.length := by omega
    subst e
    rw [List.drop_length] at hd
    cases hd
    rw [List.append_nil] at eys
    subst eys
    exact ⟨ok1 (Nat.le_refl _), k D H2 (b1.trans b2) q2 (b1.none nD) nDm ⟨acc, hD, rl, by rw [rl.len]; exact hl⟩⟩
/-! sorted -/
def kQ (H : Hp) : V → Int × Int
  | .ref t => match H t with
    | some (.tup [.int i, .int j]) => (i, j)
    | _ => (0, 0)
  | _ => (0, 0)
theorem kQ_of {H : Hp} {v : V} {x : Int × Int} (h : rp ms H v x) : kQ H v = x ∧ ∃ t, v = .ref t ∧ H t = some (.tup [.int (kQ H v).1, .int (kQ H v).2]) := by
  obtain ⟨a, u, w, rfl, n, e, r1, r2⟩ := h
  have r1' : u = .int x.1 := r1
  have r2' : w = .int x.2 := r2
  subst r1' r2'
  have ek : kQ H (.ref a) = x := by unfold kQ; dsimp only; rw [e]
  exact ⟨ek, a, rfl, by rw [ek]; exact e⟩
theorem kQ_map {H : Hp} : ∀ {vs : List V} {xs : List (Int × Int)}, RL (rp ms H) vs xs → vs.map (kQ H) = xs
  | [], [], _ => rfl
  | _ :: _, _ :: _, ⟨a, b⟩ => by rw [List.map_cons, (kQ_of a).1, kQ_map b]
theorem kQ_mem {H : Hp} : ∀ {vs : List V} {xs : List (Int × Int)}, RL (rp ms H) vs xs → ∀ v ∈ vs, rp ms H v (kQ H v)
  | [], [], _, v, h => by simp at h
  | v :: _, x :: _, ⟨a, b⟩, u, h => by
    obtain rfl | h := List.mem_cons.mp h
    · rw [(kQ_of a).1]; exact a
    · exact kQ_mem b u h
theorem rl_map {β : Type} {r : V → β → Prop} {f : V → β} : ∀ {vs : List V}, (∀ v ∈ vs, r v (f v)) → RL r vs (vs.map f)
  | [], _ => trivial
  | v :: vs, h => ⟨h v List.mem_cons_self, rl_map fun u hu => h u (List.mem_cons_of_mem _ hu)⟩
def lexB (a b : Int × Int) : Bool := decide (a.1 < b.1 ∨ (a.1 = b.1 ∧ a.2 ≤ b.2))
def sortP (xs : List (Int × Int)) : List (Int × Int) := xs.mergeSort lexB
def sortI (xs : List Int) : List Int := xs.mergeSort fun a b => decide (a ≤ b)
theorem sortP_perm (xs : List (Int × Int)) : (sortP xs).Perm xs := List.mergeSort_perm xs lexB
theorem sortI_perm (xs : List Int) : (sortI xs).Perm xs := List.mergeSort_perm xs _
theorem sortP_srt (xs : List (Int × Int)) : (sortP xs).Pairwise LexLe := by
  have := List.pairwise_mergeSort (le := lexB) (fun a b c => by unfold lexB; simp only [decide_eq_true_eq]; omega) (fun a b => by unfold lexB; simp only [Bool.or_eq_true, decide_eq_true_eq]; omega) xs
  refine this.imp fun {a b} h => ?_
  unfold lexB at h
  unfold LexLe
  simpa using h
theorem sortI_srt (xs : List Int) : (sortI xs).Pairwise (· ≤ ·) := by
  have := List.pairwise_mergeSort (le := fun a b : Int => decide (a ≤ b)) (fun a b c => by simp only [decide_eq_true_eq]; omega) (fun a b => by simp only [Bool.or_eq_true, decide_eq_true_eq]; omega) xs
  exact this.imp fun {a b} h => by simpa using h
theorem sortP_eq {xs ys : List (Int × Int)} (h : ys.Perm xs) (s : ys.Pairwise LexLe) : ys = sortP xs := lex_uniq s (sortP_srt xs) (h.trans (sortP_perm xs).symm)
theorem sortI_eq {xs ys : List Int} (h : ys.Perm xs) (s : ys.Pairwise (· ≤ ·)) : ys = sortI xs := List.Perm.eq_of_pairwise (fun a b _ _ h1 h2 => by omega) s (sortI_srt xs) (h.trans (sortI_perm xs).symm)
theorem en_sortP {xs : List (Int × Int)} (W : Wd B ms H0) (hq : Sb B q) (h : El B ms te σ H0 p xs q) : En B ms (tCB (rSortedPO K) (tCons te tNil)) σ H0 p (sortP xs) q := fun H b hp Q k => h H b hp _ fun a H1 b1 q1 na ⟨vs, e, rl, l⟩ => by
  have hk := kQ_mem rl
  refine ⟨a, vs, kQ H1, rfl, SqL.of e, fun x hx => (kQ_of (hk x hx)).2, fun ys t srt stb nt => ?_⟩
  have s := same_upd (o := .lst ys) nt
  have e2 : ys.map (kQ H1) = sortP xs := by
    refine sortP_eq ?_ ?_
    · have := stb.perm.map (kQ H1)
      rw [kQ_map rl] at this
      exact this
    · rw [List.pairwise_map]
      refine srt.imp fun {x y} h => ?_
      have := SrtO.lexB_no.mp h
      unfold LexLe
      omega
  refine k _ _ (b1.trans (Bu.same s)) (hq.new nt s q1) (b1.none nt) (((W.al.bu b).bu b1).not nt) (ls_new nt ?_ (by rw [stb.perm.length_eq]; exact l))
  rw [← e2]
  exact rl_map fun y hy => hk y (stb.perm.mem_iff.mp hy)
theorem en_sortI {xs : List Int} (W : Wd B ms H0) (hq : Sb B q) (h : El B ms te σ H0 p xs q) : En B ms (tCB (rSortedI K) (tCons te tNil)) σ H0 p (sortI xs) q := fun H b hp Q k => h H b hp _ fun a H1 b1 q1 na ⟨vs, e, rl, l⟩ => by
  have ev := rl.ints fun _ _ h => h
  rw [ev] at e
  refine ⟨a, xs, rfl, SqL.of e, fun ys t pm so nt => ?_⟩
  have s := same_upd (o := .lst (ys.map V.int)) nt
  rw [← sortI_eq pm so] at k
  refine k _ _ (b1.trans (Bu.same s)) (hq.new nt s q1) (b1.none nt) (((W.al.bu b).bu b1).not nt) (ls_new nt (RL.of_map (f := V.int) (fun _ => rfl) _) ?_)
  rw [List.length_map, pm.length_eq, ← rl.len]
  exact l
/-! ### statements -/
theorem mv_newB {H H' : Hp} {a : Addr} (W : Wd B ms H) (b : Bu B H H') (na : H a = none) : Mv ms H (a :: ms) H' := fun c o n e => ⟨fun z => by
  obtain z | z := List.mem_cons.mp z
  · rw [z, na] at e; cases e
  · exact n z, b.1 c o (fun z => n (W.hB c z)) e⟩
theorem Wd.new {H H' : Hp} {a : Addr} (W : Wd B ms H) (b : Bu B H H') (ha : H' a ≠ none) : Wd B (a :: ms) H' := ⟨fun c hc => List.mem_cons_of_mem _ (W.hB c hc), fun c hc => by
  obtain z | z := List.mem_cons.mp hc
  · rw [z]; exact ha
  · exact W.al.bu b c z⟩
/-- x = a new list that will change -/
theorem En.mk {H : Hp} {xs : List α} {Q : VK} (W : Wd B ms H) (h : En B ms te σ H p xs q) (hp : p ms H) (k : ∀ a H', Bu B H H' → H a = none → q (a :: ms) H' → Wd B (a :: ms) H' → Mv ms H (a :: ms) H' → Ls (a :: ms) H' a xs → Q (.ref a) H') : te σ H Q :=
  h H (Bu.refl B H) hp _ fun a H1 b1 q1 na nm l => k a H1 b1 na q1 (W.new b1 l.alive) (mv_newB W b1 na) l
theorem Ex.go {H : Hp} {Q : VK} (W : Wd B ms H) (h : Ex B ms te σ H p x q) (hp : p ms H) (k : ∀ v H', Bu B H H' → q ms H' → Wd B ms H' → Mv ms H ms H' → rp ms H' v x → Q v H') : te σ H Q := h.use hp fun v H1 b1 q1 r1 => k v H1 b1 q1 (W.bu b1) (W.mv b1) r1
theorem Et.go {tt : TT} {c : Bool} {H : Hp} {R : Bool → Hp → Prop} (W : Wd B ms H) (h : Et B ms tt σ H p c q) (hp : p ms H) (k : ∀ H', Bu B H H' → q ms H' → Wd B ms H' → Mv ms H ms H' → R c H') : tt σ H R := h.use hp fun H1 b1 q1 => k H1 b1 q1 (W.bu b1) (W.mv b1)
/-- xs.append(e) -/
theorem s_app {H : Hp} {Q : VK} {i : Nat} {m : Addr} {xs ys : List α} {ts : TA} {T : String} (hT : T = "list") (W : Wd B ms H) (hs : σ[i]? = some (some (.ref m))) (l : Ls ms H m xs) (hm : m ∈ ms) (nB : m ∉ B) (hq : Sb B q) (h : Ea B ms ts σ H p (x, ()) q) (hp : p ms H) (e : appF xs x = some ys)
    (k : ∀ H', Bu (m :: B) H H' → q ms H' → Wd B ms H' → Mv ms H ms H' → Ls ms H' m ys → Q .non H') : tBM K T rAppend (tVar i) ts σ H Q := by
  subst hT
  obtain ⟨vs, ev, rl, ll⟩ := l
  refine r_bm ⟨_, hs, ty_lst ev, h H (Bu.refl B H) hp _ fun us H1 b1 q1 e1 => ?_⟩
  obtain ⟨v1, _, rfl, r1, e0⟩ := e1
  have e0' : _ = [] := e0
  subst e0'
  unfold appF at e
  split at e
  · rename_i hl
    cases e
    have ev1 := b1.1 _ _ nB ev
    have hl' : vs.length < sizeLine := by rw [rl.len]; exact hl
    refine r_app ev1 hl' fun H2 h2 u2 => ?_
    have W1 := W.bu b1
    have M : Mv ms H ms H2 := (W.mv b1).trans (Mv.but hm u2)
    refine k H2 ⟨fun a o n e => ?_, fun a e => (W1.al.but u2 h2 |> fun _ => ?_)⟩ ?_ ⟨W.hB, W1.al.but u2 h2⟩ M ⟨vs ++ [v1], h2, RL.snoc (rl.imp fun _ _ z => Rp.mv z M) (Rp.mv r1 (Mv.but hm u2)), by rw [List.length_append]; simp; omega⟩
    · have n' := notc n
      exact u2 _ _ n'.1 (b1.1 _ _ n'.2 e)
    · by_cases qm : a = m
      · rw [qm, h2]; exact fun z => by cases z
      · have := b1.2 a e
        cases h' : H1 a with
        | none => exact absurd h' this
        | some o' => rw [u2 a o' qm h']; exact fun z => by cases z
    · exact hq _ _ _ _ q1 (Mv.but hm u2) fun a ha o e => u2 _ _ (nab ha nB) e
  · cases e
/-- xs[i] = e -/
theorem s_setix {H : Hp} {i : Nat} {m : Addr} {xs ys : List α} {j : Int} {R : St → Hp → Prop} (W : Wd B ms H) (hs : σ[i]? = some (some (.ref m))) (l : Ls ms H m xs) (hm : m ∈ ms) (nB : m ∉ B) (hr : Sb B r) (h1 : Ex B ms te σ H p x q) (h2 : Ex B ms tb σ H q j r) (hp : p ms H) (e : setF xs j x = some ys)
    (k : ∀ H', Bu (m :: B) H H' → r ms H' → Wd B ms H' → Mv ms H ms H' → Ls ms H' m ys → R σ H') : te σ H (fun v H1 => gSub (tVar i) tb rSetL v σ H1 R) := by
  refine h1.use hp fun v H1 b1 q1 r1 => ?_
  refine r_gsub ⟨_, hs, h2 H1 b1 q1 _ fun u H2 b2 q2 r2 => ?_⟩
  obtain ⟨vs, ev, rl, ll⟩ := l
  have e2 : u = .int j := r2
  subst e2
  obtain ⟨n, en, ee⟩ := Option.bind_eq_some_iff.mp e
  cases ee
  have b12 := b1.trans b2
  have ev2 := b12.1 _ _ nB ev
  refine r_setL ev2 (j := n) (by rw [rl.len]; exact en) fun H3 h3 u3 => ?_
  have W2 := W.bu b12
  have M : Mv ms H ms H3 := (W.mv b12).trans (Mv.but hm u3)
  refine k H3 ⟨fun a o n e => ?_, fun a e => ?_⟩ ?_ ⟨W.hB, W2.al.but u3 h3⟩ M ⟨vs.set n v, h3, RL.set (rl.imp fun _ _ z => Rp.mv z M) (Rp.mv (Rp.mv r1 (Mv.bu W.hB b2)) (Mv.but hm u3)), by rw [List.length_set]; exact ll⟩
  · have n' := notc n
    exact u3 _ _ n'.1 (b12.1 _ _ n'.2 e)
  · by_cases qm : a = m
    · rw [qm, h3]; exact fun z => by cases z
    · have := b12.2 a e
      cases h' : H2 a with
      | none => exact absurd h' this
      | some o' => rw [u3 a o' qm h']; exact fun z => by cases z
  · exact hr _ _ _ _ q2 (Mv.but hm u3) fun a ha o e => u3 _ _ (nab ha nB) e
theorem Bu.own2 {H H' H'' : Hp} {m : Addr} (x : Bu B H H') (n : H m = Option.none) (y : Bu (m :: B) H' H'') : Bu B H H'' := ⟨fun a o na e => y.1 a o (fun z => by
  obtain z | z := List.mem_cons.mp z
  · rw [z, n] at e; cases e
  · exact na z) (x.1 a o na e), fun a e => y.2 a (x.2 a e)⟩
theorem Bu.own3 {H H' H'' : Hp} {m n : Addr} (x : Bu B H H') (hm : H m = Option.none) (hn : H n = Option.none) (y : Bu (m :: n :: B) H' H'') : Bu B H H'' := ⟨fun a o na e => y.1 a o (fun z => by
  obtain z | z := List.mem_cons.mp z
  · rw [z, hm] at e; cases e
  obtain z | z := List.mem_cons.mp z
  · rw [z, hn] at e; cases e
  · exact na z) (x.1 a o na e), fun a e => y.2 a (x.2 a e)⟩
theorem Sb.bu {H H' : Hp} (hq : Sb B q) (W : Wd B ms H) (s : Same H H') (z : q ms H) : q ms H' := hq.same s z
/-! loops -/
theorem r_for {wi : TI} {g : TG} {tb : TS} {D : Ends} {H : Hp} {xs : List α} (W : Wd B ms H) (hi : Ei B ms wi σ H p xs q) (hp : p ms H) (k : ∀ J N H1, Bu B H H1 → q ms H1 → Wd B ms H1 → Mv ms H ms H1 → NSt N → N ms H1 → ItOk J N xs → WkS J D.nx (fun y s h2 B => g y s h2 (tb { D with nx := B, ct := B, bk := D.nx })) σ H1) : tFor wi g tb D σ H :=
  r_forS (hi H (Bu.refl B H) hp _ fun J N H1 b1 q1 st n1 ok => k J N H1 b1 q1 (W.bu b1) (W.mv b1) st n1 ok)
theorem wk_fold {s : Type} {g : TG} {tb : TS} {D : Ends} {H : Hp} {xs : List α} {J : It} {N : Hq} {f : α → s → Option s} {x0 out : s} (ok : ItOk J N xs) (hm : fold f xs x0 = some out) (I : s → St → Hp → Prop) (h0 : I x0 σ H) (hN : ∀ x σ H, I x σ H → N ms H ∧ Al ms H)
    (hs : ∀ a v x x' σ H H1, I x σ H → Same H H1 → rp ms H1 v a → f a x = some x' → g v σ H1 fun σ2 H2 => tb { D with nx := I x', ct := I x', bk := D.nx } σ2 H2) (hd : ∀ σ H, I out σ H → D.nx σ H) :
    WkS J D.nx (fun y s h2 B => g y s h2 (tb { D with nx := B, ct := B, bk := D.nx })) σ H := by
  refine ⟨fun i m σ H => m = xs.length - i ∧ i ≤ xs.length ∧ ∃ x, I x σ H ∧ fold f (xs.drop i) x = some out, ⟨xs.length, by simp, Nat.zero_le _, x0, h0, hm⟩, ?_⟩
  rintro i m σ H ⟨rfl, hi, x, hI, hf⟩
  obtain ⟨n1, al⟩ := hN _ _ _ hI
  obtain ⟨ok1, ok2⟩ := ok i ms H n1 al
  by_cases hlt : i < xs.length
  · right
    have ex := List.getElem?_eq_getElem hlt
    generalize xs[i] = y at ex
    obtain ⟨go, yld⟩ := ok2 y ex
    rw [drop_get ex] at hf
    obtain ⟨x', h1, hf⟩ := bind_inv hf
    refine ⟨go, I x', fun σ' H' h => ⟨_, by omega, rfl, hlt, x', h, hf⟩, fun v H1 hy => ?_⟩
    obtain ⟨s1, rv⟩ := yld v H1 hy
    exact hs y v x x' σ H H1 hI s1 rv h1
  · left
    have e : i = xs.length := by omega
    subst e
    rw [List.drop_length] at hf
    cases hf
    exact ⟨ok1 (Nat.le_refl _), hd σ H hI⟩
theorem wk_loop {s ρ : Type} {g : TG} {tb : TS} {D : Ends} {H : Hp} {xs : List α} {J : It} {N : Hq} {f : α → s → Option (Fl ρ s)} {x0 : s} {out : Fl ρ s} (ok : ItOk J N xs) (hm : loop f xs x0 = some out) (I : s → St → Hp → Prop) (h0 : I x0 σ H) (hN : ∀ x σ H, I x σ H → N ms H ∧ Al ms H)
    (hs : ∀ a v x fl σ H H1, I x σ H → Same H H1 → rp ms H1 v a → f a x = some fl → (∀ r, fl = .ret r → out = .ret r) → g v σ H1 fun σ2 H2 => tb { D with nx := fun σ' H' => ∃ x', fl = .go x' ∧ I x' σ' H', ct := fun σ' H' => ∃ x', fl = .go x' ∧ I x' σ' H', bk := D.nx } σ2 H2)
    (hd : ∀ x σ H, out = .go x → I x σ H → D.nx σ H) :
    WkS J D.nx (fun y s h2 B => g y s h2 (tb { D with nx := B, ct := B, bk := D.nx })) σ H := by
  refine ⟨fun i m σ H => m = xs.length - i ∧ i ≤ xs.length ∧ ∃ x, I x σ H ∧ loop f (xs.drop i) x = some out, ⟨xs.length, by simp, Nat.zero_le _, x0, h0, hm⟩, ?_⟩
  rintro i m σ H ⟨rfl, hi, x, hI, hf⟩
  obtain ⟨n1, al⟩ := hN _ _ _ hI
  obtain ⟨ok1, ok2⟩ := ok i ms H n1 al
  by_cases hlt : i < xs.length
  · right
    have ex := List.getElem?_eq_getElem hlt
    generalize xs[i] = y at ex
    obtain ⟨go, yld⟩ := ok2 y ex
    rw [drop_get ex] at hf
    obtain ⟨fl, h1, hf⟩ := bind_inv hf
    refine ⟨go, fun σ' H' => ∃ x', fl = .go x' ∧ I x' σ' H', fun σ' H' ⟨x', e, h⟩ => ?_, fun v H1 hy => ?_⟩
    · subst e
      exact ⟨_, by omega, rfl, hlt, x', h, hf⟩
    · obtain ⟨s1, rv⟩ := yld v H1 hy
      refine hs y v x fl σ H H1 hI s1 rv h1 fun r e => ?_
      subst e
      cases hf
      rfl
  · left
    have e : i = xs.length := by omega
    subst e
    rw [List.drop_length] at hf
    cases hf
    exact ⟨ok1 (Nat.le_refl _), hd _ σ H rfl hI⟩
def whl {s ρ : Type} (c : s → Option Bool) (f : s → Option (Fl ρ s)) : Nat → s → Option (Fl ρ s)
  | 0, _ => none
  | n + 1, x => (c x).bind fun b => if b = true then (f x).bind fun y => match y with | .ret r => some (.ret r) | .go z => whl c f n z else some (.go x)
theorem wk_while {s ρ : Type} {tc : TT} {tb : TS} {D : Ends} {H : Hp} {c : s → Option Bool} {f : s → Option (Fl ρ s)} {m : Nat} {x0 : s} {out : Fl ρ s} (hm : whl c f m x0 = some out) (I : s → St → Hp → Prop) (h0 : I x0 σ H)
    (ht : ∀ x t σ H, I x σ H → c x = some t → ∀ R : Bool → Hp → Prop, (∀ H', I x σ H' → R t H') → tc σ H R)
    (hs : ∀ x fl σ H, I x σ H → f x = some fl → (∀ r, fl = .ret r → out = .ret r) → tb { D with nx := fun σ' H' => ∃ x', fl = .go x' ∧ I x' σ' H', ct := fun σ' H' => ∃ x', fl = .go x' ∧ I x' σ' H', bk := D.nx } σ H)
    (hd : ∀ x σ H, out = .go x → I x σ H → D.nx σ H) : tWhile tc tb D σ H := by
  refine ⟨fun n σ H => ∃ x, I x σ H ∧ whl c f n x = some out, ⟨m, x0, h0, hm⟩, ?_⟩
  rintro n σ H ⟨x, hI, hw⟩
  cases n with
  | zero => cases hw
  | succ n =>
    obtain ⟨t, hc, hw⟩ := bind_inv hw
    refine ht x t σ H hI hc _ fun H' hI' => ?_
    cases t with
    | false =>
      rw [if_neg (by decide)] at hw ⊢
      exact hd x σ H' (Option.some.inj hw).symm hI'
    | true =>
      rw [if_pos rfl] at hw ⊢
      obtain ⟨fl, hf, hw⟩ := bind_inv hw
      refine ⟨_, ?_, hs x fl σ H' hI' hf fun r e => ?_⟩
      · rintro σ' H2 ⟨x', rfl, hI2⟩
        exact ⟨n, Nat.lt_succ_self n, x', hI2, hw⟩
      · subst e
        exact (Option.some.inj hw).symm
def popF {α : Type} (xs : List α) (i : Int) : Option (α × List α) := if -(2 ^ 63) ≤ i ∧ i < 2 ^ 63 then (ixN xs.length i).bind fun j => (xs[j]?).map fun y => (y, xs.eraseIdx j) else none
def remF (xs : List Int) (x : Int) : Option (List Int) := if x ∈ xs then some (xs.erase x) else none
def insF {α : Type} (xs : List α) (i : Int) (x : α) : Option (List α) := if xs.length < sizeLine ∧ 0 ≤ i ∧ i < 2 ^ 63 then some (xs.take i.toNat ++ [x] ++ xs.drop i.toNat) else none
/-- a list that may change is given another content -/
theorem chg {H H1 : Hp} {m : Addr} {ys : List α} {vs us : List V} (W : Wd B ms H) (hm : m ∈ ms) (nB : m ∉ B) (hq : Sb B q) (b1 : Bu B H H1) (q1 : q ms H1) (ev : H m = some (.lst vs)) (rl : RL (rp ms H1) us ys) (hl : us.length ≤ sizeLine) :
    let H2 := upd H1 m (.lst us)
    Bu (m :: B) H H2 ∧ q ms H2 ∧ Wd B ms H2 ∧ Mv ms H ms H2 ∧ Mv ms H1 ms H2 ∧ Ls ms H2 m ys := by
  intro H2
  have u2 : But m H1 H2 := But.upd
  have h2 : H2 m = some (.lst us) := upd_same
  have W1 := W.bu b1
  have M1 : Mv ms H1 ms H2 := Mv.but hm u2
  refine ⟨⟨fun a o n e => ?_, fun a e => ?_⟩, ?_, ⟨W.hB, W1.al.but u2 h2⟩, (W.mv b1).trans M1, M1, us, h2, rl.imp fun _ _ z => Rp.mv z M1, hl⟩
  · have n' := notc n
    exact u2 _ _ n'.1 (b1.1 _ _ n'.2 e)
  · by_cases qm : a = m
    · rw [qm, h2]; exact fun z => by cases z
    · have := b1.2 a e
      cases h' : H1 a with
      | none => exact absurd h' this
      | some o' => rw [u2 a o' qm h']; exact fun z => by cases z
  · exact hq _ _ _ _ q1 M1 fun a ha o e => u2 _ _ (nab ha nB) e
/-- xs.insert(i, e) -/
theorem s_ins {H : Hp} {Q : VK} {i : Nat} {m : Addr} {xs ys : List α} {j : Int} {ts : TA} {T : String} (hT : T = "list") (W : Wd B ms H) (hs : σ[i]? = some (some (.ref m))) (l : Ls ms H m xs) (hm : m ∈ ms) (nB : m ∉ B) (hq : Sb B q) (h : Ea B ms ts σ H p (j, x, ()) q) (hp : p ms H) (e : insF xs j x = some ys)
    (k : ∀ H', Bu (m :: B) H H' → q ms H' → Wd B ms H' → Mv ms H ms H' → Ls ms H' m ys → Q .non H') : tBM K T (fun x vs H Q => ∃ (l : Addr) (xs : List V) (i : Int) (y : V), x = .ref l ∧ vs = [.int i, y] ∧ H l = some (.lst xs) ∧ xs.length < sizeLine ∧ 0 ≤ i ∧ i < 2 ^ 63 ∧ Q .non (upd H l (.lst (xs.take i.toNat ++ [y] ++ xs.drop i.toNat)))) (tVar i) ts σ H Q := by
  subst hT
  obtain ⟨vs, ev, rl, ll⟩ := l
  refine r_bm ⟨_, hs, ty_lst ev, h H (Bu.refl B H) hp _ fun us H1 b1 q1 e1 => ?_⟩
  obtain ⟨v0, _, rfl, r0, v1, _, rfl, r1, e0⟩ := e1
  have e0' : _ = [] := e0
  have r0' : v0 = .int j := r0
  subst e0' r0'
  unfold insF at e
  split at e
  · rename_i hl
    cases e
    have ev1 := b1.1 _ _ nB ev
    have rl1 : RL (rp ms H1) vs xs := rl.imp fun _ _ z => Rp.mv z (W.mv b1)
    obtain ⟨c1, c2, c3, c4, c5, c6⟩ := chg W hm nB hq b1 q1 ev (us := vs.take j.toNat ++ [v1] ++ vs.drop j.toNat) (ys := xs.take j.toNat ++ [x] ++ xs.drop j.toNat) ((rl1.take.snoc r1).app rl1.drop)
      (by have := rl.len; rw [List.length_append, List.length_append, List.length_take, List.length_drop, List.length_singleton]; omega)
    exact ⟨m, vs, j, v1, rfl, rfl, ev1, by rw [rl.len]; exact hl.1, hl.2.1, hl.2.2, k _ c1 c2 c3 c4 c6⟩
  · cases e
/-- e = xs.pop(i) -/
theorem s_pop {H : Hp} {Q : VK} {i : Nat} {m : Addr} {xs ys : List α} {j : Int} {ts : TA} {T : String} (hT : T = "list") (W : Wd B ms H) (hs : σ[i]? = some (some (.ref m))) (l : Ls ms H m xs) (hm : m ∈ ms) (nB : m ∉ B) (hq : Sb B q) (h : Ea B ms ts σ H p (j, ()) q) (hp : p ms H) (e : popF xs j = some (x, ys))
    (k : ∀ v H', Bu (m :: B) H H' → q ms H' → Wd B ms H' → Mv ms H ms H' → Ls ms H' m ys → rp ms H' v x → Q v H') : tBM K T rPopAt (tVar i) ts σ H Q := by
  subst hT
  obtain ⟨vs, ev, rl, ll⟩ := l
  refine r_bm ⟨_, hs, ty_lst ev, h H (Bu.refl B H) hp _ fun us H1 b1 q1 e1 => ?_⟩
  obtain ⟨v1, _, rfl, r1, e0⟩ := e1
  have e0' : _ = [] := e0
  have r1' : v1 = .int j := r1
  subst e0' r1'
  unfold popF at e
  split at e
  · rename_i hl
    obtain ⟨n, en, e⟩ := bind_inv e
    obtain ⟨y, ey, e⟩ := Option.map_eq_some_iff.mp e
    obtain ⟨e2, e3⟩ := Prod.mk.inj e
    subst e2 e3
    have ev1 := b1.1 _ _ nB ev
    have rl1 : RL (rp ms H1) vs xs := rl.imp fun _ _ z => Rp.mv z (W.mv b1)
    obtain ⟨v, hv, rv⟩ := rl1.get' ey
    obtain ⟨c1, c2, c3, c4, c5, c6⟩ := chg W hm nB hq b1 q1 ev (us := vs.eraseIdx n) (ys := xs.eraseIdx n) rl1.erase (Nat.le_trans (List.length_eraseIdx_le vs n) ll)
    exact ⟨m, vs, j, n, v, rfl, rfl, ev1, hl.1, hl.2, by rw [rl.len]; exact (ixN_seq en).1, hv, k _ _ c1 c2 c3 c4 c6 (Rp.mv rv c5)⟩
  · cases e
theorem first_rem : ∀ {xs : List Int} {x : Int}, x ∈ xs → ∃ j, xs[j]? = some x ∧ (∀ m : Nat, m < j → xs[m]? ≠ some x) ∧ xs.erase x = xs.eraseIdx j
  | [], _, h => by cases h
  | y :: ys, x, h => by
    by_cases e : y = x
    · subst e
      exact ⟨0, rfl, fun m hm => absurd hm (Nat.not_lt_zero m), by simp⟩
    · have h' : x ∈ ys := by
        cases h with
        | head => exact absurd rfl e
        | tail _ h => exact h
      obtain ⟨j, h1, h2, h3⟩ := first_rem h'
      refine ⟨j + 1, by simpa using h1, fun m hm => ?_, ?_⟩
      · cases m with
        | zero => simpa using e
        | succ m => simpa using h2 m (by omega)
      · rw [List.erase_cons_tail (by simpa using e), h3]
        rfl
/-- xs.remove(e) -/
theorem s_rem {H : Hp} {Q : VK} {i : Nat} {m : Addr} {xs ys : List Int} {j : Int} {ts : TA} {T : String} (hT : T = "list") (W : Wd B ms H) (hs : σ[i]? = some (some (.ref m))) (l : Ls ms H m xs) (hm : m ∈ ms) (nB : m ∉ B) (hq : Sb B q) (h : Ea B ms ts σ H p (j, ()) q) (hp : p ms H) (e : remF xs j = some ys)
    (k : ∀ H', Bu (m :: B) H H' → q ms H' → Wd B ms H' → Mv ms H ms H' → Ls ms H' m ys → Q .non H') : tBM K T rRemI (tVar i) ts σ H Q := by
  subst hT
  obtain ⟨vs, ev, rl, ll⟩ := l
  refine r_bm ⟨_, hs, ty_lst ev, h H (Bu.refl B H) hp _ fun us H1 b1 q1 e1 => ?_⟩
  obtain ⟨v1, _, rfl, r1, e0⟩ := e1
  have e0' : _ = [] := e0
  have r1' : v1 = .int j := r1
  subst e0' r1'
  unfold remF at e
  split at e
  · rename_i hl
    cases e
    have ev1 := b1.1 _ _ nB ev
    have ei := rl.ints fun _ _ h => h
    subst ei
    obtain ⟨n, h1, h2, h3⟩ := first_rem hl
    obtain ⟨c1, c2, c3, c4, c5, c6⟩ := chg W hm nB hq b1 q1 ev (us := (xs.eraseIdx n).map V.int) (ys := xs.eraseIdx n) (RL.of_map (f := V.int) (fun _ => rfl) _) (by rw [List.length_map]; exact Nat.le_trans (List.length_eraseIdx_le xs n) (by rw [List.length_map] at ll; exact ll))
    rw [h3] at k
    exact ⟨m, xs, j, n, rfl, rfl, ev1, h1, h2, k _ c1 c2 c3 c4 c6⟩
  · cases e
/-- xs.append(ys.pop(e)) -/
theorem s_apppop {H : Hp} {Q : VK} {i i2 : Nat} {m m2 : Addr} {xs ys us ws : List α} {j : Int} {ts : TA} {T T2 : String} (hT : T = "list") (hT2 : T2 = "list") (W : Wd B ms H) (hs : σ[i]? = some (some (.ref m))) (hs2 : σ[i2]? = some (some (.ref m2))) (l : Ls ms H m xs) (l2 : Ls ms H m2 us) (hm : m ∈ ms) (hm2 : m2 ∈ ms) (ne : m2 ≠ m) (nB : m ∉ B) (nB2 : m2 ∉ B) (hq : Sb B q) (h : Ea B ms ts σ H p (j, ()) q) (hp : p ms H) (e : popF xs j = some (x, ys)) (e2 : appF us x = some ws)
    (k : ∀ H', Bu (m2 :: m :: B) H H' → q ms H' → Wd B ms H' → Mv ms H ms H' → Ls ms H' m ys → Ls ms H' m2 ws → Q .non H') : tBM K T2 rAppend (tVar i2) (tCons (tBM K T rPopAt (tVar i) ts) tNil) σ H Q := by
  subst hT2
  obtain ⟨vs2, ev2, rl2, ll2⟩ := id l2
  refine r_bm ⟨_, hs2, ty_lst ev2, s_pop hT W hs l hm nB hq h hp e fun v H1 b1 q1 W1 M1 l1 rv => ?_⟩
  have n2 : m2 ∉ m :: B := nin ne nB2
  have ev3 := b1.1 _ _ n2 ev2
  have l3 := l2.step M1 fun o e => b1.1 _ _ n2 e
  obtain ⟨vs3, ev4, rl3, ll3⟩ := l3
  have e4 : vs3 = vs2 := by
    rw [ev3] at ev4
    cases ev4
    rfl
  subst e4
  unfold appF at e2
  split at e2
  · rename_i hl
    cases e2
    have hl' : vs3.length < sizeLine := by rw [rl3.len]; exact hl
    refine r_app ev3 hl' fun H2 h2 u2 => ?_
    have M2 : Mv ms H1 ms H2 := Mv.but hm2 u2
    refine k H2 ⟨fun a o n e => ?_, fun a e => ?_⟩ ?_ ⟨W.hB, W1.al.but u2 h2⟩ (M1.trans M2) (l1.step M2 fun o e => u2 _ _ (fun z => ne z.symm) e) ⟨vs3 ++ [v], h2, RL.snoc (rl3.imp fun _ _ z => Rp.mv z M2) (Rp.mv rv M2), by rw [List.length_append]; simp; omega⟩
    · have n' := notc n
      exact u2 _ _ n'.1 (b1.1 _ _ n'.2 e)
    · by_cases qm : a = m2
      · rw [qm, h2]; exact fun z => by cases z
      · have := b1.2 a e
        cases h' : H1 a with
        | none => exact absurd h' this
        | some o' => rw [u2 a o' qm h']; exact fun z => by cases z
    · exact hq _ _ _ _ q1 M2 fun a ha o e => u2 _ _ (nab ha nB2) e
  · cases e2
theorem rp_nar {H : Hp} {v : V} {x : Option α} {y : α} (e : x = some y) (h : rp ms H v x) : rp ms H v y := by rw [e] at h; exact h
theorem rp_unnar {H : Hp} {v : V} {x : Option α} {y : α} (e : x = some y) (h : rp ms H v y) : rp ms H v x := by rw [e]; exact h
/-! ### what the generated texts name -/
theorem ex_vi {i : Nat} {n : Int} (hs : σ[i]? = some (some (.int n))) : Ex B ms (tVar i) σ H0 p n p := fun H b hp Q k => ⟨_, hs, k _ H (Bu.refl B H) hp rfl⟩
theorem ex_vb {i : Nat} {n : Bool} (hs : σ[i]? = some (some (.bl n))) : Ex B ms (tVar i) σ H0 p n p := fun H b hp Q k => ⟨_, hs, k _ H (Bu.refl B H) hp rfl⟩
theorem ex_vs {i : Nat} {n : Str} (hs : σ[i]? = some (some (.str n))) : Ex B ms (tVar i) σ H0 p n p := fun H b hp Q k => ⟨_, hs, k _ H (Bu.refl B H) hp rfl⟩
def modF (a m : Int) : Option Int := if 0 < m then some (a % m) else none
def mulF (a m : Int) : Option Int := if -(2 ^ 64) < a ∧ a < 2 ^ 64 then some (a * m) else none
theorem modF_ok {a m t : Int} (h : modF a m = some t) : 0 < m ∧ a % m = t := by
  unfold modF at h
  split at h
  · cases h; exact ⟨by assumption, rfl⟩
  · cases h
theorem mulF_ok {a m t : Int} (h : mulF a m = some t) : CMul a m ∧ a * m = t := by
  unfold mulF at h
  split at h
  · cases h; exact ⟨.inl (by assumption), rfl⟩
  · cases h
theorem et_yes : Et B ms tYes σ H0 p true p := fun H b hp R k => k H (Bu.refl B H) hp
theorem et_chain {te : TE} {c : Bool} (h : Ex B ms te σ H0 p c q) : Et B ms (tTest te) σ H0 p c q := et_test h
theorem ite_by {c : Bool} {A C : Prop} (h1 : c = true → A) (h2 : ¬ c = true → C) : if c = true then A else C := by
  cases c
  · exact h2 (by decide)
  · exact h1 rfl
theorem not_less {a : Addr} {ms ms' : Ms} (n : a ∉ ms) (l : ∀ c, c ∈ ms' → c ∈ ms) : a ∉ ms' := fun z => n (l a z)
theorem bnd_tup2 {H : Hp} {a : Addr} {u w : V} {t1 t2 : TG} {σ1 σ2 : St} (eh : H a = some (.tup [u, w])) (h1 : Bnd t1 u σ H σ1) (h2 : Bnd t2 w σ1 H σ2) : Bnd (gTup K 2 (gCons t1 (gCons t2 gNil))) (.ref a) σ H σ2 := fun R hR =>
  r_gtup (SqT.of eh) rfl (r_gcons (h1 _ (r_gcons (h2 _ (r_gnil hR)))))
theorem bnd_tup3 {H : Hp} {a : Addr} {u w y : V} {t1 t2 t3 : TG} {σ1 σ2 σ3 : St} (eh : H a = some (.tup [u, w, y])) (h1 : Bnd t1 u σ H σ1) (h2 : Bnd t2 w σ1 H σ2) (h3 : Bnd t3 y σ2 H σ3) : Bnd (gTup K 3 (gCons t1 (gCons t2 (gCons t3 gNil)))) (.ref a) σ H σ3 := fun R hR =>
  r_gtup (SqT.of eh) rfl (r_gcons (h1 _ (r_gcons (h2 _ (r_gcons (h3 _ (r_gnil hR)))))))
theorem rng1_len {j : Int} {xs : List Int} (e : rng1 j = some xs) : xs.length ≤ sizeLine := by
  unfold rng1 at e
  split at e
  · rename_i h
    cases e
    simpa [rngL] using h.2.2
  · cases e
theorem rng2_len {i j : Int} {xs : List Int} (e : rng2 i j = some xs) : xs.length ≤ sizeLine := by
  unfold rng2 at e
  split at e
  · rename_i h
    cases e
    simpa [rngL] using h.2.2.2.2
  · cases e
def colL {α β : Type} (f : α → Option (Option β)) (xs : List α) : Option (List β) := if xs.length ≤ sizeLine then colP f xs else none
def colS {α β s : Type} (f : α → s → Option (Option β × s)) (xs : List α) (x : s) : Option (List β × s) := if xs.length ≤ sizeLine then coll f xs x else none
def col2L {α γ β : Type} (g : α → Option (List γ)) (f : α → γ → Option (Option β)) (xs : List α) : Option (List β) := (col2 g f xs).bind fun ys => if ys.length ≤ sizeLine then some ys else none
theorem en_lcL {wi : TI} {g : TG} {tt : TT} {vs : List Nat} {xs : List α} {ys : List β} {f : α → Option (Option β)} (W : Wd B ms H0) (hq : Sb B q) (hi : Ej B ms wi σ H0 p xs q) (hc : colL f xs = some ys)
    (hb : ∀ (ms' : Ms) (H : Hp) (y : α) (v : V) (r : Option β), Lt B ms H0 ms' H → q ms' H → rp ms' H v y → f y = some r → ∃ σ2, Bnd g v (wipe σ vs) H σ2 ∧ wipe σ2 vs = wipe σ vs ∧ ∃ c, Et B ms' tt σ2 H q c q ∧ (c = false → r = none) ∧ (c = true → ∃ u, r = some u ∧ Ex B ms' te σ2 H q u q)) :
    En B ms (tLc wi g tt te vs) σ H0 p ys q := by
  unfold colL at hc
  split at hc
  · exact en_lc W hq (by assumption) hi hc hb
  · cases hc
theorem en_lcSL {s : Type} {wi : TI} {g : TG} {tt : TT} {vs : List Nat} {xs : List α} {ys : List β} {x0 x1 : s} {P : s → Hq} {f : α → s → Option (Option β × s)} (W : Wd B ms H0) (hP : ∀ x, Sb B (P x)) (hi : Ej B ms wi σ H0 p xs (P x0)) (hc : colS f xs x0 = some (ys, x1))
    (hb : ∀ (ms' : Ms) (H : Hp) (y : α) (v : V) (r : Option β) (x x' : s), Lt B ms H0 ms' H → P x ms' H → rp ms' H v y → f y x = some (r, x') → ∃ σ2, Bnd g v (wipe σ vs) H σ2 ∧ wipe σ2 vs = wipe σ vs ∧ ∃ c q', Et B ms' tt σ2 H (P x) c q' ∧ (c = false → r = none ∧ ∀ H, q' ms' H → P x' ms' H) ∧ (c = true → ∃ u, r = some u ∧ Ex B ms' te σ2 H q' u (P x'))) :
    En B ms (tLc wi g tt te vs) σ H0 p ys (P x1) := by
  unfold colS at hc
  split at hc
  · exact en_lcS W hP (by assumption) hi hc hb
  · cases hc
theorem en_lc2L {wi wi1 : TI} {g g1 : TG} {vs vs1 : List Nat} {xs : List α} {ys : List β} {gg : α → Option (List γ)} {f : α → γ → Option (Option β)} (W : Wd B ms H0) (hq : Sb B q) (hi : Ei B ms wi σ H0 p xs q) (hc : col2L gg f xs = some ys)
    (hb : ∀ (ms' : Ms) (H : Hp) (y : α) (v : V) (cs : List γ), Lt B ms H0 ms' H → q ms' H → rp ms' H v y → gg y = some cs → ∃ σ2, Bnd g v (wipe σ vs) H σ2 ∧ wipe σ2 vs = wipe σ vs ∧ Ei B ms' wi1 σ2 H q cs q ∧
      ∀ (ms' : Ms) (H : Hp) (c : γ) (u : V) (r : Option β), Lt B ms H0 ms' H → q ms' H → rp ms' H v y → rp ms' H u c → f y c = some r → ∃ σ3, Bnd g1 u (wipe σ2 vs1) H σ3 ∧ wipe σ3 vs1 = wipe σ2 vs1 ∧ ∃ z, r = some z ∧ Ex B ms' te σ3 H q z q) :
    En B ms (tLc2 wi g tYes wi1 g1 tYes te vs vs1) σ H0 p ys q := by
  obtain ⟨zs, h1, h2⟩ := bind_inv hc
  split at h2
  · cases h2
    exact en_lc2 W hq hi h1 (by assumption) hb
  · cases h2
/-- an answer that is no object -/
class RpS (α : Type) [Rp α] : Prop where
  ind : ∀ {ms ms' : Ms} {H H' : Hp} {v : V} {x : α}, rp ms H v x → rp ms' H' v x
instance : RpS Int := ⟨fun h => h⟩
instance : RpS Bool := ⟨fun h => h⟩
instance : RpS Str := ⟨fun h => h⟩
instance [RpS α] : RpS (Option α) := ⟨fun {ms ms' H H' v x} h => by
  cases x with
  | none => exact h
  | some y => exact RpS.ind (α := α) (x := y) h⟩
theorem not_dr {a : Addr} (n : a ∉ B) : ∀ c ∈ B, c ∉ [a] := fun c hc z => n (List.mem_singleton.mp z ▸ hc)
theorem drop_nin {a : Addr} {dr : Ms} (h : a ∈ dr) : a ∉ ms.filter fun c => decide (c ∉ dr) := fun z => by
  have := (List.mem_filter.mp z).2
  exact of_decide_eq_true this h
theorem ex_callT [RpS α] {ι : Type} [RpA ι] {F : ι → Option α} {ts : TA} {E : XK} {i : ι} (dr : Ms) (W : Wd B ms H0) (nd : ∀ c ∈ B, c ∉ dr) (hq : Sb B q)
    (h : ∀ H1, Lt B ms H0 (ms.filter fun c => decide (c ∉ dr)) H1 → Wd [] (ms.filter fun c => decide (c ∉ dr)) H1 → Ea [] (ms.filter fun c => decide (c ∉ dr)) ts σ H1 Tr i Tr) (e : F i = some x) : Ex B ms (tCall (spP F) [] E ts) σ H0 q x q := fun H b hp Q k => by
  have hsub : ∀ a ∈ ms.filter (fun c => decide (c ∉ dr)), a ∈ ms := fun a ha => (List.mem_filter.mp ha).1
  have W1 : Wd B (ms.filter fun c => decide (c ∉ dr)) H := ⟨fun a ha => List.mem_filter.mpr ⟨W.hB a ha, by simpa using nd a ha⟩, (W.al.bu b).less hsub⟩
  have W2 : Wd [] (ms.filter fun c => decide (c ∉ dr)) H := ⟨fun a z => by (cases z), W1.al⟩
  have L : Lt B ms H0 (ms.filter fun c => decide (c ∉ dr)) H := ⟨W1, (Mv.bu W.hB b).trans (Mv.less hsub), b.1⟩
  exact r_call (h H L W2 H (Bu.refl [] H) trivial _ fun vs H1 b1 q1 e1 =>
    ⟨_, i, x, W1.al.bu b1, e1, e, fun v H' s rv => k v H' ((Bu.same b1.to_same).trans (Bu.same s)) (hq.same (fun a o z => s a o (b1.to_same a o z)) hp) (RpS.ind rv)⟩)
theorem ex_isB {i j : Bool} (ha : Ex B ms ta σ H0 p i q) (hb : Ex B ms tb σ H0 q j r) : Ex B ms (tOp (fun x y H Q => ∃ a b, x = .bl a ∧ y = .bl b ∧ Q (.bl (decide (a = b))) H) ta tb) σ H0 p (decide (i = j)) r :=
  fun H b hp Q k => ha H b hp _ fun v H1 b1 q1 e1 => hb H1 (b.trans b1) q1 _ fun u H2 b2 q2 e2 => ⟨i, j, e1, e2, k _ H2 (b1.trans b2) q2 rfl⟩
theorem ex_isnB {i j : Bool} (ha : Ex B ms ta σ H0 p i q) (hb : Ex B ms tb σ H0 q j r) : Ex B ms (tOp (fun x y H Q => ∃ a b, x = .bl a ∧ y = .bl b ∧ Q (.bl (!decide (a = b))) H) ta tb) σ H0 p (!decide (i = j)) r :=
  fun H b hp Q k => ha H b hp _ fun v H1 b1 q1 e1 => hb H1 (b.trans b1) q1 _ fun u H2 b2 q2 e2 => ⟨i, j, e1, e2, k _ H2 (b1.trans b2) q2 rfl⟩
/-! None or a datum, compared -/
theorem shap_opt [DecidableEq α] [Enc α] (hd : Enc.dep α ≤ 64) (x : Option α) : SeqAt.shaped (encO x) = true := by
  cases x with
  | none => show SeqAt.shaped PyData.none = true; decide
  | some y => exact shapedE hd y
theorem eqv_opt [DecidableEq α] [Enc α] [EncN α] (x y : Option α) : PyData.eqv (encO x) (encO y) = decide (x = y) := by
  cases x <;> cases y <;> simp only [encO]
  · rfl
  · simp [eqv_non_none (EncN.nn _)]
  · simp [eqv_none_non (EncN.nn _)]
  · rw [Enc.eqv]; simp
theorem ex_eqO [DecidableEq α] [Enc α] [RpD α] [EncN α] {x y : Option α} (W : Wd B ms H0) (hd : Enc.dep α ≤ 64) (h1 : Ex B ms ta σ H0 p x q) (h2 : Ex B ms tb σ H0 q y r) : Ex B ms (tOp (rEqD K) ta tb) σ H0 p (decide (x = y)) r := fun H b hp Q k => h1 H b hp _ fun v H1 b1 q1 l1 => h2 H1 (b.trans b1) q1 _ fun u H2 b2 q2 l2 =>
  ⟨_, _, dp_optE (Rp.mv l1 (Mv.bu W.hB b2)), dp_optE l2, shap_opt hd x, shap_opt hd y, by rw [eqv_opt]; exact k _ H2 (b1.trans b2) q2 rfl⟩
theorem ex_neO [DecidableEq α] [Enc α] [RpD α] [EncN α] {x y : Option α} (W : Wd B ms H0) (hd : Enc.dep α ≤ 64) (h1 : Ex B ms ta σ H0 p x q) (h2 : Ex B ms tb σ H0 q y r) : Ex B ms (tOp (rNeD K) ta tb) σ H0 p (!decide (x = y)) r := fun H b hp Q k => h1 H b hp _ fun v H1 b1 q1 l1 => h2 H1 (b.trans b1) q1 _ fun u H2 b2 q2 l2 =>
  ⟨_, _, dp_optE (Rp.mv l1 (Mv.bu W.hB b2)), dp_optE l2, shap_opt hd x, shap_opt hd y, by rw [eqv_opt]; exact k _ H2 (b1.trans b2) q2 rfl⟩
/-! x += e -/
theorem s_aug {f : Int → Int → Int} {D : Ends} {i : Nat} {a c : Int} {H : Hp} (W : Wd B ms H) (hs : σ[i]? = some (some (.int a))) (h : Ex B ms te σ H p c q) (hp : p ms H) (k : ∀ H', Bu B H H' → q ms H' → Wd B ms H' → Mv ms H ms H' → D.nx (σ.set i (some (.int (f a c)))) H') : tAug i te (ipI f) D σ H :=
  ⟨_, hs, h.use hp fun v H1 b1 q1 e1 => ⟨a, c, rfl, e1, k H1 b1 q1 (W.bu b1) (W.mv b1)⟩⟩
theorem r_nextU {t : TS} {D : Ends} {H : Hp} (h : t D σ H) : t D σ H := h
theorem r_seqU {t u : TS} {D : Ends} {H : Hp} (h : t { D with nx := u D } σ H) : tSeq t u D σ H := h
theorem r_seqF' {wi : TI} {g : TG} {tb u : TS} {D : Ends} {H : Hp} (h : tFor wi g tb { D with nx := u D } σ H) : tSeq (tFor wi g tb) u D σ H := h
theorem r_forL {t : TS} {D : Ends} {H : Hp} (h : t D σ H) : t D σ H := h
theorem r_ret' {D : Ends} {H : Hp} (h : te σ H D.rt) : tRet te D σ H := h
/-! the draws -/
def drawF (bx : List Int × Nat) (m : Int) : Option (Int × (List Int × Nat)) := if 0 < m then some ((if bx.2 < bx.1.length then bx.1.getD bx.2 0 % m else 0), (bx.1, bx.2 + 1)) else none
abbrev law_drawM := drawF
theorem drawF_ok {bx : List Int × Nat} {m : Int} (h : 0 < m) : ∃ r n, drawF bx m = some (r, (bx.1, n)) ∧ 0 ≤ r ∧ r < m := by
  unfold drawF
  rw [if_pos h]
  refine ⟨_, _, rfl, ?_⟩
  split
  · exact ⟨Int.emod_nonneg _ (by omega), Int.emod_lt_of_pos _ h⟩
  · omega
end
end Pf

namespace Pf
open PySem L2
/-! facts of the models' words -/
theorem appF_ok {α : Type} {xs : List α} {x : α} (h : xs.length ≤ 1000000) : appF xs x = some (xs ++ [x]) := by
  unfold appF
  rw [if_pos (by rw [sizeLine_eq]; omega)]
theorem catF_ok {α : Type} {xs ys : List α} (h : xs.length + ys.length ≤ 1000000) : catF xs ys = some (xs ++ ys) := by
  unfold catF
  rw [if_pos (by rw [sizeLine_eq]; omega)]
theorem rng1_ok {j : Int} (h1 : j ≤ 1000000) (h0 : -1000000 ≤ j := by omega) : rng1 j = some (rngL 0 j.toNat) := by
  unfold rng1
  rw [if_pos ⟨by omega, by omega, by rw [sizeLine_eq]; omega⟩]
theorem rng2_ok {i j : Int} (h0 : -1000000 ≤ i) (h1 : i ≤ 1000000) (h2 : -1000000 ≤ j) (h3 : j ≤ 1000000) : rng2 i j = some (rngL i (j - i).toNat) := by
  unfold rng2
  rw [if_pos ⟨by omega, by omega, by omega, by omega, by rw [sizeLine_eq]; omega⟩]
theorem rngL_len (lo : Int) (n : Nat) : (rngL lo n).length = n := by simp [rngL]
theorem rngL_get {lo : Int} {n i : Nat} (h : i < n) : (rngL lo n)[i]? = some (lo + i) := by
  unfold rngL
  rw [List.getElem?_map, List.getElem?_range h]
  rfl
theorem rngL_mem {lo x : Int} {n : Nat} : x ∈ rngL lo n ↔ lo ≤ x ∧ x < lo + n := by
  unfold rngL
  rw [List.mem_map]
  constructor
  · rintro ⟨i, hi, rfl⟩
    have := List.mem_range.mp hi
    omega
  · rintro ⟨h1, h2⟩
    exact ⟨(x - lo).toNat, List.mem_range.mpr (by omega), by omega⟩
theorem rngL_succ (lo : Int) (n : Nat) : rngL lo (n + 1) = rngL lo n ++ [lo + n] := by
  unfold rngL
  rw [List.range_succ, List.map_append]
  rfl
theorem rngL_cons (lo : Int) (n : Nat) : rngL lo (n + 1) = lo :: rngL (lo + 1) n := by
  unfold rngL
  rw [List.range_succ_eq_map]
  rw [List.map_cons, List.map_map]
  congr 1
  · omega
  · refine List.map_congr_left fun i _ => ?_
    simp only [Function.comp]
    omega
theorem at_ok {α : Type} {xs : List α} {i : Nat} {x : α} (h : xs[i]? = some x) : atI xs (i : Int) = some x := atI_nat h
theorem at_mem {α : Type} {xs : List α} {i : Int} (h0 : 0 ≤ i) (h1 : i < (xs.length : Int)) : ∃ v, v ∈ xs ∧ atI xs i = some v := by
  have hi : i.toNat < xs.length := by omega
  refine ⟨xs[i.toNat], List.getElem_mem hi, ?_⟩
  have e := at_ok (List.getElem?_eq_getElem hi)
  rw [show ((i.toNat : Nat) : Int) = i by omega] at e
  exact e
theorem modF_pos {a m : Int} (h : 0 < m) : modF a m = some (a % m) := by unfold modF; rw [if_pos h]
theorem fold_ex {α s : Type} {f : α → s → Option s} {xs : List α} {x0 : s} (I : Nat → s → Prop) (h0 : I 0 x0) (step : ∀ i a x, xs[i]? = some a → I i x → ∃ x', f a x = some x' ∧ I (i + 1) x') : ∃ out, fold f xs x0 = some out ∧ I xs.length out := by
  have go : ∀ (n i : Nat) (x : s), n = xs.length - i → i ≤ xs.length → I i x → ∃ out, fold f (xs.drop i) x = some out ∧ I xs.length out := by
    intro n
    induction n with
    | zero =>
      intro i x hn hi h
      have e : i = xs.length := by omega
      subst e
      rw [List.drop_length]
      exact ⟨x, rfl, h⟩
    | succ n ih =>
      intro i x hn hi h
      have below : i < xs.length := by omega
      have ex := List.getElem?_eq_getElem below
      rw [drop_get ex]
      obtain ⟨x', h1, h2⟩ := step i _ x ex h
      obtain ⟨out, h3, h4⟩ := ih (i + 1) x' (by omega) (by omega) h2
      refine ⟨out, ?_, h4⟩
      show (f _ x).bind _ = _
      rw [h1]
      exact h3
  exact go _ 0 x0 rfl (Nat.zero_le _) h0
theorem loop_ex {α s ρ : Type} {f : α → s → Option (Fl ρ s)} {xs : List α} {x0 : s} (I : Nat → s → Prop) (R : ρ → Prop) (h0 : I 0 x0) (step : ∀ i a x, xs[i]? = some a → I i x → (∃ r, f a x = some (.ret r) ∧ R r) ∨ ∃ x', f a x = some (.go x') ∧ I (i + 1) x') : (∃ r, loop f xs x0 = some (.ret r) ∧ R r) ∨ ∃ out, loop f xs x0 = some (.go out) ∧ I xs.length out := by
  have go : ∀ (n i : Nat) (x : s), n = xs.length - i → i ≤ xs.length → I i x → (∃ r, loop f (xs.drop i) x = some (.ret r) ∧ R r) ∨ ∃ out, loop f (xs.drop i) x = some (.go out) ∧ I xs.length out := by
    intro n
    induction n with
    | zero =>
      intro i x hn hi h
      have e : i = xs.length := by omega
      subst e
      rw [List.drop_length]
      exact .inr ⟨x, rfl, h⟩
    | succ n ih =>
      intro i x hn hi h
      have below : i < xs.length := by omega
      have ex := List.getElem?_eq_getElem below
      rw [drop_get ex]
      rcases step i _ x ex h with ⟨r, h1, h2⟩ | ⟨x', h1, h2⟩
      · refine .inl ⟨r, ?_, h2⟩
        show (f _ x).bind _ = _
        rw [h1]
        rfl
      · have e : loop f (xs[i] :: xs.drop (i + 1)) x = loop f (xs.drop (i + 1)) x' := by
          show (f _ x).bind _ = _
          rw [h1]
          rfl
        rw [e]
        exact ih (i + 1) x' (by omega) (by omega) h2
  exact go _ 0 x0 rfl (Nat.zero_le _) h0
/-- a loop whose turns never go out -/
theorem loop_go {α s ρ : Type} {f : α → s → Option (Fl ρ s)} {xs : List α} {x0 : s} (I : Nat → s → Prop) (h0 : I 0 x0) (step : ∀ i a x, xs[i]? = some a → I i x → ∃ x', f a x = some (.go x') ∧ I (i + 1) x') : ∃ out, loop f xs x0 = some (.go out) ∧ I xs.length out := by
  rcases loop_ex I (fun _ => False) h0 (fun i a x e h => .inr (step i a x e h)) with ⟨r, _, h⟩ | h
  · cases h
  · exact h
theorem colP_map {α β : Type} {f : α → Option (Option β)} {g : α → β} : ∀ {xs : List α}, (∀ x ∈ xs, f x = some (some (g x))) → colP f xs = some (xs.map g)
  | [], _ => rfl
  | x :: xs, h => by
    show (f x).bind _ = _
    rw [h x List.mem_cons_self]
    show (colP f xs).bind _ = _
    rw [colP_map fun y hy => h y (List.mem_cons_of_mem _ hy)]
    rfl
theorem colP_filter {α β : Type} {f : α → Option (Option β)} {g : α → Option β} : ∀ {xs : List α}, (∀ x ∈ xs, f x = some (g x)) → colP f xs = some (xs.filterMap g)
  | [], _ => rfl
  | x :: xs, h => by
    show (f x).bind _ = _
    rw [h x List.mem_cons_self]
    show (colP f xs).bind _ = _
    rw [colP_filter fun y hy => h y (List.mem_cons_of_mem _ hy), List.filterMap_cons]
    cases g x <;> rfl
theorem colL_map {α β : Type} {f : α → Option (Option β)} {g : α → β} {xs : List α} (hl : xs.length ≤ 1000000) (h : ∀ x ∈ xs, f x = some (some (g x))) : colL f xs = some (xs.map g) := by
  unfold colL
  rw [if_pos (by rw [sizeLine_eq]; omega), colP_map h]
theorem colL_filter {α β : Type} {f : α → Option (Option β)} {g : α → Option β} {xs : List α} (hl : xs.length ≤ 1000000) (h : ∀ x ∈ xs, f x = some (g x)) : colL f xs = some (xs.filterMap g) := by
  unfold colL
  rw [if_pos (by rw [sizeLine_eq]; omega), colP_filter h]
theorem colL_id {α : Type} {xs : List α} (hl : xs.length ≤ 1000000) : colL (fun x : α => some (some x)) xs = some xs := by
  have := colL_map (f := fun x : α => some (some x)) (g := id) hl (fun x _ => rfl)
  rw [List.map_id] at this
  exact this
theorem col2_flat {α γ β : Type} {g : α → Option (List γ)} {f : α → γ → Option (Option β)} {G : α → List γ} {F : α → γ → β} : ∀ {xs : List α}, (∀ x ∈ xs, g x = some (G x)) → (∀ x ∈ xs, ∀ c ∈ G x, f x c = some (some (F x c))) → col2 g f xs = some (xs.flatMap fun x => (G x).map (F x))
  | [], _, _ => rfl
  | x :: xs, h1, h2 => by
    show (g x).bind _ = _
    rw [h1 x List.mem_cons_self]
    show (colP (f x) (G x)).bind _ = _
    rw [colP_map fun c hc => h2 x List.mem_cons_self c hc]
    show (col2 g f xs).bind _ = _
    rw [col2_flat (fun y hy => h1 y (List.mem_cons_of_mem _ hy)) fun y hy => h2 y (List.mem_cons_of_mem _ hy), List.flatMap_cons]
    rfl
theorem col2L_flat {α γ β : Type} {g : α → Option (List γ)} {f : α → γ → Option (Option β)} {G : α → List γ} {F : α → γ → β} {xs : List α} (hl : (xs.flatMap fun x => (G x).map (F x)).length ≤ 1000000) (h1 : ∀ x ∈ xs, g x = some (G x)) (h2 : ∀ x ∈ xs, ∀ c ∈ G x, f x c = some (some (F x c))) : col2L g f xs = some (xs.flatMap fun x => (G x).map (F x)) := by
  unfold col2L
  rw [col2_flat h1 h2]
  show (if _ then _ else _) = _
  rw [if_pos (by rw [sizeLine_eq]; omega)]
theorem setF_ok {α : Type} {xs : List α} {i : Nat} {x : α} (h : i < xs.length) : setF xs (i : Int) x = some (xs.set i x) := by
  unfold setF ixN
  rw [if_pos (by omega)]
  rw [if_pos (by omega)]
  rfl
theorem at_last {α : Type} (xs : List α) (x : α) : atI (xs ++ [x]) (-1) = some x := by
  unfold atI
  rw [List.length_append, List.length_singleton, ixN_last]
  show (xs ++ [x])[xs.length]? = some x
  rw [List.getElem?_append_right (Nat.le_refl _), Nat.sub_self]
  rfl
theorem setF_last {α : Type} (xs : List α) (x y : α) : setF (xs ++ [x]) (-1) y = some (xs ++ [y]) := by
  unfold setF
  rw [List.length_append, List.length_singleton, ixN_last]
  show some ((xs ++ [x]).set xs.length y) = _
  rw [List.set_append_right _ _ (Nat.le_refl _), Nat.sub_self]
  rfl
theorem fold_foldl {α s : Type} {f : α → s → Option s} {g : s → α → s} (N : s → Nat) (m : Nat) (h : ∀ a x, N x < m → f a x = some (g x a) ∧ N (g x a) ≤ N x + 1) : ∀ (ys : List α) (x : s), N x + ys.length ≤ m → fold f ys x = some (ys.foldl g x)
  | [], x, _ => rfl
  | y :: ys, x, l => by
    rw [List.length_cons] at l
    obtain ⟨h1, h2⟩ := h y x (by omega)
    show (f y x).bind _ = _
    rw [h1, Option.bind_some, fold_foldl N m h ys _ (by omega)]
    rfl
theorem rngL_nodup (lo : Int) (n : Nat) : (rngL lo n).Nodup := by
  unfold rngL
  rw [List.Nodup, List.pairwise_map]
  exact List.nodup_range.imp fun h e => h (by omega)
theorem pop_perm {α : Type} {xs : List α} {i : Int} (h0 : 0 ≤ i) (h1 : i < (xs.length : Int)) (hl : xs.length ≤ 1000) : ∃ x ys, popF xs i = some (x, ys) ∧ xs.Perm (x :: ys) := by
  have hi : i.toNat < xs.length := by omega
  refine ⟨xs[i.toNat], xs.eraseIdx i.toNat, ?_, ?_⟩
  · unfold popF
    rw [if_pos (by omega)]
    unfold ixN
    rw [if_pos h0, if_pos h1, Option.bind_some, List.getElem?_eq_getElem hi]
    rfl
  · have e := drop_get (List.getElem?_eq_getElem hi)
    have e2 : xs = xs.take i.toNat ++ xs[i.toNat] :: xs.drop (i.toNat + 1) := by rw [← e, List.take_append_drop]
    rw [List.eraseIdx_eq_take_drop_succ]
    refine (List.Perm.of_eq e2).trans ?_
    exact List.perm_middle
theorem rem_perm {xs : List Int} {x : Int} (h : x ∈ xs) : ∃ ys, remF xs x = some ys ∧ xs.Perm (x :: ys) := ⟨_, if_pos h, List.perm_cons_erase h⟩
theorem filterMap_all {α β : Type} {f : α → Option β} {g : α → β} : ∀ {xs : List α}, (∀ x ∈ xs, f x = some (g x)) → xs.filterMap f = xs.map g
  | [], _ => rfl
  | x :: xs, h => by
    rw [List.filterMap_cons, h x List.mem_cons_self, List.map_cons, filterMap_all fun y hy => h y (List.mem_cons_of_mem _ hy)]
theorem cut_to {α : Type} (xs : List α) {i : Nat} (h : i ≤ xs.length) : cutF xs none (some (i : Int)) = xs.take i := by
  unfold cutF
  rw [HT.sIx_none, HT.sIx_nat, Nat.min_eq_left h, List.drop_zero, Nat.sub_zero]
theorem cut_from {α : Type} (xs : List α) {i : Nat} (h : i ≤ xs.length) : cutF xs (some (i : Int)) none = xs.drop i := by
  unfold cutF
  rw [HT.sIx_none, HT.sIx_nat, Nat.min_eq_left h]
  exact List.take_of_length_le (by rw [List.length_drop]; omega)
theorem colL_keep {α : Type} {f : α → Option (Option α)} {p : α → Bool} {xs : List α} (hl : xs.length ≤ 1000000) (h : ∀ x ∈ xs, f x = some (if p x = true then some x else none)) : colL f xs = some (xs.filter p) := by
  rw [colL_filter hl h]
  congr 1
  clear h hl
  induction xs with
  | nil => rfl
  | cons x xs ih =>
    rw [List.filterMap_cons, List.filter_cons]
    by_cases c : p x = true
    · rw [if_pos c, if_pos c, ih]
    · rw [if_neg c, if_neg c, ih]
theorem whl_ex {s ρ : Type} {c : s → Option Bool} {f : s → Option (Fl ρ s)} (N : s → Nat) (I : s → Prop) (R : ρ → Prop) (h : ∀ x, I x → ∃ b, c x = some b ∧ (b = true → (∃ r, f x = some (.ret r) ∧ R r) ∨ ∃ x', f x = some (.go x') ∧ I x' ∧ N x' < N x)) : ∀ (m : Nat) (x : s), I x → N x < m → (∃ r, whl c f m x = some (.ret r) ∧ R r) ∨ ∃ out, whl c f m x = some (.go out) ∧ I out ∧ c out = some false
  | 0, x, _, hm => absurd hm (Nat.not_lt_zero _)
  | m + 1, x, hI, hm => by
    obtain ⟨b, hb, hk⟩ := h x hI
    show (∃ r, (c x).bind _ = _ ∧ _) ∨ ∃ out, (c x).bind _ = _ ∧ _
    rw [hb, Option.bind_some]
    cases b with
    | false =>
      rw [if_neg (by decide)]
      exact .inr ⟨x, rfl, hI, hb⟩
    | true =>
      rw [if_pos rfl]
      rcases hk rfl with ⟨r, h1, h2⟩ | ⟨x', h1, h2, h3⟩
      · rw [h1]
        exact .inl ⟨r, rfl, h2⟩
      · rw [h1]
        exact whl_ex N I R h m x' h2 (by omega)
/-! a model's answer, step by step -/
theorem bind_of {α β : Type} {x : Option α} {k : α → Option β} {a : α} {r : Option β} (e : x = some a) (h : k a = r) : x.bind k = r := by rw [e]; exact h
theorem bnd_of {α β : Type} {x : α} {k : α → Option β} {r : Option β} (h : k x = r) : bnd x k = r := h
theorem if_of {α : Type} {c : Prop} {_ : Decidable c} {a b r : α} (hc : c) (h : a = r) : (if c then a else b) = r := by rw [if_pos hc]; exact h
theorem else_of {α : Type} {c : Prop} {_ : Decidable c} {a b r : α} (hc : ¬ c) (h : b = r) : (if c then a else b) = r := by rw [if_neg hc]; exact h
theorem bind_ex {α β : Type} {x : Option α} {k : α → Option β} {P : α → Prop} {r : Option β} (e : ∃ a, x = some a ∧ P a) (h : ∀ a, P a → k a = r) : x.bind k = r := by
  obtain ⟨a, e, p⟩ := e
  rw [e]
  exact h a p
theorem bind_exL {ρ s β : Type} {x : Option (Fl ρ s)} {k : Fl ρ s → Option β} {P : s → Prop} {r : Option β} (e : ∃ a, x = some (.go a) ∧ P a) (h : ∀ a, P a → k (.go a) = r) : x.bind k = r := by
  obtain ⟨a, e, p⟩ := e
  rw [e]
  exact h a p
theorem exb {α β γ : Type} {x : Option α} {k : α → Option β} {a : α} {G : γ → Option β} {P : γ → Prop} (e : x = some a) (h : ∃ y, k a = G y ∧ P y) : ∃ y, x.bind k = G y ∧ P y := by rw [e]; exact h
theorem exb_bnd {α β γ : Type} {x : α} {k : α → Option β} {G : γ → Option β} {P : γ → Prop} (h : ∃ y, k x = G y ∧ P y) : ∃ y, bnd x k = G y ∧ P y := h
theorem exb_if {β γ : Type} {c : Prop} {_ : Decidable c} {u v : Option β} {G : γ → Option β} {P : γ → Prop} (hc : c) (h : ∃ y, u = G y ∧ P y) : ∃ y, (if c then u else v) = G y ∧ P y := by rw [if_pos hc]; exact h
theorem exb_else {β γ : Type} {c : Prop} {_ : Decidable c} {u v : Option β} {G : γ → Option β} {P : γ → Prop} (hc : ¬ c) (h : ∃ y, v = G y ∧ P y) : ∃ y, (if c then u else v) = G y ∧ P y := by rw [if_neg hc]; exact h
theorem exb_ex {α β γ : Type} {x : Option α} {k : α → Option β} {Q : α → Prop} {G : γ → Option β} {P : γ → Prop} (e : ∃ a, x = some a ∧ Q a) (h : ∀ a, Q a → ∃ y, k a = G y ∧ P y) : ∃ y, x.bind k = G y ∧ P y := by
  obtain ⟨a, e, q⟩ := e
  rw [e]
  exact h a q
theorem exb_exL {ρ s β γ : Type} {x : Option (Fl ρ s)} {k : Fl ρ s → Option β} {Q : s → Prop} {G : γ → Option β} {P : γ → Prop} (e : ∃ a, x = some (.go a) ∧ Q a) (h : ∀ a, Q a → ∃ y, k (.go a) = G y ∧ P y) : ∃ y, x.bind k = G y ∧ P y := by
  obtain ⟨a, e, q⟩ := e
  rw [e]
  exact h a q
theorem loop_ret {α s ρ : Type} {f : α → s → Option (Fl ρ s)} {a : α} {as : List α} {x : s} {r : ρ} (h : f a x = some (.ret r)) : loop f (a :: as) x = some (.ret r) := by unfold loop; rw [h]; rfl
theorem loop_next {α s ρ : Type} {f : α → s → Option (Fl ρ s)} {a : α} {as : List α} {x y : s} {R : Option (Fl ρ s)} (h : f a x = some (.go y)) (k : loop f as y = R) : loop f (a :: as) x = R := by unfold loop; rw [h]; exact k
/-! layouts -/
def lenS (bs : List (Int × Int)) : Int := (bs.map (·.2)).sum
theorem VL.live {size : Int} : ∀ {bs : List (Int × Int)} {e : Int}, VL size e bs → e + lenS bs ≤ size ∧ 0 ≤ lenS bs
  | [], e, h => by have h' : e ≤ size := h; simp [lenS]; omega
  | (s, l) :: r, e, h => by
    have ih := VL.live h.2.2
    have h1 := h.1
    have h2 := h.2.1
    unfold lenS at *
    simp only [List.sum_cons, List.map_cons]
    omega
theorem VL.le {size : Int} {bs : List (Int × Int)} {e e' : Int} (h : VL size e bs) (l : e' ≤ e) : VL size e' bs := by
  cases bs with
  | nil => have h' : e ≤ size := h; show e' ≤ size; omega
  | cons b r =>
    obtain ⟨s, l2⟩ := b
    exact ⟨by have := h.1; omega, h.2⟩
end Pf

namespace Pf
open PySem L2
theorem List.reverseRecOn' {α : Type} {P : List α → Prop} (xs : List α) (nil : P []) (snoc : ∀ ys y, P ys → P (ys ++ [y])) : P xs := by
  have go : ∀ n (xs : List α), xs.length = n → P xs := by
    intro n
    induction n with
    | zero => intro xs h; rw [List.length_eq_zero_iff.mp h]; exact nil
    | succ n ih =>
      intro xs h
      cases e : xs.getLast? with
      | none => rw [List.getLast?_eq_none_iff.mp e] at h; cases h
      | some y =>
        obtain ⟨ys, rfl⟩ := List.getLast?_eq_some_iff.mp e
        refine snoc ys y (ih ys ?_)
        rw [List.length_append] at h
        simpa using h
  exact go _ xs rfl
/-! ### blocks, told by their indices -/
def Sep (x y : Int × Int) : Prop := x.1 + x.2 ≤ y.1 ∨ y.1 + y.2 ≤ x.1
def Dis (bs : List (Int × Int)) : Prop := ∀ (i j : Nat) (x y : Int × Int), i ≠ j → bs[i]? = some x → bs[j]? = some y → Sep x y
def Ins (size : Int) (bs : List (Int × Int)) : Prop := ∀ (i : Nat) (x : Int × Int), bs[i]? = some x → 0 ≤ x.1 ∧ 1 ≤ x.2 ∧ x.1 + x.2 ≤ size
theorem Sep.symm {x y : Int × Int} (h : Sep x y) : Sep y x := h.elim .inr .inl
theorem VL.dis {size e : Int} {bs : List (Int × Int)} (h : VL size e bs) : Dis bs := by
  intro i j x y ne hx hy
  have pw := List.pairwise_iff_getElem.mp h.pw
  obtain ⟨hi, ei⟩ := List.getElem?_eq_some_iff.mp hx
  obtain ⟨hj, ej⟩ := List.getElem?_eq_some_iff.mp hy
  rcases Nat.lt_or_gt_of_ne ne with c | c
  · have := pw i j hi hj c
    rw [ei, ej] at this
    exact .inl this
  · have := pw j i hj hi c
    rw [ei, ej] at this
    exact .inr this
theorem VL.ins {size : Int} {bs : List (Int × Int)} (h : VL size 0 bs) : Ins size bs := fun i x hx => h.mem x (List.mem_of_getElem? hx)
/-- the blocks at their new starts -/
def plF (bs : List (Int × Int)) (st : List Int) : List (Int × Int) := (bs.zip st).map fun p => (p.2, p.1.2)
theorem plF_get {bs : List (Int × Int)} {st : List Int} {i : Nat} {x : Int × Int} {s : Int} (h1 : bs[i]? = some x) (h2 : st[i]? = some s) : (plF bs st)[i]? = some (s, x.2) := by
  unfold plF
  rw [List.getElem?_map, (List.getElem?_zip_eq_some (z := (x, s))).mpr ⟨h1, h2⟩]
  rfl
theorem plF_inv {bs : List (Int × Int)} {st : List Int} {i : Nat} {y : Int × Int} (h : (plF bs st)[i]? = some y) : ∃ x s, bs[i]? = some x ∧ st[i]? = some s ∧ y = (s, x.2) := by
  unfold plF at h
  rw [List.getElem?_map] at h
  obtain ⟨⟨x, s⟩, hz, e⟩ := Option.map_eq_some_iff.mp h
  obtain ⟨h1, h2⟩ := List.getElem?_zip_eq_some.mp hz
  exact ⟨x, s, h1, h2, e.symm⟩
theorem plF_len {bs : List (Int × Int)} {st : List Int} (h : st.length = bs.length) : (plF bs st).length = bs.length := by
  unfold plF
  rw [List.length_map, List.length_zip, h, Nat.min_self]
theorem plF_same (bs : List (Int × Int)) : plF bs (bs.map (·.1)) = bs := by
  refine List.ext_getElem? fun i => ?_
  cases h : bs[i]? with
  | none =>
    have := List.getElem?_eq_none_iff.mp h
    exact List.getElem?_eq_none_iff.mpr (by rw [plF_len (by rw [List.length_map])]; exact this)
  | some x => exact plF_get h (by rw [List.getElem?_map, h]; rfl)
theorem get_of_lt {α : Type} {xs : List α} {i : Nat} (h : i < xs.length) : ∃ x, xs[i]? = some x := ⟨_, List.getElem?_eq_getElem h⟩
theorem lt_of_get {α : Type} {xs : List α} {i : Nat} {x : α} (h : xs[i]? = some x) : i < xs.length := (List.getElem?_eq_some_iff.mp h).1
theorem set_get_ne {α : Type} {xs : List α} {i j : Nat} {x : α} (h : i ≠ j) : (xs.set i x)[j]? = xs[j]? := List.getElem?_set_ne h
theorem set_get {α : Type} {xs : List α} {i : Nat} {x : α} (h : i < xs.length) : (xs.set i x)[i]? = some x := List.getElem?_set_self h
theorem nodup_le {α : Type} [DecidableEq α] : ∀ {xs ys : List α}, xs.Nodup → (∀ x ∈ xs, x ∈ ys) → xs.length ≤ ys.length
  | [], _, _, _ => Nat.zero_le _
  | x :: xs, ys, h, s => by
    have h' := List.nodup_cons.mp h
    have hx := s x List.mem_cons_self
    have := nodup_le (ys := ys.erase x) h'.2 fun y hy => (List.mem_erase_of_ne (fun e => h'.1 (by rw [← e]; exact hy))).mpr (s y (List.mem_cons_of_mem _ hy))
    rw [List.length_erase_of_mem hx] at this
    have := List.length_pos_of_mem hx
    rw [List.length_cons]
    omega
theorem perm_sum {xs ys : List Int} (h : xs.Perm ys) : xs.sum = ys.sum := by
  induction h with
  | nil => rfl
  | cons x _ ih => rw [List.sum_cons, List.sum_cons, ih]
  | swap x y l => simp only [List.sum_cons]; omega
  | trans _ _ a b => exact a.trans b
theorem nodup_get {α : Type} {xs : List α} (h : xs.Nodup) {i j : Nat} {x : α} (hi : xs[i]? = some x) (hj : xs[j]? = some x) : i = j := by
  have pw := List.pairwise_iff_getElem.mp h
  obtain ⟨li, ei⟩ := List.getElem?_eq_some_iff.mp hi
  obtain ⟨lj, ej⟩ := List.getElem?_eq_some_iff.mp hj
  obtain c | c | c := Nat.lt_trichotomy i j
  · exact absurd (ei.trans ej.symm) (pw i j li lj c)
  · exact c
  · exact absurd (ej.trans ei.symm) (pw j i lj li c)
/-! ### single moves -/
def meetB (x y : Int × Int) : Bool := decide (max x.1 y.1 < min (x.1 + x.2) (y.1 + y.2))
theorem meetB_sep {x y : Int × Int} (hx : 1 ≤ x.2) (hy : 1 ≤ y.2) : meetB x y = false ↔ Sep x y := by
  unfold meetB Sep
  rw [decide_eq_false_iff_not]
  omega
def othF (bs : List (Int × Int)) (i : Nat) : List (Int × Int) := bs.take i ++ bs.drop (i + 1)
def canB (bs : List (Int × Int)) (i : Nat) (g : Int × Int) : Bool := !((othF bs i).map (meetB g)).any id
def CanP (bs : List (Int × Int)) (i : Nat) (g : Int × Int) : Prop := ∀ (j : Nat) (y : Int × Int), j ≠ i → bs[j]? = some y → Sep g y
theorem oth_mem {bs : List (Int × Int)} {i : Nat} {y : Int × Int} (hi : i ≤ bs.length) : y ∈ othF bs i ↔ ∃ j : Nat, j ≠ i ∧ bs[j]? = some y := by
  unfold othF
  rw [List.mem_append]
  constructor
  · rintro (h | h)
    · obtain ⟨j, hj⟩ := List.mem_iff_getElem?.mp h
      have := lt_of_get hj
      rw [List.length_take] at this
      rw [List.getElem?_take_of_lt (by omega)] at hj
      exact ⟨j, by omega, hj⟩
    · obtain ⟨j, hj⟩ := List.mem_iff_getElem?.mp h
      rw [List.getElem?_drop] at hj
      exact ⟨_, by omega, hj⟩
  · rintro ⟨j, ne, hj⟩
    rcases Nat.lt_or_gt_of_ne ne with c | c
    · exact .inl (List.mem_iff_getElem?.mpr ⟨j, by rw [List.getElem?_take_of_lt c]; exact hj⟩)
    · exact .inr (List.mem_iff_getElem?.mpr ⟨j - (i + 1), by rw [List.getElem?_drop, show i + 1 + (j - (i + 1)) = j by omega]; exact hj⟩)
theorem canB_iff {bs : List (Int × Int)} {i : Nat} {g : Int × Int} {size : Int} (hi : i ≤ bs.length) (hg : 1 ≤ g.2) (hb : Ins size bs) : canB bs i g = true ↔ CanP bs i g := by
  unfold canB
  rw [Bool.not_eq_true', List.any_map, List.any_eq_false]
  constructor
  · intro h j y ne hj
    have := h y ((oth_mem hi).mpr ⟨j, ne, hj⟩)
    have h2 : meetB g y = false := by simpa using this
    exact (meetB_sep hg (hb j y hj).2.1).mp h2
  · intro h y hy
    obtain ⟨j, ne, hj⟩ := (oth_mem hi).mp hy
    have := (meetB_sep hg (hb j y hj).2.1).mpr (h j y ne hj)
    simpa using this
/-- where the blocks lie behind some moves -/
def gAt (gs : List (Int × Int)) (k : Int) : Int × Int := gs.getD k.toNat (0, 0)
def stF (gs : List (Int × Int)) (bs : List (Int × Int)) (os : List Int) : List (Int × Int) := os.foldl (fun now k => now.set k.toNat (gAt gs k)) bs
theorem gAt_of {gs : List (Int × Int)} {i : Nat} {g : Int × Int} (h : gs[i]? = some g) : gAt gs (i : Int) = g := by
  unfold gAt
  rw [Int.toNat_natCast, List.getD_eq_getElem?_getD, h]
  rfl
theorem stF_snoc (gs bs : List (Int × Int)) (os : List Int) (k : Int) : stF gs bs (os ++ [k]) = (stF gs bs os).set k.toNat (gAt gs k) := by
  unfold stF
  rw [List.foldl_append]
  rfl
theorem stF_len (gs bs : List (Int × Int)) : ∀ os : List Int, (stF gs bs os).length = bs.length := by
  intro os
  induction os using List.reverseRecOn' with
  | nil => rfl
  | snoc os k ih => rw [stF_snoc, List.length_set, ih]
theorem stF_get {gs bs : List (Int × Int)} (hl : gs.length = bs.length) : ∀ (os : List Int), (∀ k ∈ os, 0 ≤ k ∧ k < (bs.length : Int)) → ∀ i : Nat, (stF gs bs os)[i]? = if (i : Int) ∈ os then gs[i]? else bs[i]? := by
  intro os
  induction os using List.reverseRecOn' with
  | nil => intro _ i; simp [stF]
  | snoc os k ih =>
    intro h i
    have ih := ih (fun k hk => h k (List.mem_append_left _ hk)) i
    have hk := h k (by simp)
    rw [stF_snoc]
    by_cases c : k.toNat = i
    · have e : k = (i : Int) := by omega
      subst e
      obtain ⟨g, hg⟩ := get_of_lt (xs := gs) (i := i) (by omega)
      rw [Int.toNat_natCast, set_get (by rw [stF_len]; omega), if_pos (by simp), gAt_of hg, hg]
    · rw [set_get_ne c, ih]
      have : ((i : Int) ∈ os ++ [k]) ↔ ((i : Int) ∈ os) := by
        rw [List.mem_append, List.mem_singleton]
        exact ⟨fun z => z.elim id fun z => absurd (by omega) c, .inl⟩
      by_cases c2 : (i : Int) ∈ os
      · rw [if_pos c2, if_pos (this.mpr c2)]
      · rw [if_neg c2, if_neg (fun z => c2 (this.mp z))]
/-- each of the moves is possible when it is made -/
def SafeO (gs bs : List (Int × Int)) (os : List Int) : Prop := ∀ (i : Nat) (k : Int), os[i]? = some k → CanP (stF gs bs (os.take i)) k.toNat (gAt gs k)
/-- and no move of a lesser index is possible then -/
def LeastO (gs bs : List (Int × Int)) (W os : List Int) : Prop := ∀ (i : Nat) (k : Int), os[i]? = some k → ∀ k' ∈ W, k' < k → k' ∉ os.take i → ¬ CanP (stF gs bs (os.take i)) k'.toNat (gAt gs k')
/-- the moved blocks -/
def mvF (bs : List (Int × Int)) (st : List Int) : List Int := (rngL 0 bs.length).filter fun k => !decide (st.getD k.toNat 0 = (bs.getD k.toNat (0, 0)).1)
theorem mv_lt {bs : List (Int × Int)} {st : List Int} {k : Int} (h : k ∈ mvF bs st) : ∃ i : Nat, k = i ∧ i < bs.length := by
  have := rngL_mem.mp (List.mem_filter.mp h).1
  exact ⟨k.toNat, by omega, by omega⟩
theorem mv_nodup (bs : List (Int × Int)) (st : List Int) : (mvF bs st).Nodup := (rngL_nodup 0 bs.length).filter _
theorem rngL_asc (lo : Int) (n : Nat) : (rngL lo n).Pairwise (· < ·) := by
  unfold rngL
  rw [List.pairwise_map]
  exact List.pairwise_lt_range.imp fun h => by omega
theorem mv_asc (bs : List (Int × Int)) (st : List Int) : (mvF bs st).Pairwise (· < ·) := (rngL_asc 0 bs.length).filter _
theorem mv_not {bs : List (Int × Int)} {st : List Int} (hl : st.length = bs.length) {i : Nat} (h : (i : Int) ∉ mvF bs st) : (plF bs st)[i]? = bs[i]? := by
  by_cases c : i < bs.length
  · obtain ⟨b, hb⟩ := get_of_lt c
    obtain ⟨s, hs⟩ := get_of_lt (xs := st) (i := i) (by omega)
    have : ¬ ((!decide (st.getD (i : Int).toNat 0 = (bs.getD (i : Int).toNat (0, 0)).1)) = true) := fun z => h (List.mem_filter.mpr ⟨rngL_mem.mpr (by omega), z⟩)
    rw [Int.toNat_natCast, List.getD_eq_getElem?_getD, List.getD_eq_getElem?_getD, hb, hs] at this
    have e : s = b.1 := by simpa using this
    rw [plF_get hb hs, hb, e]
  · rw [List.getElem?_eq_none_iff.mpr (by rw [plF_len hl]; omega), List.getElem?_eq_none_iff.mpr (by omega)]
end Pf

namespace Pf
open PySem L2
/-! ### maps: pieces and the pairs that they stand for -/
abbrev Pc := T3 Int Int Int
def rowF (p : Pc) : List (Int × Int) := (rngL 0 p.c.toNat).map fun k => (p.a + k, p.b + k)
def expF (ps : List Pc) : List (Int × Int) := ps.flatMap rowF
def imgF (ps : List (Int × Int)) (x : Int) : Option Int := (ps.find? fun p => decide (p.1 = x)).map (·.2)
/-- one pair more behind the pieces -/
def joinF (ps : List Pc) (y : Int × Int) : List Pc := match ps.getLast? with
  | some q => if q.a + q.c = y.1 ∧ q.b + q.c = y.2 then ps.dropLast ++ [⟨q.a, q.b, q.c + 1⟩] else ps ++ [⟨y.1, y.2, 1⟩]
  | none => ps ++ [⟨y.1, y.2, 1⟩]
def canF (ps : List (Int × Int)) : List Pc := (sortP ps).foldl joinF []
def PosP (ps : List Pc) : Prop := ∀ p ∈ ps, 1 ≤ p.c
theorem snoc_cases {α : Type} (xs : List α) : xs = [] ∨ ∃ ys y, xs = ys ++ [y] := by
  cases h : xs.getLast? with
  | none => exact .inl (List.getLast?_eq_none_iff.mp h)
  | some y => obtain ⟨ys, e⟩ := List.getLast?_eq_some_iff.mp h; exact .inr ⟨ys, y, e⟩
theorem joinF_snoc (ps : List Pc) (q : Pc) (y : Int × Int) : joinF (ps ++ [q]) y = if q.a + q.c = y.1 ∧ q.b + q.c = y.2 then ps ++ [⟨q.a, q.b, q.c + 1⟩] else ps ++ [q] ++ [⟨y.1, y.2, 1⟩] := by
  unfold joinF
  rw [List.getLast?_concat, List.dropLast_concat]
theorem expF_app (ps qs : List Pc) : expF (ps ++ qs) = expF ps ++ expF qs := List.flatMap_append
theorem expF_one (q : Pc) : expF [q] = rowF q := by unfold expF; rw [List.flatMap_cons, List.flatMap_nil, List.append_nil]
theorem rowF_one (x y : Int) : rowF ⟨x, y, 1⟩ = [(x, y)] := by
  show (rngL 0 1).map _ = _
  simp [rngL]
theorem rowF_succ {q : Pc} (h : 0 ≤ q.c) : rowF ⟨q.a, q.b, q.c + 1⟩ = rowF q ++ [(q.a + q.c, q.b + q.c)] := by
  unfold rowF
  dsimp only
  rw [show (q.c + 1).toNat = q.c.toNat + 1 by omega, rngL_succ, List.map_append]
  congr 1
  simp only [List.map_cons, List.map_nil]
  rw [show (0 : Int) + (q.c.toNat : Int) = q.c by omega]
theorem joinF_exp {ps : List Pc} {y : Int × Int} (h : PosP ps) : expF (joinF ps y) = expF ps ++ [y] ∧ PosP (joinF ps y) := by
  rcases snoc_cases ps with rfl | ⟨qs, q, rfl⟩
  · refine ⟨?_, ?_⟩
    · show expF [⟨y.1, y.2, 1⟩] = _
      rw [expF_one, rowF_one]; rfl
    · intro p hp
      have hp' : p ∈ [(⟨y.1, y.2, 1⟩ : Pc)] := hp
      rw [List.mem_singleton.mp hp']
      exact Int.le_refl 1
  · have hq := h q (by simp)
    rw [joinF_snoc]
    split
    · rename_i c
      refine ⟨?_, ?_⟩
      · rw [expF_app, expF_app, expF_one, expF_one, rowF_succ (by omega), c.1, c.2, List.append_assoc]
      · intro p hp
        obtain hp | hp := List.mem_append.mp hp
        · exact h p (by simp [hp])
        · rw [List.mem_singleton.mp hp]; dsimp only; omega
    · refine ⟨?_, ?_⟩
      · rw [expF_app, expF_one, rowF_one]
      · intro p hp
        obtain hp | hp := List.mem_append.mp hp
        · exact h p hp
        · rw [List.mem_singleton.mp hp]; exact Int.le_refl 1
theorem foldJ_exp : ∀ (ys : List (Int × Int)) {ps : List Pc}, PosP ps → expF (ys.foldl joinF ps) = expF ps ++ ys ∧ PosP (ys.foldl joinF ps)
  | [], ps, h => by simp; exact h
  | y :: ys, ps, h => by
    have j := joinF_exp (y := y) h
    have r := foldJ_exp ys j.2
    rw [List.foldl_cons]
    refine ⟨?_, r.2⟩
    rw [r.1, j.1, List.append_assoc]; rfl
theorem canF_exp (ps : List (Int × Int)) : expF (canF ps) = sortP ps := by
  have := (foldJ_exp (sortP ps) (ps := []) (fun p h => by cases h)).1
  rw [show expF [] = [] from rfl, List.nil_append] at this
  exact this
theorem canF_pos (ps : List (Int × Int)) : PosP (canF ps) := (foldJ_exp (sortP ps) (ps := []) (fun p h => by cases h)).2
theorem sortP_of_perm {xs ys : List (Int × Int)} (h : xs.Perm ys) : sortP xs = sortP ys := sortP_eq ((sortP_perm xs).trans h) (sortP_srt xs)
theorem canF_perm {xs ys : List (Int × Int)} (h : xs.Perm ys) : canF xs = canF ys := by unfold canF; rw [sortP_of_perm h]
theorem joinF_len (ps : List Pc) (y : Int × Int) : (joinF ps y).length ≤ ps.length + 1 := by
  rcases snoc_cases ps with rfl | ⟨qs, q, rfl⟩
  · exact Nat.le_refl 1
  · rw [joinF_snoc]
    split <;> simp
theorem foldJ_len : ∀ (ys : List (Int × Int)) (ps : List Pc), (ys.foldl joinF ps).length ≤ ps.length + ys.length
  | [], ps => by simp
  | y :: ys, ps => by
    have := foldJ_len ys (joinF ps y)
    have := joinF_len ps y
    rw [List.length_cons, List.foldl_cons]
    omega
theorem sortP_len (ps : List (Int × Int)) : (sortP ps).length = ps.length := (sortP_perm ps).length_eq
theorem canF_len (ps : List (Int × Int)) : (canF ps).length ≤ ps.length := by
  have := foldJ_len (sortP ps) []
  rw [sortP_len, List.length_nil, Nat.zero_add] at this
  exact this
/-! images -/
theorem imgF_nil (x : Int) : imgF [] x = none := rfl
theorem imgF_cons (p : Int × Int) (ps : List (Int × Int)) (x : Int) : imgF (p :: ps) x = if p.1 = x then some p.2 else imgF ps x := by
  unfold imgF
  rw [List.find?_cons]
  by_cases c : p.1 = x <;> simp [c]
theorem imgF_app (ps qs : List (Int × Int)) (x : Int) : imgF (ps ++ qs) x = (imgF ps x).or (imgF qs x) := by
  induction ps with
  | nil => simp [imgF_nil]
  | cons p ps ih =>
    rw [List.cons_append, imgF_cons, imgF_cons, ih]
    split <;> simp
theorem imgF_row (a b : Int) (x : Int) : ∀ n lo : Nat, imgF ((rngL (lo : Int) n).map fun k => (a + k, b + k)) x = if a + lo ≤ x ∧ x < a + lo + n then some (b + x - a) else none
  | 0, lo => by rw [if_neg (by omega)]; rfl
  | n + 1, lo => by
    rw [rngL_cons, List.map_cons, imgF_cons]
    have ih := imgF_row a b x n (lo + 1)
    rw [show ((lo + 1 : Nat) : Int) = (lo : Int) + 1 by omega] at ih
    rw [ih]
    by_cases c : a + (lo : Int) = x
    · rw [if_pos c, if_pos (by omega)]; congr 1; omega
    · rw [if_neg c]
      by_cases c2 : a + (lo : Int) ≤ x ∧ x < a + lo + (n + 1 : Nat)
      · rw [if_pos c2, if_pos (by omega)]
      · rw [if_neg c2, if_neg (by omega)]
def mapF : List Pc → Int → Option Int
  | [], _ => none
  | p :: ps, x => if p.a ≤ x ∧ x < p.a + p.c then some (p.b + x - p.a) else mapF ps x
theorem mapF_exp : ∀ (ps : List Pc) (x : Int), mapF ps x = imgF (expF ps) x
  | [], x => rfl
  | p :: ps, x => by
    have := imgF_row p.a p.b x p.c.toNat 0
    rw [show p :: ps = [p] ++ ps from rfl, expF_app, expF_one, imgF_app, ← mapF_exp ps x]
    unfold rowF
    rw [show ((0 : Nat) : Int) = 0 from rfl] at this
    rw [this]
    show (if _ then _ else _) = _
    by_cases c : p.a ≤ x ∧ x < p.a + p.c
    · rw [if_pos c, if_pos (by omega)]; rfl
    · rw [if_neg c, if_neg (by omega)]; rfl
/-- no source twice -/
def Uniq (ps : List (Int × Int)) : Prop := (ps.map (·.1)).Nodup
theorem imgF_mem : ∀ {ps : List (Int × Int)} {x y : Int}, imgF ps x = some y → (x, y) ∈ ps
  | [], x, y, h => by cases h
  | p :: ps, x, y, h => by
    rw [imgF_cons] at h
    split at h
    · rename_i c
      obtain ⟨p1, p2⟩ := p
      dsimp only at c h
      cases h
      rw [← c]
      exact List.mem_cons_self
    · exact List.mem_cons_of_mem _ (imgF_mem h)
theorem imgF_of_mem : ∀ {ps : List (Int × Int)} {x y : Int}, Uniq ps → (x, y) ∈ ps → imgF ps x = some y
  | p :: ps, x, y, u, h => by
    unfold Uniq at u
    rw [List.map_cons, List.nodup_cons] at u
    rw [imgF_cons]
    obtain h | h := List.mem_cons.mp h
    · rw [← h, if_pos rfl]
    · have : p.1 ≠ x := fun z => u.1 (z ▸ List.mem_map.mpr ⟨(x, y), h, rfl⟩)
      rw [if_neg this]
      exact imgF_of_mem u.2 h
theorem Uniq.perm {ps qs : List (Int × Int)} (h : ps.Perm qs) (u : Uniq ps) : Uniq qs := ((h.map _).nodup_iff).mp u
theorem imgF_perm {ps qs : List (Int × Int)} (h : ps.Perm qs) (u : Uniq ps) (x : Int) : imgF ps x = imgF qs x := by
  cases e : imgF ps x with
  | some y => exact (imgF_of_mem (u.perm h) (h.mem_iff.mp (imgF_mem e))).symm
  | none =>
    cases e2 : imgF qs x with
    | none => rfl
    | some y => rw [imgF_of_mem u (h.mem_iff.mpr (imgF_mem e2))] at e; cases e
theorem mapF_can {ps : List (Int × Int)} (u : Uniq ps) (x : Int) : mapF (canF ps) x = imgF ps x := by
  rw [mapF_exp, canF_exp]
  exact (imgF_perm (sortP_perm ps).symm u x).symm
/-! by one and then by the other -/
def cmpF (ps : List (Int × Int)) (f : Int → Option Int) : List (Int × Int) := ps.filterMap fun p => (f p.2).map fun y => (p.1, y)
def swpF (ps : List (Int × Int)) : List (Int × Int) := ps.map fun p => (p.2, p.1)
theorem cmpF_perm {ps qs : List (Int × Int)} (h : ps.Perm qs) (f : Int → Option Int) : (cmpF ps f).Perm (cmpF qs f) := h.filterMap _
theorem swpF_perm {ps qs : List (Int × Int)} (h : ps.Perm qs) : (swpF ps).Perm (swpF qs) := h.map _
theorem swpF_swp (ps : List (Int × Int)) : swpF (swpF ps) = ps := by
  unfold swpF
  rw [List.map_map]
  exact List.map_id _
theorem cmpF_len (ps : List (Int × Int)) (f : Int → Option Int) : (cmpF ps f).length ≤ ps.length := List.length_filterMap_le _ _
theorem swpF_len (ps : List (Int × Int)) : (swpF ps).length = ps.length := List.length_map _
theorem cmpF_sub (ps : List (Int × Int)) (f : Int → Option Int) : ((cmpF ps f).map (·.1)).Sublist (ps.map (·.1)) := by
  induction ps with
  | nil => exact .refl _
  | cons p ps ih =>
    unfold cmpF at *
    rw [List.filterMap_cons]
    cases f p.2 with
    | none => exact List.Sublist.cons _ ih
    | some y => exact List.Sublist.cons_cons _ ih
theorem Uniq.cmp {ps : List (Int × Int)} (u : Uniq ps) (f : Int → Option Int) : Uniq (cmpF ps f) := u.sublist (cmpF_sub ps f)
theorem imgF_cmp : ∀ {ps : List (Int × Int)} (u : Uniq ps) (f : Int → Option Int) (x : Int), imgF (cmpF ps f) x = (imgF ps x).bind f := by
  intro ps u f x
  induction ps with
  | nil => rfl
  | cons p ps ih =>
    have u' : Uniq ps := by unfold Uniq at *; rw [List.map_cons, List.nodup_cons] at u; exact u.2
    have nin : p.1 ∉ ps.map (·.1) := by unfold Uniq at u; rw [List.map_cons, List.nodup_cons] at u; exact u.1
    have ih := ih u'
    rw [imgF_cons]
    unfold cmpF at *
    rw [List.filterMap_cons]
    cases e : f p.2 with
    | some y =>
      simp only [Option.map_some]
      rw [imgF_cons]
      dsimp only
      by_cases c : p.1 = x
      · rw [if_pos c, if_pos c, Option.bind_some, e]
      · rw [if_neg c, if_neg c, ih]
    | none =>
      simp only [Option.map_none]
      rw [ih]
      by_cases c : p.1 = x
      · rw [if_pos c, Option.bind_some, e]
        have : imgF ps x = none := by
          cases h : imgF ps x with
          | none => rfl
          | some y => exact absurd (List.mem_map.mpr ⟨_, imgF_mem h, rfl⟩) (c ▸ nin)
        rw [this]; rfl
      · rw [if_neg c]
theorem cmpF_cmp (ps : List (Int × Int)) (f g : Int → Option Int) : cmpF (cmpF ps f) g = cmpF ps fun x => (f x).bind g := by
  unfold cmpF
  rw [List.filterMap_filterMap]
  congr 1
  funext p
  cases e : f p.2 <;> simp [e]
theorem cmpF_congr {ps : List (Int × Int)} {f g : Int → Option Int} (h : ∀ x, f x = g x) : cmpF ps f = cmpF ps g := by rw [show f = g from funext h]
end Pf

namespace Pf
open PySem L2
/-! ### canonical pieces -/
def Adj {α : Type} (R : α → α → Prop) (xs : List α) : Prop := ∀ (i : Nat) (x y : α), xs[i]? = some x → xs[i + 1]? = some y → R x y
def cellsF (bs : List (Int × Int)) : List Int := bs.flatMap fun b => rngL b.1 b.2.toNat
def srcF (ps : List Pc) : List (Int × Int) := ps.map fun p => (p.a, p.c)
def tgtF (ps : List Pc) : List (Int × Int) := ps.map fun p => (p.b, p.c)
def ContP (p q : Pc) : Prop := p.a + p.c = q.a ∧ p.b + p.c = q.b
theorem cut_one {α : Type} (xs : List α) : cutF xs (some (1 : Int)) none = xs.drop 1 := by
  cases xs with
  | nil => rfl
  | cons x xs => exact cut_from (x :: xs) (i := 1) (by simp)
theorem adj_all {α : Type} (f : α × α → Bool) (xs : List α) : ((xs.zip (xs.drop 1)).map f).all id = true ↔ Adj (fun x y => f (x, y) = true) xs := by
  rw [List.all_map, List.all_eq_true]
  constructor
  · intro h i x y hx hy
    have : (x, y) ∈ xs.zip (xs.drop 1) := List.mem_iff_getElem?.mpr ⟨i, (List.getElem?_zip_eq_some (z := (x, y))).mpr ⟨hx, by rw [List.getElem?_drop, Nat.add_comm]; exact hy⟩⟩
    exact h _ this
  · intro h z hz
    obtain ⟨i, hi⟩ := List.mem_iff_getElem?.mp hz
    obtain ⟨h1, h2⟩ := List.getElem?_zip_eq_some.mp hi
    rw [List.getElem?_drop, Nat.add_comm] at h2
    exact h i z.1 z.2 h1 h2
theorem adj_any {α : Type} (f : α × α → Bool) (xs : List α) : ((xs.zip (xs.drop 1)).map f).any id = false ↔ Adj (fun x y => f (x, y) = false) xs := by
  rw [List.any_map, List.any_eq_false]
  constructor
  · intro h i x y hx hy
    have : (x, y) ∈ xs.zip (xs.drop 1) := List.mem_iff_getElem?.mpr ⟨i, (List.getElem?_zip_eq_some (z := (x, y))).mpr ⟨hx, by rw [List.getElem?_drop, Nat.add_comm]; exact hy⟩⟩
    have := h _ this
    simpa using this
  · intro h z hz
    obtain ⟨i, hi⟩ := List.mem_iff_getElem?.mp hz
    obtain ⟨h1, h2⟩ := List.getElem?_zip_eq_some.mp hi
    rw [List.getElem?_drop, Nat.add_comm] at h2
    have := h i z.1 z.2 h1 h2
    simpa using this
theorem adj_pw {xs : List (Int × Int)} (hp : ∀ x ∈ xs, 1 ≤ x.2) : Adj (fun x y => x.1 + x.2 ≤ y.1) xs ↔ xs.Pairwise fun x y => x.1 + x.2 ≤ y.1 := by
  constructor
  · intro h
    rw [List.pairwise_iff_getElem]
    have go : ∀ (d i : Nat) (x y : Int × Int), xs[i]? = some x → xs[i + 1 + d]? = some y → x.1 + x.2 ≤ y.1 := by
      intro d
      induction d with
      | zero => exact fun i x y hx hy => h i x y hx hy
      | succ d ih =>
        intro i x y hx hy
        have hl := lt_of_get hy
        obtain ⟨z, hz⟩ := get_of_lt (xs := xs) (i := i + 1 + d) (by omega)
        have h1 := ih i x z hx hz
        have h2 := h (i + 1 + d) z y hz hy
        have := hp z (List.mem_of_getElem? hz)
        omega
    intro i j hi hj hij
    exact go (j - i - 1) i _ _ (List.getElem?_eq_getElem hi) (by rw [show i + 1 + (j - i - 1) = j by omega]; exact List.getElem?_eq_getElem hj)
  · intro h i x y hx hy
    have pw := List.pairwise_iff_getElem.mp h
    obtain ⟨hi, ei⟩ := List.getElem?_eq_some_iff.mp hx
    obtain ⟨hj, ej⟩ := List.getElem?_eq_some_iff.mp hy
    have := pw i (i + 1) hi hj (by omega)
    rw [ei, ej] at this
    exact this
theorem mem_cells {bs : List (Int × Int)} {c : Int} : c ∈ cellsF bs ↔ ∃ b ∈ bs, b.1 ≤ c ∧ c < b.1 + b.2 := by
  unfold cellsF
  rw [List.mem_flatMap]
  constructor
  · rintro ⟨b, hb, hc⟩
    have := rngL_mem.mp hc
    exact ⟨b, hb, by omega, by omega⟩
  · rintro ⟨b, hb, h1, h2⟩
    exact ⟨b, hb, rngL_mem.mpr (by omega)⟩
theorem cells_nodup : ∀ {bs : List (Int × Int)}, (∀ b ∈ bs, 1 ≤ b.2) → ((cellsF bs).Nodup ↔ bs.Pairwise Sep)
  | [], _ => ⟨fun _ => .nil, fun _ => List.nodup_nil⟩
  | b :: r, h => by
    have hb := h b List.mem_cons_self
    have hr : ∀ b ∈ r, 1 ≤ b.2 := fun b hb => h b (List.mem_cons_of_mem _ hb)
    have e : cellsF (b :: r) = rngL b.1 b.2.toNat ++ cellsF r := by unfold cellsF; rw [List.flatMap_cons]
    rw [e, List.nodup_append, List.pairwise_cons, cells_nodup hr]
    constructor
    · rintro ⟨_, h2, h3⟩
      refine ⟨fun b' hb' => ?_, h2⟩
      by_cases hs : Sep b b'
      · exact hs
      · exfalso
        have hb2 := hr b' hb'
        unfold Sep at hs
        have m1 : max b.1 b'.1 ∈ rngL b.1 b.2.toNat := rngL_mem.mpr (by omega)
        have m2 : max b.1 b'.1 ∈ cellsF r := mem_cells.mpr ⟨b', hb', by omega, by omega⟩
        exact h3 _ m1 _ m2 rfl
    · rintro ⟨h1, h2⟩
      refine ⟨rngL_nodup _ _, h2, fun x hx y hy exy => ?_⟩
      subst exy
      obtain ⟨b', hb', h3, h4⟩ := mem_cells.mp hy
      have := rngL_mem.mp hx
      have := h1 b' hb'
      unfold Sep at this
      omega
theorem sort_adj {xs : List (Int × Int)} (hp : ∀ x ∈ xs, 1 ≤ x.2) : Adj (fun x y => x.1 + x.2 ≤ y.1) (sortP xs) ↔ xs.Pairwise Sep := by
  have hp' : ∀ x ∈ sortP xs, 1 ≤ x.2 := fun x hx => hp x ((sortP_perm xs).mem_iff.mp hx)
  rw [adj_pw hp', ← (sortP_perm xs).pairwise_iff fun h => Sep.symm h]
  constructor
  · exact fun h => h.imp fun h => .inl h
  · intro h
    refine (List.Pairwise.and_mem.mp ((sortP_srt xs).and h)).imp fun {a b} q => ?_
    have := hp' a q.1
    have := hp' b q.2.1
    have q1 := q.2.2.1
    have q2 := q.2.2.2
    unfold LexLe at q1
    unfold Sep at q2
    omega
theorem exp_src (ps : List Pc) : (expF ps).map (·.1) = cellsF (srcF ps) := by
  induction ps with
  | nil => rfl
  | cons p ps ih =>
    have e : expF (p :: ps) = rowF p ++ expF ps := by unfold expF; rw [List.flatMap_cons]
    rw [e, List.map_append, ih]
    unfold cellsF srcF rowF
    rw [List.map_cons, List.flatMap_cons]
    congr 1
    rw [List.map_map]
    unfold rngL
    rw [List.map_map]
    exact List.map_congr_left fun i _ => by simp only [Function.comp]; omega
theorem exp_tgt (ps : List Pc) : (swpF (expF ps)).map (·.1) = cellsF (tgtF ps) := by
  unfold swpF
  induction ps with
  | nil => rfl
  | cons p ps ih =>
    have e : expF (p :: ps) = rowF p ++ expF ps := by unfold expF; rw [List.flatMap_cons]
    rw [e, List.map_append, List.map_append, ih]
    unfold cellsF tgtF rowF
    rw [List.map_cons, List.flatMap_cons]
    congr 1
    rw [List.map_map, List.map_map]
    unfold rngL
    rw [List.map_map]
    exact List.map_congr_left fun i _ => by simp only [Function.comp]; omega
/-- rows and back -/
theorem foldJ_row (acc : List Pc) (x y : Int) : ∀ (m k : Nat), 1 ≤ k → (((rngL (k : Int) m).map fun j => (x + j, y + j)).foldl joinF (acc ++ [⟨x, y, k⟩])) = acc ++ [⟨x, y, ((k + m : Nat) : Int)⟩]
  | 0, k, _ => rfl
  | m + 1, k, hk => by
    rw [rngL_cons, List.map_cons, List.foldl_cons, joinF_snoc, if_pos ⟨rfl, rfl⟩]
    have := foldJ_row acc x y m (k + 1) (by omega)
    rw [show ((k + 1 : Nat) : Int) = (k : Int) + 1 by omega] at this
    dsimp only at this ⊢
    rw [this, show k + 1 + m = k + (m + 1) by omega]
theorem foldJ_piece {acc : List Pc} {p : Pc} (hp : 1 ≤ p.c) (hc : ∀ q, acc.getLast? = some q → ¬ ContP q p) : (rowF p).foldl joinF acc = acc ++ [p] := by
  obtain ⟨m, hm⟩ : ∃ m : Nat, p.c.toNat = m + 1 := ⟨p.c.toNat - 1, by omega⟩
  unfold rowF
  rw [hm, rngL_cons, List.map_cons, List.foldl_cons]
  have first : joinF acc (p.a + 0, p.b + 0) = acc ++ [⟨p.a, p.b, 1⟩] := by
    rw [Int.add_zero, Int.add_zero]
    rcases snoc_cases acc with rfl | ⟨qs, q, rfl⟩
    · rfl
    · rw [joinF_snoc]
      exact if_neg (hc q List.getLast?_concat)
  rw [first]
  have := foldJ_row acc p.a p.b m 1 (Nat.le_refl _)
  rw [show ((1 : Nat) : Int) = (0 : Int) + 1 by omega] at this
  rw [show (⟨p.a, p.b, (0 : Int) + 1⟩ : Pc) = ⟨p.a, p.b, 1⟩ by rfl] at this
  rw [this, show ((1 + m : Nat) : Int) = p.c by omega]
theorem foldJ_all : ∀ (ps acc : List Pc), PosP ps → Adj (fun p q => ¬ ContP p q) (acc ++ ps) → (expF ps).foldl joinF acc = acc ++ ps
  | [], acc, _, _ => by rw [List.append_nil]; rfl
  | p :: ps, acc, hp, hc => by
    have e : expF (p :: ps) = rowF p ++ expF ps := by unfold expF; rw [List.flatMap_cons]
    rw [e, List.foldl_append, foldJ_piece (hp p List.mem_cons_self) ?_, foldJ_all ps (acc ++ [p]) (fun q hq => hp q (List.mem_cons_of_mem _ hq)) (by rw [List.append_assoc]; exact hc), List.append_assoc]
    · rfl
    · intro q hq
      obtain ⟨ys, rfl⟩ := List.getLast?_eq_some_iff.mp hq
      refine hc ys.length q p ?_ ?_
      · rw [List.append_assoc, List.getElem?_append_right (Nat.le_refl _), Nat.sub_self]; rfl
      · rw [List.append_assoc, List.getElem?_append_right (by omega), show ys.length + 1 - ys.length = 1 by omega]; rfl
theorem joinF_adj {ps : List Pc} {y : Int × Int} (h : Adj (fun p q => ¬ ContP p q) ps) : Adj (fun p q => ¬ ContP p q) (joinF ps y) := by
  rcases snoc_cases ps with rfl | ⟨qs, q, rfl⟩
  · intro i x z hx hz
    have := lt_of_get hz
    have e : joinF [] y = [(⟨y.1, y.2, 1⟩ : Pc)] := rfl
    rw [e] at this
    simp at this
  · rw [joinF_snoc]
    split
    · intro i x z hx hz
      have li := lt_of_get hz
      rw [List.length_append, List.length_singleton] at li
      rw [List.getElem?_append_left (by omega)] at hx
      by_cases c : i + 1 < qs.length
      · rw [List.getElem?_append_left c] at hz
        exact h i x z (by rw [List.getElem?_append_left (by omega)]; exact hx) (by rw [List.getElem?_append_left c]; exact hz)
      · have e : i + 1 = qs.length := by omega
        rw [e, List.getElem?_append_right (Nat.le_refl _), Nat.sub_self] at hz
        cases hz
        exact h i x q (by rw [List.getElem?_append_left (by omega)]; exact hx) (by rw [e, List.getElem?_append_right (Nat.le_refl _), Nat.sub_self]; rfl)
    · rename_i c
      intro i x z hx hz
      have li := lt_of_get hz
      rw [List.length_append, List.length_singleton] at li
      rw [List.getElem?_append_left (by omega)] at hx
      by_cases c2 : i + 1 < (qs ++ [q]).length
      · rw [List.getElem?_append_left c2] at hz
        exact h i x z hx hz
      · have e : i + 1 = (qs ++ [q]).length := by omega
        rw [e, List.getElem?_append_right (Nat.le_refl _), Nat.sub_self] at hz
        cases hz
        rw [List.length_append, List.length_singleton] at e
        have ei : i = qs.length := by omega
        rw [ei, List.getElem?_append_right (Nat.le_refl _), Nat.sub_self] at hx
        cases hx
        exact c
theorem foldJ_adj : ∀ (ys : List (Int × Int)) {ps : List Pc}, Adj (fun p q => ¬ ContP p q) ps → Adj (fun p q => ¬ ContP p q) (ys.foldl joinF ps)
  | [], _, h => h
  | y :: ys, _, h => foldJ_adj ys (joinF_adj h)
theorem canF_adj (qs : List (Int × Int)) : Adj (fun p q => ¬ ContP p q) (canF qs) := foldJ_adj _ fun i x y hx _ => by simp at hx
/-- canonical, told in two ways -/
theorem can_iff2 {ps : List Pc} (hp : PosP ps) : (Adj (fun x y => x.1 + x.2 ≤ y.1) (srcF ps) ∧ Adj (fun p q => ¬ ContP p q) ps) ↔ ((srcF ps).Pairwise Sep ∧ canF (expF ps) = ps) := by
  have hs : ∀ x ∈ srcF ps, 1 ≤ x.2 := fun x hx => by
    obtain ⟨p, h, rfl⟩ := List.mem_map.mp hx
    exact hp p h
  rw [adj_pw hs]
  constructor
  · rintro ⟨h1, h2⟩
    refine ⟨h1.imp fun h => .inl h, ?_⟩
    have pw : ps.Pairwise fun p q => p.a + p.c ≤ q.a := by
      unfold srcF at h1
      rw [List.pairwise_map] at h1
      exact h1
    have srt : (expF ps).Pairwise LexLe := by
      unfold expF
      rw [List.pairwise_flatMap]
      refine ⟨fun p _ => ?_, pw.imp fun {p q} h x hx y hy => ?_⟩
      · unfold rowF
        rw [List.pairwise_map]
        refine List.Pairwise.imp (fun {a b} h => ?_) (show (rngL 0 p.c.toNat).Pairwise (· < ·) from ?_)
        · unfold LexLe; dsimp only; omega
        · unfold rngL
          rw [List.pairwise_map]
          exact List.pairwise_lt_range.imp fun h => by omega
      · unfold rowF at hx hy
        obtain ⟨k, hk, rfl⟩ := List.mem_map.mp hx
        obtain ⟨j, hj, rfl⟩ := List.mem_map.mp hy
        have := rngL_mem.mp hk
        have := rngL_mem.mp hj
        unfold LexLe
        dsimp only
        omega
    unfold canF
    rw [← sortP_eq (.refl _) srt, foldJ_all ps [] hp (by rw [List.nil_append]; exact h2)]
    rfl
  · rintro ⟨h1, h2⟩
    have h3 : Adj (fun p q => ¬ ContP p q) ps := h2 ▸ canF_adj (expF ps)
    refine ⟨?_, h3⟩
    have e : expF ps = sortP (expF ps) := by
      have := canF_exp (expF ps)
      rw [h2] at this
      exact this
    have srt : (expF ps).Pairwise LexLe := by rw [e]; exact sortP_srt _
    unfold expF at srt
    rw [List.pairwise_flatMap] at srt
    unfold srcF at h1 ⊢
    rw [List.pairwise_map] at h1 ⊢
    refine (List.Pairwise.and_mem.mp (srt.2.and h1)).imp fun {p q} z => ?_
    have c1 := hp p z.1
    have c2 := hp q z.2.1
    have m1 : (p.a + (p.c - 1), p.b + (p.c - 1)) ∈ rowF p := List.mem_map.mpr ⟨p.c - 1, rngL_mem.mpr (by omega), rfl⟩
    have m2 : (q.a + 0, q.b + 0) ∈ rowF q := List.mem_map.mpr ⟨0, rngL_mem.mpr (by omega), rfl⟩
    have l := z.2.2.1 _ m1 _ m2
    have s := z.2.2.2
    unfold LexLe at l
    unfold Sep at s
    dsimp only at l s ⊢
    omega
end Pf

namespace Pf
open PySem L2
local macro_rules | `(tactic| walk_at "rd1") => `(tactic| first
  | with_reducible refine r_seqA ?_
  | with_reducible refine r_seqD ?_
  | with_reducible refine r_seqF ?_
  | with_reducible refine r_seqN ?_
  | with_reducible refine r_asg ?_
  | with_reducible refine r_drop ?_
  | with_reducible refine r_ret ?_
  | with_reducible refine r_ifS ?_
  | ((with_reducible refine r_next ?_); try dsimp only)
  | ((with_reducible refine r_name ?_); try dsimp only [List.set_cons_succ, List.set_cons_zero, wipe])
  | ((with_reducible refine' r_var ?rdh ?_); (case rdh => rfl))
  | with_reducible refine r_c ?_
  | with_reducible refine r_op ?_
  | with_reducible refine r_un ?_
  | with_reducible refine r_I0 ?_
  | ((with_reducible refine r_I ?_ ?_); (· first | decide | exact Or.inl (by decide) | exact Or.inr (by decide) | (show _ ∧ _; constructor <;> decide) | (show (0:Int) < _; omega) | (show CDiv _ _; unfold CDiv; omega) ))
  | with_reducible refine r_U ?_
  | with_reducible refine r_eqI ?_
  | with_reducible refine r_neI ?_
  | with_reducible refine r_eqB ?_
  | with_reducible refine r_neB ?_
  | with_reducible refine r_test ?_
  | with_reducible refine r_B ?_
  | with_reducible refine r_bl ?_
  | with_reducible refine r_bl2 ?_
  | with_reducible refine r_yes ?_
  | with_reducible refine r_wipe (by rfl) ?_
  | with_reducible refine r_rfl ?_
  | ((with_reducible refine' r_eqA ?rdh ?_); (case rdh => rfl))
  | with_reducible refine r_and ?_
  | with_reducible refine r_or ?_
  | with_reducible refine r_not ?_
  | with_reducible refine r_andV ?_
  | with_reducible refine r_orV ?_
  | with_reducible refine r_notV ?_
  | with_reducible refine r_ifE ?_
  | with_reducible refine r_nil ?_
  | with_reducible refine r_cons ?_
  | with_reducible refine r_tup ?_
  | with_reducible refine r_lst ?_
  | with_reducible refine r_CB ?_
  | with_reducible refine r_call ?_
  | with_reducible refine r_bm ?_
  | with_reducible refine r_bm0 ?_
  | with_reducible refine r_int ?_
  | with_reducible refine r_i2 ?_
  | with_reducible refine r_i1 ?_
  | with_reducible refine r_gcons ?_
  | with_reducible refine r_gnil ?_
  | with_reducible refine r_gsub ?_
  | with_reducible refine iteT ?_
  | with_reducible refine iteF ?_
  | with_reducible refine ite_notT ?_
  | with_reducible refine ite_notF ?_
  | with_reducible refine r_isi_ib ?_
  | with_reducible refine r_isi_ii ?_
  | with_reducible refine r_isi_bb ?_
  | with_reducible refine r_isi_nb ?_
  | with_reducible refine r_isi_nt ?_
  | ((with_reducible refine' r_isi_ll ?rdh ?_); (case rdh => first | assumption | exact upd_same))
  | ((with_reducible refine' r_isi_tt ?rdh ?_); (case rdh => first | assumption | exact upd_same))
  | with_reducible refine r_sl ?_
  | with_reducible refine r_noPart ?_
  | with_reducible refine r_part ?_
  | with_reducible refine r_int1 ?_
  | with_reducible refine r_tru ?_
  | with_reducible refine r_ckw ?_
  | with_reducible refine r_lc ?_
  | with_reducible refine r_lc2 ?_
  | with_reducible refine r_forS ?_
  | with_reducible refine r_iR1 ?_
  | with_reducible refine r_iR2 ?_
  | with_reducible refine r_iL ?_
  | ((with_reducible refine' r_lenL ?rdh ?_); (case rdh => walk_at "sq"))
  | ((with_reducible refine' r_ixL ?rdh ?rda ?_); (case rdh => walk_at "sq"); (case rda => walk_at "at"))
  | ((with_reducible refine' r_ixT ?rdh ?rda ?_); (case rdh => walk_at "sq"); (case rda => walk_at "at")))
local macro_rules | `(tactic| walk_at "sq") => `(tactic| first
  | assumption
  | exact SqL.of (by assumption)
  | exact SqL.of upd_same
  | exact SqT.of (by assumption)
  | exact SqT.of upd_same)
local macro_rules | `(tactic| walk_at "sml") => `(tactic| (rw [sizeLine_eq]; simp))
local macro_rules | `(tactic| walk_at "at") => `(tactic| first | assumption | rfl)
local macro_rules | `(tactic| walk_at "rd") => `(tactic| repeat walk_at "rd1")
section
variable {w : World} {P : Program} {base : Heap} {K : PySem.W.Frag} {mg : Str → Option Value}
def topS (i : Nat) : Stmt := PySem.Challenge.pw_heapgame_k09_canonical_maps.main.body.getD i (.Pass ⟨0, 0, 0, 0⟩)
abbrev s_law_cell : Stmt := topS 8
theorem sc_law_cell : FnScope ["script", "k"] ["script", "k"] (defScope s_law_cell) := ⟨rfl, rfl, rfl, by decide +kernel, rfl, by decide +kernel, by decide +kernel⟩
abbrev s_law_digits : Stmt := topS 9
theorem sc_law_digits : FnScope ["script", "first", "last", "digits", "k", "cell", "turn", "seed"] ["script", "first", "last"] (defScope s_law_digits) := ⟨rfl, rfl, rfl, by decide +kernel, rfl, by decide +kernel, by decide +kernel⟩
abbrev s_law_draw : Stmt := topS 10
theorem sc_law_draw : FnScope ["box", "many", "at"] ["box", "many"] (defScope s_law_draw) := ⟨rfl, rfl, rfl, by decide +kernel, rfl, by decide +kernel, by decide +kernel⟩
abbrev s_law_pieces : Stmt := topS 16
theorem sc_law_pieces : FnScope ["box", "most", "left", "k", "other", "pairs", "a", "b"] ["box", "most"] (defScope s_law_pieces) := ⟨rfl, rfl, rfl, by decide +kernel, rfl, by decide +kernel, by decide +kernel⟩
abbrev s_law_canonical : Stmt := topS 17
theorem sc_law_canonical : FnScope ["pairs", "pieces", "pair", "last"] ["pairs"] (defScope s_law_canonical) := ⟨rfl, rfl, rfl, by decide +kernel, rfl, by decide +kernel, by decide +kernel⟩
abbrev s_law_image : Stmt := topS 18
theorem sc_law_image : FnScope ["pairs", "address", "pair"] ["pairs", "address"] (defScope s_law_image) := ⟨rfl, rfl, rfl, by decide +kernel, rfl, by decide +kernel, by decide +kernel⟩
abbrev s_law_good : Stmt := topS 19
theorem sc_law_good : FnScope ["pieces", "sources", "targets", "piece", "step", "pairs", "k"] ["pieces"] (defScope s_law_good) := ⟨rfl, rfl, rfl, by decide +kernel, rfl, by decide +kernel, by decide +kernel⟩
abbrev s_continues : Stmt := topS 5
theorem sc_continues : FnScope ["piece", "source", "target", "first", "image", "length"] ["piece", "source", "target"] (defScope s_continues) := ⟨rfl, rfl, rfl, by decide +kernel, rfl, by decide +kernel, by decide +kernel⟩
abbrev s_ascend : Stmt := topS 6
theorem sc_ascend : FnScope ["rows", "start", "length", "other", "_"] ["rows"] (defScope s_ascend) := ⟨rfl, rfl, rfl, by decide +kernel, rfl, by decide +kernel, by decide +kernel⟩
abbrev s_pairs_of : Stmt := topS 1
theorem sc_pairs_of : FnScope ["pieces", "source", "target", "length", "step"] ["pieces"] (defScope s_pairs_of) := ⟨rfl, rfl, rfl, by decide +kernel, rfl, by decide +kernel, by decide +kernel⟩
abbrev s_canonical : Stmt := topS 2
theorem sc_canonical : FnScope ["pairs", "pieces", "source", "target", "first", "image", "length"] ["pairs"] (defScope s_canonical) := ⟨rfl, rfl, rfl, by decide +kernel, rfl, by decide +kernel, by decide +kernel⟩
abbrev s_is_map : Stmt := topS 3
theorem sc_is_map : FnScope ["pieces", "source", "target", "length", "sources", "targets", "before", "piece"] ["pieces"] (defScope s_is_map) := ⟨rfl, rfl, rfl, by decide +kernel, rfl, by decide +kernel, by decide +kernel⟩
abbrev s_map_address : Stmt := topS 4
theorem sc_map_address : FnScope ["pieces", "address", "source", "target", "length"] ["pieces", "address"] (defScope s_map_address) := ⟨rfl, rfl, rfl, by decide +kernel, rfl, by decide +kernel, by decide +kernel⟩
abbrev s_law : Stmt := topS 20
theorem sc_law : FnScope ["script", "box", "pairs", "due", "back", "k", "actual", "address", "spoilt", "piece", "kind", "at"] ["script"] (defScope s_law) := ⟨rfl, rfl, rfl, by decide +kernel, rfl, by decide +kernel, by decide +kernel⟩
structure Txt (mg : Str → Option Value) : Prop where
  all : mg "all" = none
  any : mg "any" = none
  int : mg "int" = none
  isinstance : mg "isinstance" = none
  len : mg "len" = none
  list : mg "list" = none
  range : mg "range" = none
  sorted : mg "sorted" = none
  zip : mg "zip" = none
def sp_cell (K : PySem.W.Frag) : Sp := fun vs H Q _ => ∃ (a : Addr) (ns : List Int) (k : Nat), vs = [.ref a, .int k] ∧ SqL K H a (ns.map V.int) ∧ ∀ c, Q (.int c) H
theorem mk_law_cell {f : Addr} {fd : FuncData} (T : Txt mg) (F : Fun K "_law_cell" "_law_cell" s_law_cell f fd) (m : mg "_law_cell" = some (.ref f)) (b : Binds K fd ["script", "k"] []) :
    Cal P w K mg base "_law_cell" 1 f fd ["script", "k"] (sp_cell K) := by
  refine ⟨F.ok sc_law_cell (fun vs H Q E h => ?_) (fun cdv A outer s H vs Q E hr h => ?_), m, F.kp, b⟩
  · rcases h with ⟨a, ns, k, rfl, _⟩
    rfl
  obtain ⟨a, ns, k, rfl, hS, q⟩ := h
  refine ⟨_, (pss_cons (ps_if (pt_cmpR op_lt (pv 1) (pe_callB (show CallR _ _ (fun xs H Q => ∃ p ys, xs = [V.ref p] ∧ (SqL K H p ys ∨ SqT K H p ys) ∧ Q (.int ys.length) H) from call_len_seq) (by rfl) T.len PySem.boot_len (pa_cons (pv 0) pa_nil)) (nomark _))
      (pss_one (ps_ret (pe_ix (show IxR _ (rIxL K) from ix_list) (pv 0) (pv 1) (fun _ _ => rfl))))
      pss_nil) (pss_one (ps_ret pe_int))), ?_⟩
  try dsimp only [cxOf, Cx.nox, Cx.wish]
  rw [show start ["script", "k"] [V.ref a, V.int k] = [some (V.ref a), some (V.int k)] from rfl]
  refine r_seq ?_
  walk_at "rd"
  refine r_ite (fun c => ?_) (fun c => ?_)
  · rw [List.length_map] at c
    walk_at "rd"
    refine r_ixL hS (at_int (by omega) (by omega)) ?_
    exact q _
  · walk_at "rd"
    exact q _
def sp_digits (K : PySem.W.Frag) : Sp := fun vs H Q _ => ∃ (a : Addr) (ns : List Int) (f l : Nat), vs = [.ref a, .int f, .int l] ∧ SqL K H a (ns.map V.int) ∧ f ≤ l ∧ l ≤ 63 ∧
  ∀ (p : Addr) (ds : List Int) (H' : Hp), H p = none → Same H H' → H' p = some (.lst (ds.map V.int)) → ds.length ≤ 60 * (l - f) → Q (.ref p) H'
theorem mk_law_digits {f f1 : Addr} {fd fd1 : FuncData} (T : Txt mg) (F : Fun K "_law_digits" "_law_digits" s_law_digits f fd) (m : mg "_law_digits" = some (.ref f)) (b : Binds K fd ["script", "first", "last"] [])
    (C_law_cell : Cal P w K mg base "_law_cell" 1 f1 fd1 ["script", "k"] (sp_cell K)) :
    Cal P w K mg base "_law_digits" 2 f fd ["script", "first", "last"] (sp_digits K) := by
  refine ⟨F.ok sc_law_digits (fun vs H Q E h => ?_) (fun cdv A outer s H vs Q E hr h => ?_), m, F.kp, b⟩
  · obtain ⟨a, ns, f, l, rfl, _⟩ := h
    rfl
  obtain ⟨a, ns, f, l, rfl, hS, hfl, hl, q⟩ := h
  refine ⟨_, (pss_cons (ps_set (i := 3) sc_law_digits.nd rfl (Or.inl rfl) (pe_lst pa_nil)) (pss_cons (ps_for PassesOwn.never rfl (pi_range2 rfl T.range (pa_cons (pv 1) (pa_cons (pv 2) pa_nil))) (pg_name (i := 4) sc_law_digits.nd rfl (Or.inl rfl))
      (pss_cons (ps_set (i := 5) sc_law_digits.nd rfl (Or.inl rfl) (pe_call C_law_cell.ok (hr.mono (by first | decide | omega)) rfl C_law_cell.mg C_law_cell.kp C_law_cell.b .nil pass0 (pa_cons (pv 0) (pa_cons (pv 4) pa_nil)))) (pss_cons (ps_if (pt_cmpR op_lt (pv 5) pe_int (nomark _))
      (pss_one (ps_set (i := 5) sc_law_digits.nd rfl (Or.inl rfl) (pe_op op_sub pe_int (pe_op op_mul pe_int (pv 5)))))
      pss_nil) (pss_one (ps_if (pt_cmpR op_ge (pv 5) (pe_op op_pow pe_int pe_int) (nomark _))
      (pss_one (ps_for PassesOwn.never rfl (pi_range1 rfl T.range (pa_cons pe_int pa_nil)) (pg_name (i := 6) sc_law_digits.nd rfl (Or.inl rfl))
      (pss_one (ps_if (pt_cmpR op_gt (pv 5) pe_int (nomark _))
      (pss_cons (ps_expr (pe_bm PySem.F.plainAttrs_list PySem.F.slot_list_append PySem.F.type_list_append mt_append (pv 3) (pa_cons (pe_op op_mod (pe_callTy call_int1 (by rfl) T.int (by decide +kernel) (pa_cons (pv 5) pa_nil)) pe_int) pa_nil))) (pss_one (ps_set (i := 5) sc_law_digits.nd rfl (Or.inl rfl) (pe_op op_fdiv (pv 5) pe_int))))
      pss_nil))))
      (pss_cons (ps_set (i := 7) sc_law_digits.nd rfl (Or.inl rfl) (pe_op op_mod (pe_callTy call_int1 (by rfl) T.int (by decide +kernel) (pa_cons (pe_op op_add (pe_op op_add (pe_op op_mul (pv 5) pe_int) (pe_op op_mul (pv 4) pe_int)) pe_int) pa_nil)) pe_int)) (pss_one (ps_for PassesOwn.never rfl (pi_range1 rfl T.range (pa_cons pe_int pa_nil)) (pg_name (i := 6) sc_law_digits.nd rfl (Or.inl rfl))
      (pss_cons (ps_set (i := 7) sc_law_digits.nd rfl (Or.inl rfl) (pe_op op_mod (pe_callTy call_int1 (by rfl) T.int (by decide +kernel) (pa_cons (pe_op op_add (pe_op op_add (pe_op op_mul (pv 7) pe_int) (pe_op op_mul pe_int (pv 6))) pe_int) pa_nil)) pe_int)) (pss_one (ps_expr (pe_bm PySem.F.plainAttrs_list PySem.F.slot_list_append PySem.F.type_list_append mt_append (pv 3) (pa_cons (pe_op op_mod (pe_callTy call_int1 (by rfl) T.int (by decide +kernel) (pa_cons (pe_op op_fdiv (pv 7) pe_int) pa_nil)) pe_int) pa_nil))))))))))))) (pss_one (ps_ret (pv 3))))), ?_⟩
  try dsimp only [cxOf, Cx.nox, Cx.wish]
  rw [show start ["script", "first", "last", "digits", "k", "cell", "turn", "seed"] [V.ref a, V.int f, V.int l] = [some (V.ref a), some (V.int f), some (V.int l), none, none, none, none, none] from rfl]
  walk_at "rd"
  refine ⟨by decide, fun p np => ?_⟩
  walk_at "rd"
  refine ⟨by omega, ?_⟩
  refine for_range (lo := (f : Int)) (n := ((l : Int) - f).toNat) (fun i σ H' => ∃ x4 x5 x6 x7 ds, σ = [some (.ref a), some (.int f), some (.int l), some (.ref p), x4, x5, x6, x7] ∧ Same H H' ∧ H' p = some (.lst (ds.map V.int)) ∧ ds.length ≤ 60 * i)
    ⟨none, none, none, none, [], rfl, same_upd np, upd_same, by simp⟩ ?_ ?_
  · rintro i σ H1 hi ⟨x4, x5, x6, x7, ds, rfl, s1, hp, hd⟩
    have npa : ∀ z, H1 p = some z → True := fun _ _ => trivial
    walk_at "rd"
    refine ⟨a, ns, f + i, by simp, s1.seq hS, fun c => ?_⟩
    walk_at "rd"
    refine r_seqG fun R hR => ?_
    have key : ∀ c2 : Int, R [some (.ref a), some (.int f), some (.int l), some (.ref p), some (.int (f + i)), some (.int c2), x6, x7] H1 := by
      intro c2
      refine hR _ _ ?_
      walk_at "rd"
      refine r_ite (fun c => ?_) (fun c => ?_)
      · walk_at "rd"
        refine ⟨by decide, by decide, ?_⟩
        refine for_range (lo := 0) (n := 60) (fun j σ H' => ∃ (y6 : Option V) (es : List Int) (c3 : Int), σ = [some (.ref a), some (.int f), some (.int l), some (.ref p), some (.int (f + i)), some (.int c3), y6, x7] ∧ Same H H' ∧ H' p = some (.lst (es.map V.int)) ∧ es.length ≤ 60 * i + j)
          ⟨x6, ds, c2, rfl, s1, hp, by omega⟩ ?_ ?_
        · rintro j σ H2 hj ⟨y6, es, c3, rfl, s2, hp2, he⟩
          walk_at "rd"
          refine r_ite (fun c => ?_) (fun c => ?_)
          · walk_at "rd"
            refine ⟨ty_lst hp2, ?_⟩
            walk_at "rd"
            refine r_app hp2 (by rw [List.length_map, sizeLine_eq]; omega) fun H3 hp3 u3 => ?_
            walk_at "rd"
            exact ⟨_, es ++ [c3 % 1000], _, rfl, u3.new np s2, by rw [hp3, List.map_append]; rfl, by rw [List.length_append]; simp; omega⟩
          · walk_at "rd"
            exact ⟨_, es, c3, rfl, s2, hp2, by omega⟩
        · rintro σ H2 ⟨y6, es, c3, rfl, s2, hp2, he⟩
          exact ⟨_, _, _, _, es, rfl, s2, hp2, by omega⟩
      · walk_at "rd"
        refine ⟨by decide, by decide, ?_⟩
        refine for_range (lo := 0) (n := 12) (fun j σ H' => ∃ (y6 : Option V) (es : List Int) (c3 : Int), σ = [some (.ref a), some (.int f), some (.int l), some (.ref p), some (.int (f + i)), some (.int c2), y6, some (.int c3)] ∧ Same H H' ∧ H' p = some (.lst (es.map V.int)) ∧ es.length ≤ 60 * i + j)
          ⟨x6, ds, _, rfl, s1, hp, by omega⟩ ?_ ?_
        · rintro j σ H2 hj ⟨y6, es, c3, rfl, s2, hp2, he⟩
          walk_at "rd"
          refine ⟨ty_lst hp2, ?_⟩
          walk_at "rd"
          refine r_app hp2 (by rw [List.length_map, sizeLine_eq]; omega) fun H3 hp3 u3 => ?_
          walk_at "rd"
          exact ⟨_, es ++ [_], _, rfl, u3.new np s2, by rw [hp3, List.map_append]; rfl, by rw [List.length_append]; simp; omega⟩
        · rintro σ H2 ⟨y6, es, c3, rfl, s2, hp2, he⟩
          exact ⟨_, _, _, _, es, rfl, s2, hp2, by omega⟩
    walk_at "rd"
    refine r_ite (fun c => ?_) (fun c => ?_)
    · walk_at "rd"
      exact key _
    · walk_at "rd"
      exact key _
  · rintro σ H1 ⟨x4, x5, x6, x7, ds, rfl, s1, hp, hd⟩
    walk_at "rd"
    exact q p ds H1 np s1 hp (by omega)
theorem mk_law_draw {f : Addr} {fd : FuncData} (T : Txt mg) (F : Fun K "_law_draw" "_law_draw" s_law_draw f fd) (m : mg "_law_draw" = some (.ref f)) (b : Binds K fd ["box", "many"] []) :
    Cal P w K mg base "_law_draw" 1 f fd ["box", "many"] (spB (fun bx (i : Int × Unit) => drawF bx i.1)) := by
  refine ⟨F.ok sc_law_draw (fun vs H Q E h => ?_) (fun cdv A outer s H vs Q E hr h => ?_), m, F.kp, b⟩
  · obtain ⟨ms, b, us, bx0, bx', ⟨i, ⟨⟩⟩, r, rfl, _, _, _, ⟨v, _, rfl, f1, e0⟩, _⟩ := h
    cases e0
    rfl
  obtain ⟨ms, b, us, ⟨ds, k⟩, ⟨ds', k'⟩, ⟨i, ⟨⟩⟩, r, rfl, hbm, al, ⟨d, hb, nd, ndm, hd⟩, ⟨v, _, rfl, f1, e0⟩, hm, Q⟩ := h
  cases e0
  obtain rfl : v = V.int i := f1
  have hm : drawF (ds, k) i = some (r, (ds', k')) := hm
  unfold drawF at hm
  split at hm
  case isFalse => cases hm
  rename_i hi
  obtain ⟨e1, e2⟩ := Prod.mk.inj (Option.some.inj hm)
  obtain ⟨e3, e4⟩ := Prod.mk.inj e2
  subst e1 e3 e4
  dsimp only at hb hd
  refine ⟨_, (pss_cons (ps_set (i := 2) sc_law_draw.nd rfl (Or.inl rfl) (pe_ix (show IxR _ (rIxL K) from ix_list) (pv 0) pe_int (fun _ _ => rfl))) (pss_cons (ps_asg (pe_op op_add (pv 2) pe_int) (pg_sub (pv 0) pe_int set_list)) (pss_cons (ps_if (pt_cmpR op_lt (pv 2) (pe_callB (show CallR _ _ (fun xs H Q => ∃ p ys, xs = [V.ref p] ∧ (SqL K H p ys ∨ SqT K H p ys) ∧ Q (.int ys.length) H) from call_len_seq) (by rfl) T.len PySem.boot_len (pa_cons (pe_ix (show IxR _ (rIxL K) from ix_list) (pv 0) pe_int (fun _ _ => rfl)) pa_nil)) (nomark _))
      (pss_one (ps_ret (pe_op op_mod (pe_callTy call_int1 (by rfl) T.int (by decide +kernel) (pa_cons (pe_ix (show IxR _ (rIxL K) from ix_list) (pe_ix (show IxR _ (rIxL K) from ix_list) (pv 0) pe_int (fun _ _ => rfl)) (pv 2) (fun _ _ => rfl)) pa_nil)) (pv 1))))
      pss_nil) (pss_one (ps_ret pe_int))))), ?_⟩
  try dsimp only [cxOf, Cx.nox, Cx.wish]
  rw [show start ["box", "many", "at"] [V.ref b, V.int i] = [some (V.ref b), some (V.int i), none] from rfl]
  walk_at "rd"
  refine r_setL hb (j := 1) rfl fun H1 hb1 u1 => ?_
  have hd1 := u1 _ _ nd hd
  have al1 := al.but u1 hb1
  have bu : Bu [b] H H1 := ⟨fun a o n e => u1 a o (fun z => n (by rw [z]; exact List.mem_cons_self)) e, fun a e => by
    by_cases q : a = b
    · rw [q, hb1]; exact fun z => by cases z
    · cases h' : H a with
      | none => exact absurd h' e
      | some o' => rw [u1 a o' q h']; exact fun z => by cases z⟩
  have hq1 : Bxs b (ds, k + 1) ms H1 := ⟨d, hb1, nd, ndm, hd1⟩
  refine r_seq ?_
  walk_at "rd"
  refine r_ite (fun c => ?_) (fun c => ?_)
  · rw [List.length_map] at c
    walk_at "rd"
    refine r_ixL (SqL.of hd1) (at_int (by omega) (by omega)) ?_
    walk_at "rd"
    refine Q _ _ bu hq1 ?_
    rw [if_pos (by dsimp only; omega)]
    rfl
  · walk_at "rd"
    refine Q _ _ bu hq1 ?_
    rw [List.length_map] at c
    rw [if_neg (by dsimp only; omega)]
    rfl
end
end Pf

namespace Pf
open PySem L2
local macro_rules | `(tactic| walk_at "rd1") => `(tactic| first
  | with_reducible refine r_seqA ?_
  | with_reducible refine r_seqD ?_
  | with_reducible refine r_seqF ?_
  | with_reducible refine r_seqN ?_
  | with_reducible refine r_asg ?_
  | with_reducible refine r_drop ?_
  | with_reducible refine r_ret ?_
  | with_reducible refine r_ifS ?_
  | ((with_reducible refine r_next ?_); try dsimp only)
  | ((with_reducible refine r_name ?_); try dsimp only [List.set_cons_succ, List.set_cons_zero, wipe])
  | ((with_reducible refine' r_var ?rdh ?_); (case rdh => rfl))
  | with_reducible refine r_c ?_
  | with_reducible refine r_op ?_
  | with_reducible refine r_un ?_
  | with_reducible refine r_I0 ?_
  | ((with_reducible refine r_I ?_ ?_); (· first | decide | exact Or.inl (by decide) | exact Or.inr (by decide) | (show _ ∧ _; constructor <;> decide) | (show (0:Int) < _; omega) | (show CDiv _ _; unfold CDiv; omega) ))
  | with_reducible refine r_U ?_
  | with_reducible refine r_eqI ?_
  | with_reducible refine r_neI ?_
  | with_reducible refine r_eqB ?_
  | with_reducible refine r_neB ?_
  | with_reducible refine r_test ?_
  | with_reducible refine r_B ?_
  | with_reducible refine r_bl ?_
  | with_reducible refine r_bl2 ?_
  | with_reducible refine r_yes ?_
  | with_reducible refine r_wipe (by rfl) ?_
  | with_reducible refine r_rfl ?_
  | ((with_reducible refine' r_eqA ?rdh ?_); (case rdh => rfl))
  | with_reducible refine r_and ?_
  | with_reducible refine r_or ?_
  | with_reducible refine r_not ?_
  | with_reducible refine r_andV ?_
  | with_reducible refine r_orV ?_
  | with_reducible refine r_notV ?_
  | with_reducible refine r_ifE ?_
  | with_reducible refine r_nil ?_
  | with_reducible refine r_cons ?_
  | with_reducible refine r_tup ?_
  | with_reducible refine r_lst ?_
  | with_reducible refine r_CB ?_
  | with_reducible refine r_call ?_
  | with_reducible refine r_bm ?_
  | with_reducible refine r_bm0 ?_
  | with_reducible refine r_int ?_
  | with_reducible refine r_i2 ?_
  | with_reducible refine r_i1 ?_
  | with_reducible refine r_gcons ?_
  | with_reducible refine r_gnil ?_
  | with_reducible refine r_gsub ?_
  | with_reducible refine iteT ?_
  | with_reducible refine iteF ?_
  | with_reducible refine ite_notT ?_
  | with_reducible refine ite_notF ?_
  | with_reducible refine r_isi_ib ?_
  | with_reducible refine r_isi_ii ?_
  | with_reducible refine r_isi_bb ?_
  | with_reducible refine r_isi_nb ?_
  | with_reducible refine r_isi_nt ?_
  | ((with_reducible refine' r_isi_ll ?rdh ?_); (case rdh => first | assumption | exact upd_same))
  | ((with_reducible refine' r_isi_tt ?rdh ?_); (case rdh => first | assumption | exact upd_same))
  | with_reducible refine r_sl ?_
  | with_reducible refine r_noPart ?_
  | with_reducible refine r_part ?_
  | with_reducible refine r_int1 ?_
  | with_reducible refine r_tru ?_
  | with_reducible refine r_ckw ?_
  | with_reducible refine r_lc ?_
  | with_reducible refine r_lc2 ?_
  | with_reducible refine r_forS ?_
  | with_reducible refine r_iR1 ?_
  | with_reducible refine r_iR2 ?_
  | with_reducible refine r_iL ?_
  | ((with_reducible refine' r_lenL ?rdh ?_); (case rdh => walk_at "sq"))
  | ((with_reducible refine' r_ixL ?rdh ?rda ?_); (case rdh => walk_at "sq"); (case rda => walk_at "at"))
  | ((with_reducible refine' r_ixT ?rdh ?rda ?_); (case rdh => walk_at "sq"); (case rda => walk_at "at")))
local macro_rules | `(tactic| walk_at "sq") => `(tactic| first
  | assumption
  | exact SqL.of (by assumption)
  | exact SqL.of upd_same
  | exact SqT.of (by assumption)
  | exact SqT.of upd_same)
local macro_rules | `(tactic| walk_at "sml") => `(tactic| (rw [sizeLine_eq]; simp))
local macro_rules | `(tactic| walk_at "at") => `(tactic| first | assumption | rfl)
local macro_rules | `(tactic| walk_at "rd") => `(tactic| repeat walk_at "rd1")
section
variable {w : World} {P : Program} {base : Heap} {K : PySem.W.Frag} {mg : Str → Option Value}
def law_piecesM (bx0 : List Int × Nat) (p_most : Int) : Option ((List (Int × Int)) × (List Int × Nat)) :=
  (rng1 (12 : Int)).bind fun rg_1 => (colL (fun (y_2 : Int) => some (some y_2)) rg_1).bind fun cs_3 => bnd (cs_3) fun left_4 => (rng1 (12 : Int)).bind fun rg_6 => (colL (fun (y_7 : Int) => some (some y_7)) rg_6).bind fun cs_8 => bnd (cs_8) fun other_9 => bnd (([] : List (Int × Int))) fun pairs_11 => (law_drawM bx0 (p_most + (1 : Int))).bind fun (t_13, bx_14) => (rng1 t_13).bind fun rg_15 => (fold (fun (y_23 : Int) (x : ((List Int) × (List Int) × (List (Int × Int)) × (List Int × Nat))) => match x with | (left_18, other_19, pairs_20, bx_21) => (law_drawM bx_21 (60 : Int)).bind fun (t_29, bx_30) => (modF t_29 (left_18.length : Int)).bind fun t_31 => (popF left_18 t_31).bind fun (a_33, left_32) => (law_drawM bx_30 (60 : Int)).bind fun (t_38, bx_39) => (modF t_38 (other_19.length : Int)).bind fun t_40 => (popF other_19 t_40).bind fun (b_42, other_41) => (law_drawM bx_39 (3 : Int)).bind fun (t_47, bx_48) => (if (decide ((0 : Int) < t_47)) = true then (if (decide ((0 : Int) < (pairs_20.length : Int))) = true then (atI pairs_20 (-1 : Int)).bind fun t_57 => (catF left_32 [a_33]).bind fun t_58 => (if (decide ((t_57.1 + (1 : Int)) ∈ t_58)) = true then (atI pairs_20 (-1 : Int)).bind fun t_68 => (catF other_41 [b_42]).bind fun t_69 => some (decide ((t_68.2 + (1 : Int)) ∈ t_69)) else some false).bind fun t_71 => some t_71 else some false).bind fun t_72 => some t_72 else some false).bind fun t_73 => (if t_73 = true then ((appF left_32 a_33).bind fun left_82 => (appF other_41 b_42).bind fun other_84 => (atI pairs_20 (-1 : Int)).bind fun t_89 => bnd ((t_89.1 + (1 : Int))) fun a_90 => (atI pairs_20 (-1 : Int)).bind fun t_96 => bnd ((t_96.2 + (1 : Int))) fun b_97 => (remF left_82 a_90).bind fun left_100 => (remF other_84 b_97).bind fun other_102 => some (left_100, other_102, a_90, b_97, bx_48)) else (some (left_32, other_41, a_33, b_42, bx_48))).bind fun (left_75, other_76, a_77, b_78, bx_79) => (appF pairs_20 (a_77, b_78)).bind fun pairs_104 => some (left_75, other_76, pairs_104, bx_79) : Int → ((List Int) × (List Int) × (List (Int × Int)) × (List Int × Nat)) → Option ((List Int) × (List Int) × (List (Int × Int)) × (List Int × Nat))) rg_15 (left_4, other_9, pairs_11, bx_14)).bind fun x => match x with | (left_18, other_19, pairs_20, bx_21) => some (pairs_20, bx_21)
theorem mk_law_pieces {f f1 : Addr} {fd fd1 : FuncData} (T : Txt mg) (F : Fun K "_law_pieces" "_law_pieces" s_law_pieces f fd) (m : mg "_law_pieces" = some (.ref f)) (b : Binds K fd ["box", "most"] [])
    (C_law_draw : Cal P w K mg base "_law_draw" 1 f1 fd1 ["box", "many"] (spB (fun bx (i : Int × Unit) => law_drawM bx i.1))) :
    Cal P w K mg base "_law_pieces" 2 f fd ["box", "most"] (spB (fun bx (i : Int × Unit) => law_piecesM bx i.1)) := by
  refine ⟨F.ok sc_law_pieces (fun vs H Q E h => ?_) (fun cdv A outer s H vs Q E hr h => ?_), m, F.kp, b⟩
  · obtain ⟨ms, b, us, bx0, bx', ⟨p_most, ⟨⟩⟩, r, rfl, _, _, _, ⟨v_p_most, _, rfl, f_p_most, e0⟩, _⟩ := h
    cases e0
    rfl
  obtain ⟨ms, b, us, bx0, bx', ⟨p_most, ⟨⟩⟩, r, rfl, hb, al, hq, ⟨v_p_most, _, rfl, f_p_most, e0⟩, hm, Q⟩ := h
  cases e0
  obtain rfl : v_p_most = V.int p_most := f_p_most
  refine ⟨_, (pss_cons (show PS _ _ (tAsg (tLc _ _ _ _ [3]) _) from ps_setLc (i := 2) (own := [("k", 3)]) (g := gName 3) (tt := tYes) rfl sc_law_pieces.nd rfl rfl (sw_true rfl rfl rfl (by decide +kernel)) (pi_range1 rfl T.range (pa_cons pe_int pa_nil)) (blkOk_by (own := [("k", 3)]) (N := ["box", "most", "left", "k", "other", "pairs", "a", "b"]) (sc := defScope s_law_pieces) (by decide +kernel)) (fun _ _ _ _ _ => (pg_name (i := 3) sc_law_pieces.nd rfl (Or.inl rfl))) (fun _ _ _ _ _ => pts_nil) (fun _ _ _ _ _ => (pv 3))) (pss_cons (show PS _ _ (tAsg (tLc _ _ _ _ [3]) _) from ps_setLc (i := 4) (own := [("k", 3)]) (g := gName 3) (tt := tYes) rfl sc_law_pieces.nd rfl rfl (sw_true rfl rfl rfl (by decide +kernel)) (pi_range1 rfl T.range (pa_cons pe_int pa_nil)) (blkOk_by (own := [("k", 3)]) (N := ["box", "most", "left", "k", "other", "pairs", "a", "b"]) (sc := defScope s_law_pieces) (by decide +kernel)) (fun _ _ _ _ _ => (pg_name (i := 3) sc_law_pieces.nd rfl (Or.inl rfl))) (fun _ _ _ _ _ => pts_nil) (fun _ _ _ _ _ => (pv 3))) (pss_cons (ps_set (i := 5) sc_law_pieces.nd rfl (Or.inl rfl) (pe_lst pa_nil)) (pss_cons (ps_for PassesOwn.never rfl (pi_range1 rfl T.range (pa_cons (pe_call C_law_draw.ok (hr.mono (by first | decide | omega)) rfl C_law_draw.mg C_law_draw.kp C_law_draw.b .nil pass0 (pa_cons (pv 0) (pa_cons (pe_op op_add (pv 1) pe_int) pa_nil))) pa_nil)) (pg_name (i := 3) sc_law_pieces.nd rfl (Or.inl rfl))
      (pss_cons (ps_set (i := 6) sc_law_pieces.nd rfl (Or.inl rfl) (pe_bm PySem.F.plainAttrs_list PySem.F.slot_list_pop PySem.F.type_list_pop mt_popAt (pv 2) (pa_cons (pe_op op_mod (pe_callTy call_int1 (by rfl) T.int (by decide +kernel) (pa_cons (pe_call C_law_draw.ok (hr.mono (by first | decide | omega)) rfl C_law_draw.mg C_law_draw.kp C_law_draw.b .nil pass0 (pa_cons (pv 0) (pa_cons pe_int pa_nil))) pa_nil)) (pe_callB (show CallR _ _ (fun xs H Q => ∃ p ys, xs = [V.ref p] ∧ (SqL K H p ys ∨ SqT K H p ys) ∧ Q (.int ys.length) H) from call_len_seq) (by rfl) T.len PySem.boot_len (pa_cons (pv 2) pa_nil))) pa_nil))) (pss_cons (ps_set (i := 7) sc_law_pieces.nd rfl (Or.inl rfl) (pe_bm PySem.F.plainAttrs_list PySem.F.slot_list_pop PySem.F.type_list_pop mt_popAt (pv 4) (pa_cons (pe_op op_mod (pe_callTy call_int1 (by rfl) T.int (by decide +kernel) (pa_cons (pe_call C_law_draw.ok (hr.mono (by first | decide | omega)) rfl C_law_draw.mg C_law_draw.kp C_law_draw.b .nil pass0 (pa_cons (pv 0) (pa_cons pe_int pa_nil))) pa_nil)) (pe_callB (show CallR _ _ (fun xs H Q => ∃ p ys, xs = [V.ref p] ∧ (SqL K H p ys ∨ SqT K H p ys) ∧ Q (.int ys.length) H) from call_len_seq) (by rfl) T.len PySem.boot_len (pa_cons (pv 4) pa_nil))) pa_nil))) (pss_cons (ps_if (PW.pt (pw_and (pt_cmpR op_gt (pe_call C_law_draw.ok (hr.mono (by first | decide | omega)) rfl C_law_draw.mg C_law_draw.kp C_law_draw.b .nil pass0 (pa_cons (pv 0) (pa_cons pe_int pa_nil))) pe_int (nomark _)) (pw_and (pt_cmpR op_gt (pe_callB (show CallR _ _ (fun xs H Q => ∃ p ys, xs = [V.ref p] ∧ (SqL K H p ys ∨ SqT K H p ys) ∧ Q (.int ys.length) H) from call_len_seq) (by rfl) T.len PySem.boot_len (pa_cons (pv 5) pa_nil)) pe_int (nomark _)) (pw_and (pt_cmpR (show OpR _ _ (rIn K false) from op_in_seq) (pe_op op_add (pe_ix (show IxR _ (rIxT K) from ix_tup) (pe_ix (show IxR _ (rIxL K) from ix_list) (pv 5) (pe_un un_neg pe_int) (fun _ _ => rfl)) pe_int (fun _ _ => rfl)) pe_int) (pe_op op_cat (pv 2) (pe_lst (pa_cons (pv 6) pa_nil))) (by rfl)) (pw_and1 (pt_cmpR (show OpR _ _ (rIn K false) from op_in_seq) (pe_op op_add (pe_ix (show IxR _ (rIxT K) from ix_tup) (pe_ix (show IxR _ (rIxL K) from ix_list) (pv 5) (pe_un un_neg pe_int) (fun _ _ => rfl)) pe_int (fun _ _ => rfl)) pe_int) (pe_op op_cat (pv 4) (pe_lst (pa_cons (pv 7) pa_nil))) (by rfl)))))))
      (pss_cons (ps_expr (pe_bm PySem.F.plainAttrs_list PySem.F.slot_list_append PySem.F.type_list_append mt_append (pv 2) (pa_cons (pv 6) pa_nil))) (pss_cons (ps_expr (pe_bm PySem.F.plainAttrs_list PySem.F.slot_list_append PySem.F.type_list_append mt_append (pv 4) (pa_cons (pv 7) pa_nil))) (pss_cons (ps_set (i := 6) sc_law_pieces.nd rfl (Or.inl rfl) (pe_op op_add (pe_ix (show IxR _ (rIxT K) from ix_tup) (pe_ix (show IxR _ (rIxL K) from ix_list) (pv 5) (pe_un un_neg pe_int) (fun _ _ => rfl)) pe_int (fun _ _ => rfl)) pe_int)) (pss_cons (ps_set (i := 7) sc_law_pieces.nd rfl (Or.inl rfl) (pe_op op_add (pe_ix (show IxR _ (rIxT K) from ix_tup) (pe_ix (show IxR _ (rIxL K) from ix_list) (pv 5) (pe_un un_neg pe_int) (fun _ _ => rfl)) pe_int (fun _ _ => rfl)) pe_int)) (pss_cons (ps_expr (pe_bm PySem.F.plainAttrs_list PySem.F.slot_list_remove PySem.F.type_list_remove mt_remove (pv 2) (pa_cons (pv 6) pa_nil))) (pss_one (ps_expr (pe_bm PySem.F.plainAttrs_list PySem.F.slot_list_remove PySem.F.type_list_remove mt_remove (pv 4) (pa_cons (pv 7) pa_nil)))))))))
      pss_nil) (pss_one (ps_expr (pe_bm PySem.F.plainAttrs_list PySem.F.slot_list_append PySem.F.type_list_append mt_append (pv 5) (pa_cons (pe_tup (pa_cons (pv 6) (pa_cons (pv 7) pa_nil))) pa_nil)))))))) (pss_one (ps_ret (pv 5))))))), ?_⟩
  try dsimp only [cxOf, Cx.nox, Cx.wish]
  rw [show start ["box", "most", "left", "k", "other", "pairs", "a", "b"] [V.ref b, V.int p_most] = [some (V.ref b), some (V.int p_most), none, none, none, none, none, none] from rfl]
  have hB0 : ∀ a ∈ [b], a ∈ ms := fun a h => by rw [List.mem_singleton.mp h]; exact hb
  have W : Wd [b] ms H := ⟨hB0, al⟩
  have hm : law_piecesM bx0 p_most = some (r, bx') := hm
  have u : Bu [b] H H := Bu.refl _ H
  unfold law_piecesM at hm
  obtain ⟨rg_1, e_rg_1, hm⟩ := bind_inv hm
  obtain ⟨cs_3, e_cs_3, hm⟩ := bind_inv hm
  obtain ⟨left_4, e_left_4, hm⟩ := bnd_inv hm
  refine r_seqA ?_
  refine En.mk W (en_lcL (f := fun (y_2 : Int) => some (some y_2)) W sb_bxs (Ei.ej (ei_rng1 (ea_cons W (ex_int 12) ea_nil) e_rg_1)) e_cs_3 (fun ms' H' y_2 v r' L hq' rv hm => by
          have W := L.W
          obtain rfl : v = V.int y_2 := rv
          cases hm
          exact ⟨_, bnd_name, rfl, true, et_yes, fun h => (by cases h), fun _ => ⟨_, rfl, (ex_vi rfl)⟩⟩)) hq fun aleft_4 H_5 bb na hq' W' M l_aleft_4 => ?_
  rw [← e_left_4] at l_aleft_4
  have o_aleft_4 := W.al.not na
  have n_aleft_4 : aleft_4 ∉ [b] := fun z => W.al.not na (W.hB _ z)
  have m_aleft_4 : aleft_4 ∈ aleft_4 :: ms := List.mem_cons_self
  have h_aleft_4 := u.none na
  have u := u.trans bb
  have W := W'
  have hq := hq'
  refine r_name ?_
  dsimp only [List.set_cons_succ, List.set_cons_zero]
  obtain ⟨rg_6, e_rg_6, hm⟩ := bind_inv hm
  obtain ⟨cs_8, e_cs_8, hm⟩ := bind_inv hm
  obtain ⟨other_9, e_other_9, hm⟩ := bnd_inv hm
  refine r_seqA ?_
  refine En.mk W (en_lcL (f := fun (y_7 : Int) => some (some y_7)) W sb_bxs (Ei.ej (ei_rng1 (ea_cons W (ex_int 12) ea_nil) e_rg_6)) e_cs_8 (fun ms' H' y_7 v r' L hq' rv hm => by
          have W := L.W
          have l_aleft_4 := l_aleft_4.lt n_aleft_4 L
          obtain rfl : v = V.int y_7 := rv
          cases hm
          exact ⟨_, bnd_name, rfl, true, et_yes, fun h => (by cases h), fun _ => ⟨_, rfl, (ex_vi rfl)⟩⟩)) hq fun aother_9 H_10 bb na hq' W' M l_aother_9 => ?_
  rw [← e_other_9] at l_aother_9
  have ne_aleft_4_aother_9 := l_aleft_4.ne na
  have ne_aother_9_aleft_4 := ne_aleft_4_aother_9.symm
  have m_aleft_4 := List.mem_cons_of_mem aother_9 m_aleft_4
  have o_aother_9 := not_less (W.al.not na) (fun _ h => List.mem_cons_of_mem _ (h))
  have n_aother_9 : aother_9 ∉ [b] := fun z => W.al.not na (W.hB _ z)
  have m_aother_9 : aother_9 ∈ aother_9 :: aleft_4 :: ms := List.mem_cons_self
  have h_aother_9 := u.none na
  have l_aleft_4 := l_aleft_4.step M fun o e => bb.1 _ o n_aleft_4 e
  have u := u.trans bb
  have W := W'
  have hq := hq'
  refine r_name ?_
  dsimp only [List.set_cons_succ, List.set_cons_zero]
  obtain ⟨pairs_11, e_pairs_11, hm⟩ := bnd_inv hm
  refine r_seqA ?_
  refine En.mk W (en_lst (xs := ([] : List (Int × Int))) W sb_bxs (by simp) es_nil) hq fun apairs_11 H_12 bb na hq' W' M l_apairs_11 => ?_
  rw [← e_pairs_11] at l_apairs_11
  have ne_aother_9_apairs_11 := l_aother_9.ne na
  have ne_apairs_11_aother_9 := ne_aother_9_apairs_11.symm
  have m_aother_9 := List.mem_cons_of_mem apairs_11 m_aother_9
  have ne_aleft_4_apairs_11 := l_aleft_4.ne na
  have ne_apairs_11_aleft_4 := ne_aleft_4_apairs_11.symm
  have m_aleft_4 := List.mem_cons_of_mem apairs_11 m_aleft_4
  have o_apairs_11 := not_less (W.al.not na) (fun _ h => List.mem_cons_of_mem _ (List.mem_cons_of_mem _ (h)))
  have n_apairs_11 : apairs_11 ∉ [b] := fun z => W.al.not na (W.hB _ z)
  have m_apairs_11 : apairs_11 ∈ apairs_11 :: aother_9 :: aleft_4 :: ms := List.mem_cons_self
  have h_apairs_11 := u.none na
  have l_aleft_4 := l_aleft_4.step M fun o e => bb.1 _ o n_aleft_4 e
  have l_aother_9 := l_aother_9.step M fun o e => bb.1 _ o n_aother_9 e
  have u := u.trans bb
  have W := W'
  have hq := hq'
  refine r_name ?_
  dsimp only [List.set_cons_succ, List.set_cons_zero]
  obtain ⟨⟨t_13, bx_14⟩, e_t_13, hm⟩ := bind_inv hm
  dsimp only at hm
  obtain ⟨rg_15, e_rg_15, hm⟩ := bind_inv hm
  refine r_seqF' ?_
  refine r_for W (ei_rng1 (ea_cons W (ex_callB (i := ((p_most + (1 : Int)), ())) W (v := 0) rfl (ea_cons W (ex_opI0 (z := (p_most + (1 : Int))) (fun _ _ => rfl) (ex_vi rfl) (ex_int 1)) ea_nil) e_t_13) ea_nil) e_rg_15) hq fun J N_17 H_16 bb hq W M st_nN_17 nN_17 ok_N_17 => ?_
  have l_aleft_4 := l_aleft_4.step M fun o e => bb.1 _ o n_aleft_4 e
  have l_aother_9 := l_aother_9.step M fun o e => bb.1 _ o n_aother_9 e
  have l_apairs_11 := l_apairs_11.step M fun o e => bb.1 _ o n_apairs_11 e
  have u := u.trans bb
  obtain ⟨out_24, e_out_24, hm⟩ := bind_inv hm
  have hgoN_17 := hm
  clear hm
  refine wk_fold (ms := apairs_11 :: aother_9 :: aleft_4 :: ms) ok_N_17 e_out_24 (fun x σ H' => match x with | (left_18, other_19, pairs_20, bx_21) => ∃ (xl_k : Option V), ∃ (xl_a : Option V), ∃ (xl_b : Option V), σ = [some (.ref b), some (.int p_most), some (.ref aleft_4), xl_k, some (.ref aother_9), some (.ref apairs_11), xl_a, xl_b] ∧ Bu [b] H H' ∧ (Bxs b bx_21) (apairs_11 :: aother_9 :: aleft_4 :: ms) H' ∧ Wd [b] (apairs_11 :: aother_9 :: aleft_4 :: ms) H' ∧ N_17 (apairs_11 :: aother_9 :: aleft_4 :: ms) H' ∧ Ls (apairs_11 :: aother_9 :: aleft_4 :: ms) H' aleft_4 left_18 ∧ Ls (apairs_11 :: aother_9 :: aleft_4 :: ms) H' aother_9 other_19 ∧ Ls (apairs_11 :: aother_9 :: aleft_4 :: ms) H' apairs_11 pairs_20) ⟨_, _, _, rfl, u, hq, W, nN_17, l_aleft_4, l_aother_9, l_apairs_11⟩ ?_ ?_ ?_
  · intro x σ H' hI
    obtain ⟨left_18, other_19, pairs_20, bx_21⟩ := x
    try dsimp only at hI
    obtain ⟨xl_k, xl_a, xl_b, rfl, u, hq, W, nN_17, l_aleft_4, l_aother_9, l_apairs_11⟩ := hI
    exact ⟨nN_17, W.al⟩
  · intro y_23 v x x' σ H_25 H_26 hI s1 rv hf
    obtain ⟨left_18, other_19, pairs_20, bx_21⟩ := x
    try dsimp only at hI
    obtain ⟨xl_k, xl_a, xl_b, rfl, u, hq, W, nN_17, l_aleft_4, l_aother_9, l_apairs_11⟩ := hI
    have hm := hf
    try dsimp only at hm
    have bb : Bu [b] H_25 H_26 := Bu.same s1
    have M : Mv (apairs_11 :: aother_9 :: aleft_4 :: ms) H_25 (apairs_11 :: aother_9 :: aleft_4 :: ms) H_26 := Mv.same s1
    have hq := sb_bxs.same s1 hq
    have W := W.bu bb
    have l_aleft_4 := l_aleft_4.step M fun o e => bb.1 _ o n_aleft_4 e
    have l_aother_9 := l_aother_9.step M fun o e => bb.1 _ o n_aother_9 e
    have l_apairs_11 := l_apairs_11.step M fun o e => bb.1 _ o n_apairs_11 e
    have nN_17 := st_nN_17.mv nN_17 M
    have u := u.trans bb
    obtain rfl : v = V.int y_23 := rv
    refine (bnd_name : Bnd _ _ _ _ _) _ ?_
    dsimp only [List.set_cons_succ, List.set_cons_zero]
    obtain ⟨⟨t_29, bx_30⟩, e_t_29, hm⟩ := bind_inv hm
    dsimp only at hm
    obtain ⟨t_31, e_t_31, hm⟩ := bind_inv hm
    obtain ⟨⟨a_33, left_32⟩, e_a_33, hm⟩ := bind_inv hm
    dsimp only at hm
    refine r_seqA ?_
    refine s_pop rfl W rfl l_aleft_4 m_aleft_4 n_aleft_4 sb_bxs (ea_cons W (ex_opI (z := t_31) (modF_ok e_t_31).1 (fun _ _ => by rw [(modF_ok e_t_31).2]; rfl) (ex_intI (ea_cons W (ex_callB (i := ((60 : Int), ())) W (v := 0) rfl (ea_cons W (ex_int 60) ea_nil) e_t_29) ea_nil)) (ex_len (el_var W rfl n_aleft_4 l_aleft_4))) ea_nil) hq e_a_33 fun v_35 H_34 bb hq W M l_aleft_4 rv => ?_
    have l_aother_9 := l_aother_9.step M fun o e => bb.1 _ o (nin ne_aother_9_aleft_4 n_aother_9) e
    have l_apairs_11 := l_apairs_11.step M fun o e => bb.1 _ o (nin ne_apairs_11_aleft_4 n_apairs_11) e
    have nN_17 := st_nN_17.mv nN_17 M
    have u := u.own2 h_aleft_4 bb
    obtain rfl : v_35 = V.int a_33 := rv
    refine (bnd_name : Bnd _ _ _ _ _) _ ?_
    dsimp only [List.set_cons_succ, List.set_cons_zero]
    obtain ⟨⟨t_38, bx_39⟩, e_t_38, hm⟩ := bind_inv hm
    dsimp only at hm
    obtain ⟨t_40, e_t_40, hm⟩ := bind_inv hm
    obtain ⟨⟨b_42, other_41⟩, e_b_42, hm⟩ := bind_inv hm
    dsimp only at hm
    refine r_seqA ?_
    refine s_pop rfl W rfl l_aother_9 m_aother_9 n_aother_9 sb_bxs (ea_cons W (ex_opI (z := t_40) (modF_ok e_t_40).1 (fun _ _ => by rw [(modF_ok e_t_40).2]; rfl) (ex_intI (ea_cons W (ex_callB (i := ((60 : Int), ())) W (v := 0) rfl (ea_cons W (ex_int 60) ea_nil) e_t_38) ea_nil)) (ex_len (el_var W rfl n_aother_9 l_aother_9))) ea_nil) hq e_b_42 fun v_44 H_43 bb hq W M l_aother_9 rv => ?_
    have l_aleft_4 := l_aleft_4.step M fun o e => bb.1 _ o (nin ne_aleft_4_aother_9 n_aleft_4) e
    have l_apairs_11 := l_apairs_11.step M fun o e => bb.1 _ o (nin ne_apairs_11_aother_9 n_apairs_11) e
    have nN_17 := st_nN_17.mv nN_17 M
    have u := u.own2 h_aother_9 bb
    obtain rfl : v_44 = V.int b_42 := rv
    refine (bnd_name : Bnd _ _ _ _ _) _ ?_
    dsimp only [List.set_cons_succ, List.set_cons_zero]
    obtain ⟨⟨t_47, bx_48⟩, e_t_47, hm⟩ := bind_inv hm
    dsimp only at hm
    obtain ⟨t_73, e_t_73, hm⟩ := bind_inv hm
    obtain ⟨j_81, e_j_81, hm⟩ := bind_inv hm
    obtain ⟨left_75, other_76, a_77, b_78, bx_79⟩ := j_81
    try dsimp only at hm
    refine r_seqG fun R hR => ?_
    have key : ∀ H_80, Bu [b] H H_80 → (Bxs b bx_79) (apairs_11 :: aother_9 :: aleft_4 :: ms) H_80 → Wd [b] (apairs_11 :: aother_9 :: aleft_4 :: ms) H_80 → N_17 (apairs_11 :: aother_9 :: aleft_4 :: ms) H_80 → Ls (apairs_11 :: aother_9 :: aleft_4 :: ms) H_80 aleft_4 left_75 → Ls (apairs_11 :: aother_9 :: aleft_4 :: ms) H_80 aother_9 other_76 → Ls (apairs_11 :: aother_9 :: aleft_4 :: ms) H_80 apairs_11 pairs_20 → R [some (.ref b), some (.int p_most), some (.ref aleft_4), some (.int y_23), some (.ref aother_9), some (.ref apairs_11), some (.int a_77), some (.int b_78)] H_80 := by
      intro H_80 u hq W nN_17 l_aleft_4 l_aother_9 l_apairs_11
      refine hR _ _ ?_
      obtain ⟨pairs_104, e_pairs_104, hm⟩ := bind_inv hm
      refine r_drop ?_
      refine s_app rfl W rfl l_apairs_11 m_apairs_11 n_apairs_11 sb_bxs (ea_cons W (ex_tup2 W sb_bxs (u := (a_77, b_78)) (ea_cons W (ex_vi rfl) (ea_cons W (ex_vi rfl) ea_nil))) ea_nil) hq e_pairs_104 fun H_105 bb hq W M l_apairs_11 => ?_
      have l_aleft_4 := l_aleft_4.step M fun o e => bb.1 _ o (nin ne_aleft_4_apairs_11 n_aleft_4) e
      have l_aother_9 := l_aother_9.step M fun o e => bb.1 _ o (nin ne_aother_9_apairs_11 n_aother_9) e
      have nN_17 := st_nN_17.mv nN_17 M
      have u := u.own2 h_apairs_11 bb
      try dsimp only
      try dsimp only
      cases hm
      exact ⟨_, _, _, rfl, u, hq, W, nN_17, l_aleft_4, l_aother_9, l_apairs_11⟩
    clear hR
    have hm := e_j_81
    refine r_ifS ?_
    refine Et.go W (et_and (d := t_73) (et_test (ex_opI0 (z := (decide ((0 : Int) < t_47))) (fun _ _ => rfl) (ex_callB (i := ((3 : Int), ())) W (v := 0) rfl (ea_cons W (ex_int 3) ea_nil) e_t_47) (ex_int 0))) (fun c => by
            have hm := (if_pos c).symm.trans e_t_73
            obtain ⟨t_72, e_t_72, hm⟩ := bind_inv hm
            rw [← Option.some.inj hm]
            exact (et_and (d := t_72) (et_test (ex_opI0 (z := (decide ((0 : Int) < (pairs_20.length : Int)))) (fun _ _ => rfl) (ex_len (el_var W rfl n_apairs_11 l_apairs_11)) (ex_int 0))) (fun c => by
            have hm := (if_pos c).symm.trans e_t_72
            obtain ⟨t_57, e_t_57, hm⟩ := bind_inv hm
            obtain ⟨t_58, e_t_58, hm⟩ := bind_inv hm
            obtain ⟨t_71, e_t_71, hm⟩ := bind_inv hm
            rw [← Option.some.inj hm]
            exact (et_and (d := t_71) (et_test (ex_in W (ex_opI0 (z := (t_57.1 + (1 : Int))) (fun _ _ => rfl) (ex_fst (u := t_57) (ex_ixL (el_var W rfl n_apairs_11 l_apairs_11) (ex_opU (z := (-1 : Int)) (fun _ _ => rfl) (ex_int 1)) W e_t_57)) (ex_int 1)) (el_of W.hB (En.ex sb_bxs (en_cat W sb_bxs (el_var W rfl n_aleft_4 l_aleft_4) (el_of W.hB (En.ex sb_bxs (en_lst (xs := [a_33]) W sb_bxs (by simp) (es_cons W (ex_vi rfl) es_nil)))) e_t_58))))) (fun c => by
            have hm := (if_pos c).symm.trans e_t_71
            obtain ⟨t_68, e_t_68, hm⟩ := bind_inv hm
            obtain ⟨t_69, e_t_69, hm⟩ := bind_inv hm
            rw [← Option.some.inj hm]
            exact (et_test (ex_in W (ex_opI0 (z := (t_68.2 + (1 : Int))) (fun _ _ => rfl) (ex_snd (u := t_68) (ex_ixL (el_var W rfl n_apairs_11 l_apairs_11) (ex_opU (z := (-1 : Int)) (fun _ _ => rfl) (ex_int 1)) W e_t_68)) (ex_int 1)) (el_of W.hB (En.ex sb_bxs (en_cat W sb_bxs (el_var W rfl n_aother_9 l_aother_9) (el_of W.hB (En.ex sb_bxs (en_lst (xs := [b_42]) W sb_bxs (by simp) (es_cons W (ex_vi rfl) es_nil)))) e_t_69))))))
            (fun c => by
            have hm := (if_neg (by rw [c]; decide)).symm.trans e_t_71
            cases hm
            exact ⟨rfl, fun _ h => h⟩)))
            (fun c => by
            have hm := (if_neg (by rw [c]; decide)).symm.trans e_t_72
            cases hm
            exact ⟨rfl, fun _ h => h⟩)))
            (fun c => by
            have hm := (if_neg (by rw [c]; decide)).symm.trans e_t_73
            cases hm
            exact ⟨rfl, fun _ h => h⟩)) hq fun H_74 bb hq W M => ?_
    have l_aleft_4 := l_aleft_4.step M fun o e => bb.1 _ o n_aleft_4 e
    have l_aother_9 := l_aother_9.step M fun o e => bb.1 _ o n_aother_9 e
    have l_apairs_11 := l_apairs_11.step M fun o e => bb.1 _ o n_apairs_11 e
    have nN_17 := st_nN_17.mv nN_17 M
    have u := u.trans bb
    refine ite_by (fun hc => ?_) (fun hc => ?_)
    · have hm := (if_pos hc).symm.trans hm
      obtain ⟨left_82, e_left_82, hm⟩ := bind_inv hm
      refine r_seqD ?_
      refine s_app rfl W rfl l_aleft_4 m_aleft_4 n_aleft_4 sb_bxs (ea_cons W (ex_vi rfl) ea_nil) hq e_left_82 fun H_83 bb hq W M l_aleft_4 => ?_
      have l_aother_9 := l_aother_9.step M fun o e => bb.1 _ o (nin ne_aother_9_aleft_4 n_aother_9) e
      have l_apairs_11 := l_apairs_11.step M fun o e => bb.1 _ o (nin ne_apairs_11_aleft_4 n_apairs_11) e
      have nN_17 := st_nN_17.mv nN_17 M
      have u := u.own2 h_aleft_4 bb
      obtain ⟨other_84, e_other_84, hm⟩ := bind_inv hm
      refine r_seqD ?_
      refine s_app rfl W rfl l_aother_9 m_aother_9 n_aother_9 sb_bxs (ea_cons W (ex_vi rfl) ea_nil) hq e_other_84 fun H_85 bb hq W M l_aother_9 => ?_
      have l_aleft_4 := l_aleft_4.step M fun o e => bb.1 _ o (nin ne_aleft_4_aother_9 n_aleft_4) e
      have l_apairs_11 := l_apairs_11.step M fun o e => bb.1 _ o (nin ne_apairs_11_aother_9 n_apairs_11) e
      have nN_17 := st_nN_17.mv nN_17 M
      have u := u.own2 h_aother_9 bb
      obtain ⟨t_89, e_t_89, hm⟩ := bind_inv hm
      obtain ⟨a_90, e_a_90, hm⟩ := bnd_inv hm
      refine r_seqA ?_
      refine Ex.go W (ex_opI0 (z := (t_89.1 + (1 : Int))) (fun _ _ => rfl) (ex_fst (u := t_89) (ex_ixL (el_var W rfl n_apairs_11 l_apairs_11) (ex_opU (z := (-1 : Int)) (fun _ _ => rfl) (ex_int 1)) W e_t_89)) (ex_int 1)) hq fun v_92 H_91 bb hq W M rv => ?_
      rw [← e_a_90] at rv
      have l_aleft_4 := l_aleft_4.step M fun o e => bb.1 _ o n_aleft_4 e
      have l_aother_9 := l_aother_9.step M fun o e => bb.1 _ o n_aother_9 e
      have l_apairs_11 := l_apairs_11.step M fun o e => bb.1 _ o n_apairs_11 e
      have nN_17 := st_nN_17.mv nN_17 M
      have u := u.trans bb
      obtain rfl : v_92 = V.int a_90 := rv
      refine (bnd_name : Bnd _ _ _ _ _) _ ?_
      dsimp only [List.set_cons_succ, List.set_cons_zero]
      obtain ⟨t_96, e_t_96, hm⟩ := bind_inv hm
      obtain ⟨b_97, e_b_97, hm⟩ := bnd_inv hm
      refine r_seqA ?_
      refine Ex.go W (ex_opI0 (z := (t_96.2 + (1 : Int))) (fun _ _ => rfl) (ex_snd (u := t_96) (ex_ixL (el_var W rfl n_apairs_11 l_apairs_11) (ex_opU (z := (-1 : Int)) (fun _ _ => rfl) (ex_int 1)) W e_t_96)) (ex_int 1)) hq fun v_99 H_98 bb hq W M rv => ?_
      rw [← e_b_97] at rv
      have l_aleft_4 := l_aleft_4.step M fun o e => bb.1 _ o n_aleft_4 e
      have l_aother_9 := l_aother_9.step M fun o e => bb.1 _ o n_aother_9 e
      have l_apairs_11 := l_apairs_11.step M fun o e => bb.1 _ o n_apairs_11 e
      have nN_17 := st_nN_17.mv nN_17 M
      have u := u.trans bb
      obtain rfl : v_99 = V.int b_97 := rv
      refine (bnd_name : Bnd _ _ _ _ _) _ ?_
      dsimp only [List.set_cons_succ, List.set_cons_zero]
      obtain ⟨left_100, e_left_100, hm⟩ := bind_inv hm
      refine r_seqD ?_
      refine s_rem rfl W rfl l_aleft_4 m_aleft_4 n_aleft_4 sb_bxs (ea_cons W (ex_vi rfl) ea_nil) hq e_left_100 fun H_101 bb hq W M l_aleft_4 => ?_
      have l_aother_9 := l_aother_9.step M fun o e => bb.1 _ o (nin ne_aother_9_aleft_4 n_aother_9) e
      have l_apairs_11 := l_apairs_11.step M fun o e => bb.1 _ o (nin ne_apairs_11_aleft_4 n_apairs_11) e
      have nN_17 := st_nN_17.mv nN_17 M
      have u := u.own2 h_aleft_4 bb
      obtain ⟨other_102, e_other_102, hm⟩ := bind_inv hm
      refine r_drop ?_
      refine s_rem rfl W rfl l_aother_9 m_aother_9 n_aother_9 sb_bxs (ea_cons W (ex_vi rfl) ea_nil) hq e_other_102 fun H_103 bb hq W M l_aother_9 => ?_
      have l_aleft_4 := l_aleft_4.step M fun o e => bb.1 _ o (nin ne_aleft_4_aother_9 n_aleft_4) e
      have l_apairs_11 := l_apairs_11.step M fun o e => bb.1 _ o (nin ne_apairs_11_aother_9 n_apairs_11) e
      have nN_17 := st_nN_17.mv nN_17 M
      have u := u.own2 h_aother_9 bb
      try dsimp only
      try dsimp only
      cases hm
      exact key _ u hq W nN_17 l_aleft_4 l_aother_9 l_apairs_11
    · have hm := (if_neg hc).symm.trans hm
      refine r_next ?_
      try dsimp only
      cases hm
      exact key _ u hq W nN_17 l_aleft_4 l_aother_9 l_apairs_11
  · intro σ H_22 hI
    obtain ⟨left_18, other_19, pairs_20, bx_21⟩ := out_24
    try dsimp only at hI
    obtain ⟨xl_k, xl_a, xl_b, rfl, u, hq, W, nN_17, l_aleft_4, l_aother_9, l_apairs_11⟩ := hI
    have hm := hgoN_17
    try dsimp only at hm
    try dsimp only
    have sub : ∀ a ∈ aother_9 :: aleft_4 :: ms, a ∈ apairs_11 :: aother_9 :: aleft_4 :: ms := ((.cons _ (.cons_cons _ (.cons_cons _ (.refl _)))) : List.Sublist (aother_9 :: aleft_4 :: ms) (apairs_11 :: aother_9 :: aleft_4 :: ms)).subset
    have M : Mv (apairs_11 :: aother_9 :: aleft_4 :: ms) H_22 (aother_9 :: aleft_4 :: ms) H_22 := Mv.less sub
    have hq := sb_bxs _ _ _ _ hq M fun _ _ _ e => e
    have W : Wd [b] (aother_9 :: aleft_4 :: ms) H_22 := ⟨fun a h => List.mem_cons_of_mem _ (List.mem_cons_of_mem _ (hB0 a h)), W.al.less sub⟩
    have l_aleft_4 := l_aleft_4.less sub
    have l_aother_9 := l_aother_9.less sub
    have f_pairs_20 : Rp.rp (aother_9 :: aleft_4 :: ms) H_22 (.ref apairs_11) pairs_20 := ⟨apairs_11, rfl, (nin ne_apairs_11_aother_9 (nin ne_apairs_11_aleft_4 o_apairs_11)), l_apairs_11.less sub⟩
    have m_aother_9 : aother_9 ∈ aother_9 :: aleft_4 :: ms := List.mem_cons_self
    have m_aleft_4 : aleft_4 ∈ aother_9 :: aleft_4 :: ms := List.mem_cons_of_mem _ (List.mem_cons_self)
    obtain ⟨hm1, hm2⟩ := Prod.mk.inj (Option.some.inj hm)
    subst hm1
    subst hm2
    refine r_ret' ?_
    refine Ex.go W (ex_var W rfl f_pairs_20) hq fun v H_106 bb hq W M rv => ?_
    exact Q v _ (u.trans bb) (sb_bxs _ _ _ _ hq (Mv.less (fun _ h => List.mem_cons_of_mem _ (List.mem_cons_of_mem _ (h)))) fun _ _ _ e => e) (Rp.mv rv (Mv.less (fun _ h => List.mem_cons_of_mem _ (List.mem_cons_of_mem _ (h)))))
/-- pairs of addresses from 0 to 11, sources and targets different -/
structure PsOk (ps : List (Int × Int)) : Prop where
  src : Uniq ps
  tgt : Uniq (swpF ps)
  rng : ∀ p ∈ ps, 0 ≤ p.1 ∧ p.1 < 12 ∧ 0 ≤ p.2 ∧ p.2 < 12
theorem law_piecesM_ok (bx : List Int × Nat) {m : Int} (h0 : 0 ≤ m) (h1 : m ≤ 8) : ∃ ps bx', law_piecesM bx m = some (ps, bx') ∧ PsOk ps ∧ ps.length ≤ 8 := by
  unfold law_piecesM
  simp only [bnd, rng1_ok (j := (12 : Int)) (by decide), Option.bind_some]
  rw [colL_id (by decide)]
  simp only [Option.bind_some]
  obtain ⟨r, n, e, p1, p2⟩ := drawF_ok (bx := bx) (m := m + 1) (by omega)
  simp only [e, Option.bind_some, rng1_ok (j := r) (by omega)]
  generalize hF : fold _ _ _ = z
  have key : ∃ out, z = some out ∧ (out.1 ++ out.2.2.1.map (·.1)).Perm (rngL 0 12) ∧ (out.2.1 ++ out.2.2.1.map (·.2)).Perm (rngL 0 12) ∧ out.2.2.1.length = (rngL 0 r.toNat).length := by
    rw [← hF]
    refine fold_ex (fun i (x : List Int × List Int × List (Int × Int) × (List Int × Nat)) => (x.1 ++ x.2.2.1.map (·.1)).Perm (rngL 0 12) ∧ (x.2.1 ++ x.2.2.1.map (·.2)).Perm (rngL 0 12) ∧ x.2.2.1.length = i) ⟨by simp, by simp, rfl⟩ ?_
    rintro i a ⟨lf, ot, ps, bx1⟩ ha ⟨hl, ho, hi⟩
    dsimp only at hl ho hi
    have hr := (List.getElem?_eq_some_iff.mp ha).1
    rw [rngL_len] at hr
    have l1 := hl.length_eq
    have l2 := ho.length_eq
    simp only [List.length_append, List.length_map, rngL_len] at l1 l2
    obtain ⟨r1, n1, e1, _, _⟩ := drawF_ok (bx := bx1) (m := 60) (by decide)
    obtain ⟨r2, n2, e2, _, _⟩ := drawF_ok (bx := (bx1.1, n1)) (m := 60) (by decide)
    obtain ⟨r3, n3, e3, _, _⟩ := drawF_ok (bx := (bx1.1, n2)) (m := 3) (by decide)
    have d1 : (0 : Int) < lf.length := by omega
    have d2 : (0 : Int) < ot.length := by omega
    obtain ⟨x, lf', f1, g1⟩ := pop_perm (xs := lf) (i := r1 % (lf.length : Int)) (Int.emod_nonneg _ (by omega)) (Int.emod_lt_of_pos _ d1) (by omega)
    obtain ⟨y, ot', f2, g2⟩ := pop_perm (xs := ot) (i := r2 % (ot.length : Int)) (Int.emod_nonneg _ (by omega)) (Int.emod_lt_of_pos _ d2) (by omega)
    simp only [e1, Option.bind_some, modF_pos d1, f1, e2, modF_pos d2, f2, e3]
    have m1 := g1.length_eq
    have m2 := g2.length_eq
    rw [List.length_cons] at m1 m2
    -- the end of a turn
    have fin : ∀ (x y : Int) (lf' ot' : List Int) (bx2 : List Int × Nat), lf.Perm (x :: lf') → ot.Perm (y :: ot') → ∃ x', ((appF ps (x, y)).bind fun ps' => some (lf', ot', ps', bx2)) = some x' ∧ (x'.1 ++ x'.2.2.1.map (·.1)).Perm (rngL 0 12) ∧ (x'.2.1 ++ x'.2.2.1.map (·.2)).Perm (rngL 0 12) ∧ x'.2.2.1.length = i + 1 := by
      intro x y lf' ot' bx2 q1 q2
      rw [appF_ok (by omega)]
      refine ⟨_, rfl, ?_, ?_, ?_⟩
      · dsimp only
        rw [List.map_append, ← List.append_assoc]
        refine List.Perm.trans ?_ hl
        refine List.Perm.trans List.perm_append_comm ?_
        exact (q1.append_right _).symm
      · dsimp only
        rw [List.map_append, ← List.append_assoc]
        refine List.Perm.trans ?_ ho
        refine List.Perm.trans List.perm_append_comm ?_
        exact (q2.append_right _).symm
      · dsimp only
        rw [List.length_append]; simp; omega
    by_cases c1 : (0 : Int) < r3
    case neg =>
      rw [if_neg (by simpa using c1), Option.bind_some, if_neg (by decide), Option.bind_some]
      exact fin x y lf' ot' _ g1 g2
    rw [if_pos (by simpa using c1)]
    rcases snoc_cases ps with rfl | ⟨qs, ⟨qa, qb⟩, rfl⟩
    · rw [if_neg (by simp)]
      simp only [Option.bind_some, Bool.false_eq_true, if_false]
      exact fin x y lf' ot' _ g1 g2
    rw [if_pos (by simp), at_last]
    simp only [Option.bind_some]
    rw [catF_ok (by simp; omega), catF_ok (by simp; omega)]
    simp only [Option.bind_some]
    by_cases c2 : qa + 1 ∈ lf' ++ [x] ∧ qb + 1 ∈ ot' ++ [y]
    · rw [if_pos (by simpa using c2.1)]
      simp only [Option.bind_some]
      rw [if_pos (by simpa using c2.2), appF_ok (by omega), appF_ok (by omega)]
      simp only [Option.bind_some]
      obtain ⟨lf2, f3, g3⟩ := rem_perm c2.1
      obtain ⟨ot2, f4, g4⟩ := rem_perm c2.2
      simp only [f3, f4, Option.bind_some]
      exact fin _ _ _ _ _ (g1.trans (List.perm_append_singleton x lf').symm |>.trans g3) (g2.trans (List.perm_append_singleton y ot').symm |>.trans g4)
    · have : ∀ b : Bool, ((if decide (qa + 1 ∈ lf' ++ [x]) = true then some (decide (qb + 1 ∈ ot' ++ [y])) else some false) = some b) → b = false := by
        intro b hb
        split at hb
        · rename_i c3
          have c4 : ¬ qb + 1 ∈ ot' ++ [y] := fun z => c2 ⟨of_decide_eq_true c3, z⟩
          cases hb
          exact decide_eq_false c4
        · cases hb; rfl
      split
      · rename_i c3
        have c4 : ¬ qb + 1 ∈ ot' ++ [y] := fun z => c2 ⟨of_decide_eq_true c3, z⟩
        rw [decide_eq_false c4]
        simp only [Option.bind_some, Bool.false_eq_true, if_false]
        exact fin x y lf' ot' _ g1 g2
      · simp only [Option.bind_some, Bool.false_eq_true, if_false]
        exact fin x y lf' ot' _ g1 g2
  obtain ⟨⟨lf, ot, ps, bx'⟩, rfl, k1, k2, k3⟩ := key
  dsimp only at k1 k2 k3
  rw [rngL_len] at k3
  refine ⟨ps, bx', rfl, ⟨?_, ?_, ?_⟩, by omega⟩
  · have := (k1.nodup_iff).mpr (by decide)
    exact (List.nodup_append.mp this).2.1
  · have := (k2.nodup_iff).mpr (by decide)
    unfold Uniq swpF
    rw [List.map_map]
    exact (List.nodup_append.mp this).2.1
  · intro p hp
    have a1 := rngL_mem.mp (k1.mem_iff.mp (List.mem_append.mpr (.inr (List.mem_map.mpr ⟨p, hp, rfl⟩))))
    have a2 := rngL_mem.mp (k2.mem_iff.mp (List.mem_append.mpr (.inr (List.mem_map.mpr ⟨p, hp, rfl⟩))))
    omega
end
end Pf

namespace Pf
open PySem L2
local macro_rules | `(tactic| walk_at "rd1") => `(tactic| first
  | with_reducible refine r_seqA ?_
  | with_reducible refine r_seqD ?_
  | with_reducible refine r_seqF ?_
  | with_reducible refine r_seqN ?_
  | with_reducible refine r_asg ?_
  | with_reducible refine r_drop ?_
  | with_reducible refine r_ret ?_
  | with_reducible refine r_ifS ?_
  | ((with_reducible refine r_next ?_); try dsimp only)
  | ((with_reducible refine r_name ?_); try dsimp only [List.set_cons_succ, List.set_cons_zero, wipe])
  | ((with_reducible refine' r_var ?rdh ?_); (case rdh => rfl))
  | with_reducible refine r_c ?_
  | with_reducible refine r_op ?_
  | with_reducible refine r_un ?_
  | with_reducible refine r_I0 ?_
  | ((with_reducible refine r_I ?_ ?_); (· first | decide | exact Or.inl (by decide) | exact Or.inr (by decide) | (show _ ∧ _; constructor <;> decide) | (show (0:Int) < _; omega) | (show CDiv _ _; unfold CDiv; omega) ))
  | with_reducible refine r_U ?_
  | with_reducible refine r_eqI ?_
  | with_reducible refine r_neI ?_
  | with_reducible refine r_eqB ?_
  | with_reducible refine r_neB ?_
  | with_reducible refine r_test ?_
  | with_reducible refine r_B ?_
  | with_reducible refine r_bl ?_
  | with_reducible refine r_bl2 ?_
  | with_reducible refine r_yes ?_
  | with_reducible refine r_wipe (by rfl) ?_
  | with_reducible refine r_rfl ?_
  | ((with_reducible refine' r_eqA ?rdh ?_); (case rdh => rfl))
  | with_reducible refine r_and ?_
  | with_reducible refine r_or ?_
  | with_reducible refine r_not ?_
  | with_reducible refine r_andV ?_
  | with_reducible refine r_orV ?_
  | with_reducible refine r_notV ?_
  | with_reducible refine r_ifE ?_
  | with_reducible refine r_nil ?_
  | with_reducible refine r_cons ?_
  | with_reducible refine r_tup ?_
  | with_reducible refine r_lst ?_
  | with_reducible refine r_CB ?_
  | with_reducible refine r_call ?_
  | with_reducible refine r_bm ?_
  | with_reducible refine r_bm0 ?_
  | with_reducible refine r_int ?_
  | with_reducible refine r_i2 ?_
  | with_reducible refine r_i1 ?_
  | with_reducible refine r_gcons ?_
  | with_reducible refine r_gnil ?_
  | with_reducible refine r_gsub ?_
  | with_reducible refine iteT ?_
  | with_reducible refine iteF ?_
  | with_reducible refine ite_notT ?_
  | with_reducible refine ite_notF ?_
  | with_reducible refine r_isi_ib ?_
  | with_reducible refine r_isi_ii ?_
  | with_reducible refine r_isi_bb ?_
  | with_reducible refine r_isi_nb ?_
  | with_reducible refine r_isi_nt ?_
  | ((with_reducible refine' r_isi_ll ?rdh ?_); (case rdh => first | assumption | exact upd_same))
  | ((with_reducible refine' r_isi_tt ?rdh ?_); (case rdh => first | assumption | exact upd_same))
  | with_reducible refine r_sl ?_
  | with_reducible refine r_noPart ?_
  | with_reducible refine r_part ?_
  | with_reducible refine r_int1 ?_
  | with_reducible refine r_tru ?_
  | with_reducible refine r_ckw ?_
  | with_reducible refine r_lc ?_
  | with_reducible refine r_lc2 ?_
  | with_reducible refine r_forS ?_
  | with_reducible refine r_iR1 ?_
  | with_reducible refine r_iR2 ?_
  | with_reducible refine r_iL ?_
  | ((with_reducible refine' r_lenL ?rdh ?_); (case rdh => walk_at "sq"))
  | ((with_reducible refine' r_ixL ?rdh ?rda ?_); (case rdh => walk_at "sq"); (case rda => walk_at "at"))
  | ((with_reducible refine' r_ixT ?rdh ?rda ?_); (case rdh => walk_at "sq"); (case rda => walk_at "at")))
local macro_rules | `(tactic| walk_at "sq") => `(tactic| first
  | assumption
  | exact SqL.of (by assumption)
  | exact SqL.of upd_same
  | exact SqT.of (by assumption)
  | exact SqT.of upd_same)
local macro_rules | `(tactic| walk_at "sml") => `(tactic| (rw [sizeLine_eq]; simp))
local macro_rules | `(tactic| walk_at "at") => `(tactic| first | assumption | rfl)
local macro_rules | `(tactic| walk_at "rd") => `(tactic| repeat walk_at "rd1")
section
variable {w : World} {P : Program} {base : Heap} {K : PySem.W.Frag} {mg : Str → Option Value}
def law_canonicalM (p_pairs : (List (Int × Int))) : Option (List (T3 Int Int Int)) :=
  bnd (([] : List (T3 Int Int Int))) fun pieces_107 => (fold (fun (y_113 : (Int × Int)) (pieces_111 : (List (T3 Int Int Int))) => bnd ((none : (Option (T3 Int Int Int)))) fun last_117 => (if (decide ((0 : Int) < (pieces_111.length : Int))) = true then ((atI pieces_111 (-1 : Int)).bind fun t_124 => bnd ((some t_124)) fun last_125 => some last_125) else (some last_117)).bind fun last_121 => (if (!last_121.isNone) = true then last_121.bind fun last_128 => some ((decide ((last_128.a + last_128.c) = y_113.1)) && (decide ((last_128.b + last_128.c) = y_113.2))) else some false).bind fun t_129 => if t_129 = true then (last_121.bind fun last_131 => (setF pieces_111 (-1 : Int) (T3.mk last_131.a last_131.b (last_131.c + (1 : Int)))).bind fun pieces_132 => some pieces_132) else ((appF pieces_111 (T3.mk y_113.1 y_113.2 (1 : Int))).bind fun pieces_134 => some pieces_134) : (Int × Int) → (List (T3 Int Int Int)) → Option (List (T3 Int Int Int))) (sortP p_pairs) pieces_107).bind fun pieces_111 => some pieces_111
theorem mk_law_canonical {f  : Addr} {fd  : FuncData} (T : Txt mg) (F : Fun K "_law_canonical" "_law_canonical" s_law_canonical f fd) (m : mg "_law_canonical" = some (.ref f)) (b : Binds K fd ["pairs"] []) :
    Cal P w K mg base "_law_canonical" 1 f fd ["pairs"] (spP (fun (i : (List (Int × Int)) × Unit) => law_canonicalM i.1)) := by
  refine ⟨F.ok sc_law_canonical (fun vs H Q E h => ?_) (fun cdv A outer s H vs Q E hr h => ?_), m, F.kp, b⟩
  · obtain ⟨ms, ⟨p_pairs, ⟨⟩⟩, r, _, ⟨v_p_pairs, _, rfl, f_p_pairs, e0⟩, _⟩ := h
    cases e0
    rfl
  obtain ⟨ms, ⟨p_pairs, ⟨⟩⟩, r, al, ⟨v_p_pairs, _, rfl, f_p_pairs, e0⟩, hm, Q⟩ := h
  cases e0
  refine ⟨_, (pss_cons (ps_set (i := 1) sc_law_canonical.nd rfl (Or.inl rfl) (pe_lst pa_nil)) (pss_cons (ps_for PassesOwn.never rfl (pi_list (pe_callB (show CallR _ _ (rSortedPO K) from cr_sortedPO) (by rfl) T.sorted (by decide +kernel) (pa_cons (pv 0) pa_nil))) (pg_name (i := 2) sc_law_canonical.nd rfl (Or.inl rfl))
      (pss_cons (ps_set (i := 3) sc_law_canonical.nd rfl (Or.inl rfl) pe_non) (pss_cons (ps_if (pt_cmpR op_gt (pe_callB (show CallR _ _ (fun xs H Q => ∃ p ys, xs = [V.ref p] ∧ (SqL K H p ys ∨ SqT K H p ys) ∧ Q (.int ys.length) H) from call_len_seq) (by rfl) T.len PySem.boot_len (pa_cons (pv 1) pa_nil)) pe_int (nomark _))
      (pss_one (ps_set (i := 3) sc_law_canonical.nd rfl (Or.inl rfl) (pe_ix (show IxR _ (rIxL K) from ix_list) (pv 1) (pe_un un_neg pe_int) (fun _ _ => rfl))))
      pss_nil) (pss_one (ps_if (PW.pt (pw_and (pt_cmpR op_notN (pv 3) pe_non (nomark _)) (pw_and (pt_cmpR op_eq (pe_op op_add (pe_ix (show IxR _ (rIxT K) from ix_tup) (pv 3) pe_int (fun _ _ => rfl)) (pe_ix (show IxR _ (rIxT K) from ix_tup) (pv 3) pe_int (fun _ _ => rfl))) (pe_ix (show IxR _ (rIxT K) from ix_tup) (pv 2) pe_int (fun _ _ => rfl)) (nomark _)) (pw_and1 (pt_cmpR op_eq (pe_op op_add (pe_ix (show IxR _ (rIxT K) from ix_tup) (pv 3) pe_int (fun _ _ => rfl)) (pe_ix (show IxR _ (rIxT K) from ix_tup) (pv 3) pe_int (fun _ _ => rfl))) (pe_ix (show IxR _ (rIxT K) from ix_tup) (pv 2) pe_int (fun _ _ => rfl)) (nomark _))))))
      (pss_one (ps_asg (pe_tup (pa_cons (pe_ix (show IxR _ (rIxT K) from ix_tup) (pv 3) pe_int (fun _ _ => rfl)) (pa_cons (pe_ix (show IxR _ (rIxT K) from ix_tup) (pv 3) pe_int (fun _ _ => rfl)) (pa_cons (pe_op op_add (pe_ix (show IxR _ (rIxT K) from ix_tup) (pv 3) pe_int (fun _ _ => rfl)) pe_int) pa_nil)))) (pg_sub (pv 1) (pe_un un_neg pe_int) set_list)))
      (pss_one (ps_expr (pe_bm PySem.F.plainAttrs_list PySem.F.slot_list_append PySem.F.type_list_append mt_append (pv 1) (pa_cons (pe_tup (pa_cons (pe_ix (show IxR _ (rIxT K) from ix_tup) (pv 2) pe_int (fun _ _ => rfl)) (pa_cons (pe_ix (show IxR _ (rIxT K) from ix_tup) (pv 2) pe_int (fun _ _ => rfl)) (pa_cons pe_int pa_nil)))) pa_nil))))))))) (pss_one (ps_ret (pv 1))))), ?_⟩
  try dsimp only [cxOf, Cx.nox, Cx.wish]
  rw [show start ["pairs", "pieces", "pair", "last"] [v_p_pairs] = [some (v_p_pairs), none, none, none] from rfl]
  have W : Wd [] ms H := ⟨fun a h => (by cases h), al⟩
  have hq : Tr ms H := trivial
  have hm : law_canonicalM p_pairs = some r := hm
  have u : Bu [] H H := Bu.refl _ H
  unfold law_canonicalM at hm
  obtain ⟨pieces_107, e_pieces_107, hm⟩ := bnd_inv hm
  refine r_seqA ?_
  refine En.mk W (en_lst (xs := ([] : List (T3 Int Int Int))) W (sb_tr (B := [])) (by simp) es_nil) hq fun apieces_107 H_108 bb na hq' W' M l_apieces_107 => ?_
  rw [← e_pieces_107] at l_apieces_107
  have o_apieces_107 := W.al.not na
  have n_apieces_107 : apieces_107 ∉ [] := fun z => W.al.not na (W.hB _ z)
  have m_apieces_107 : apieces_107 ∈ apieces_107 :: ms := List.mem_cons_self
  have h_apieces_107 := u.none na
  have f_p_pairs := Rp.mv f_p_pairs M
  have u := u.trans bb
  have W := W'
  have hq := hq'
  refine r_name ?_
  dsimp only [List.set_cons_succ, List.set_cons_zero]
  refine r_seqF' ?_
  refine r_for W (ei_list (En.ex (sb_tr (B := [])) (en_sortP W (sb_tr (B := [])) (el_of W.hB (ex_var W rfl f_p_pairs))))) hq fun J N_110 H_109 bb hq W M st_nN_110 nN_110 ok_N_110 => ?_
  have f_p_pairs := Rp.mv f_p_pairs M
  have l_apieces_107 := l_apieces_107.step M fun o e => bb.1 _ o n_apieces_107 e
  have u := u.trans bb
  obtain ⟨out_114, e_out_114, hm⟩ := bind_inv hm
  have hgoN_110 := hm
  clear hm
  refine wk_fold (ms := apieces_107 :: ms) ok_N_110 e_out_114 (fun pieces_111 σ H' => ∃ (xl_pair : Option V), ∃ (xl_last : Option V), σ = [some v_p_pairs, some (.ref apieces_107), xl_pair, xl_last] ∧ Bu [] H H' ∧ Tr (apieces_107 :: ms) H' ∧ Wd [] (apieces_107 :: ms) H' ∧ N_110 (apieces_107 :: ms) H' ∧ Rp.rp (apieces_107 :: ms) H' (v_p_pairs) p_pairs ∧ Ls (apieces_107 :: ms) H' apieces_107 pieces_111) ⟨_, _, rfl, u, hq, W, nN_110, f_p_pairs, l_apieces_107⟩ ?_ ?_ ?_
  · intro pieces_111 σ H' hI
    try dsimp only at hI
    obtain ⟨xl_pair, xl_last, rfl, u, hq, W, nN_110, f_p_pairs, l_apieces_107⟩ := hI
    exact ⟨nN_110, W.al⟩
  · intro y_113 v pieces_111 x' σ H_115 H_116 hI s1 rv hf
    try dsimp only at hI
    obtain ⟨xl_pair, xl_last, rfl, u, hq, W, nN_110, f_p_pairs, l_apieces_107⟩ := hI
    have hm := hf
    try dsimp only at hm
    have bb : Bu [] H_115 H_116 := Bu.same s1
    have M : Mv (apieces_107 :: ms) H_115 (apieces_107 :: ms) H_116 := Mv.same s1
    have hq := (sb_tr (B := [])).same s1 hq
    have W := W.bu bb
    have f_p_pairs := Rp.mv f_p_pairs M
    have l_apieces_107 := l_apieces_107.step M fun o e => bb.1 _ o n_apieces_107 e
    have nN_110 := st_nN_110.mv nN_110 M
    have u := u.trans bb
    have f_y_113 := rv
    refine (bnd_name : Bnd _ _ _ _ _) _ ?_
    dsimp only [List.set_cons_succ, List.set_cons_zero]
    obtain ⟨last_117, e_last_117, hm⟩ := bnd_inv hm
    refine r_seqA ?_
    refine Ex.go W (ex_non (α := (T3 Int Int Int))) hq fun v_119 H_118 bb hq W M rv => ?_
    rw [← e_last_117] at rv
    have f_p_pairs := Rp.mv f_p_pairs M
    have l_apieces_107 := l_apieces_107.step M fun o e => bb.1 _ o n_apieces_107 e
    have f_y_113 := Rp.mv f_y_113 M
    have nN_110 := st_nN_110.mv nN_110 M
    have u := u.trans bb
    have f_last_117 := rv
    refine (bnd_name : Bnd _ _ _ _ _) _ ?_
    dsimp only [List.set_cons_succ, List.set_cons_zero]
    obtain ⟨last_121, e_j_123, hm⟩ := bind_inv hm
    try dsimp only at hm
    refine r_seqG fun R hR => ?_
    have key : ∀ (vj_last_121 : V), ∀ H_122, Bu [] H H_122 → Tr (apieces_107 :: ms) H_122 → Wd [] (apieces_107 :: ms) H_122 → N_110 (apieces_107 :: ms) H_122 → Rp.rp (apieces_107 :: ms) H_122 (v_p_pairs) p_pairs → Ls (apieces_107 :: ms) H_122 apieces_107 pieces_111 → Rp.rp (apieces_107 :: ms) H_122 (v) y_113 → Rp.rp (apieces_107 :: ms) H_122 (vj_last_121) last_121 → R [some v_p_pairs, some (.ref apieces_107), some v, some vj_last_121] H_122 := by
      intro vj_last_121 H_122 u hq W nN_110 f_p_pairs l_apieces_107 f_y_113 f_last_121
      refine hR _ _ ?_
      obtain ⟨t_129, e_t_129, hm⟩ := bind_inv hm
      refine r_ifS ?_
      refine Et.go W (et_and (d := t_129) (et_test (ex_notN (ex_var W rfl f_last_121))) (fun c => by
              have hm := (if_pos c).symm.trans e_t_129
              obtain ⟨last_128, e_last_128, hm⟩ := bind_inv hm
              have f_last_128 := rp_nar e_last_128 f_last_121
              rw [← Option.some.inj hm]
              exact (et_and' (et_test (ex_eqI (ex_opI0 (z := (last_128.a + last_128.c)) (fun _ _ => rfl) (ex_t1 (u := last_128) (ex_var W rfl f_last_128)) (ex_t3 (u := last_128) (ex_var W rfl f_last_128))) (ex_fst (u := y_113) (ex_var W rfl f_y_113)))) fun _ => (et_test (ex_eqI (ex_opI0 (z := (last_128.b + last_128.c)) (fun _ _ => rfl) (ex_t2 (u := last_128) (ex_var W rfl f_last_128)) (ex_t3 (u := last_128) (ex_var W rfl f_last_128))) (ex_snd (u := y_113) (ex_var W rfl f_y_113))))))
              (fun c => by
              have hm := (if_neg (by rw [c]; decide)).symm.trans e_t_129
              cases hm
              exact ⟨rfl, fun _ h => h⟩)) hq fun H_130 bb hq W M => ?_
      have f_p_pairs := Rp.mv f_p_pairs M
      have l_apieces_107 := l_apieces_107.step M fun o e => bb.1 _ o n_apieces_107 e
      have f_y_113 := Rp.mv f_y_113 M
      have f_last_121 := Rp.mv f_last_121 M
      have nN_110 := st_nN_110.mv nN_110 M
      have u := u.trans bb
      refine ite_by (fun hc => ?_) (fun hc => ?_)
      · have hm := (if_pos hc).symm.trans hm
        obtain ⟨last_131, e_last_131, hm⟩ := bind_inv hm
        have f_last_131 := rp_nar e_last_131 f_last_121
        obtain ⟨pieces_132, e_pieces_132, hm⟩ := bind_inv hm
        refine r_asg ?_
        refine s_setix W rfl l_apieces_107 m_apieces_107 n_apieces_107 (sb_tr (B := [])) (ex_tup3 W (sb_tr (B := [])) (u := T3.mk last_131.a last_131.b (last_131.c + (1 : Int))) (ea_cons W (ex_t1 (u := last_131) (ex_var W rfl f_last_131)) (ea_cons W (ex_t2 (u := last_131) (ex_var W rfl f_last_131)) (ea_cons W (ex_opI0 (z := (last_131.c + (1 : Int))) (fun _ _ => rfl) (ex_t3 (u := last_131) (ex_var W rfl f_last_131)) (ex_int 1)) ea_nil)))) (ex_opU (z := (-1 : Int)) (fun _ _ => rfl) (ex_int 1)) hq e_pieces_132 fun H_133 bb hq W M l_apieces_107 => ?_
        have f_p_pairs := Rp.mv f_p_pairs M
        have f_y_113 := Rp.mv f_y_113 M
        have f_last_131 := Rp.mv f_last_131 M
        have nN_110 := st_nN_110.mv nN_110 M
        have u := u.own2 h_apieces_107 bb
        try dsimp only
        try dsimp only
        have f_last_121 := rp_unnar e_last_131 f_last_131
        try dsimp only
        cases hm
        exact ⟨_, _, rfl, u, hq, W, nN_110, f_p_pairs, l_apieces_107⟩
      · have hm := (if_neg hc).symm.trans hm
        obtain ⟨pieces_134, e_pieces_134, hm⟩ := bind_inv hm
        refine r_drop ?_
        refine s_app rfl W rfl l_apieces_107 m_apieces_107 n_apieces_107 (sb_tr (B := [])) (ea_cons W (ex_tup3 W (sb_tr (B := [])) (u := T3.mk y_113.1 y_113.2 (1 : Int)) (ea_cons W (ex_fst (u := y_113) (ex_var W rfl f_y_113)) (ea_cons W (ex_snd (u := y_113) (ex_var W rfl f_y_113)) (ea_cons W (ex_int 1) ea_nil)))) ea_nil) hq e_pieces_134 fun H_135 bb hq W M l_apieces_107 => ?_
        have f_p_pairs := Rp.mv f_p_pairs M
        have f_y_113 := Rp.mv f_y_113 M
        have f_last_121 := Rp.mv f_last_121 M
        have nN_110 := st_nN_110.mv nN_110 M
        have u := u.own2 h_apieces_107 bb
        try dsimp only
        try dsimp only
        try dsimp only
        cases hm
        exact ⟨_, _, rfl, u, hq, W, nN_110, f_p_pairs, l_apieces_107⟩
    clear hR
    have hm := e_j_123
    refine r_ifS ?_
    refine Et.go W (et_test (ex_opI0 (z := (decide ((0 : Int) < (pieces_111.length : Int)))) (fun _ _ => rfl) (ex_len (el_var W rfl n_apieces_107 l_apieces_107)) (ex_int 0))) hq fun H_120 bb hq W M => ?_
    have f_p_pairs := Rp.mv f_p_pairs M
    have l_apieces_107 := l_apieces_107.step M fun o e => bb.1 _ o n_apieces_107 e
    have f_y_113 := Rp.mv f_y_113 M
    have f_last_117 := Rp.mv f_last_117 M
    have nN_110 := st_nN_110.mv nN_110 M
    have u := u.trans bb
    refine ite_by (fun hc => ?_) (fun hc => ?_)
    · have hm := (if_pos hc).symm.trans hm
      obtain ⟨t_124, e_t_124, hm⟩ := bind_inv hm
      obtain ⟨last_125, e_last_125, hm⟩ := bnd_inv hm
      refine r_asg ?_
      refine Ex.go W (ex_some (ex_ixL (el_var W rfl n_apieces_107 l_apieces_107) (ex_opU (z := (-1 : Int)) (fun _ _ => rfl) (ex_int 1)) W e_t_124)) hq fun v_127 H_126 bb hq W M rv => ?_
      rw [← e_last_125] at rv
      have f_p_pairs := Rp.mv f_p_pairs M
      have l_apieces_107 := l_apieces_107.step M fun o e => bb.1 _ o n_apieces_107 e
      have f_y_113 := Rp.mv f_y_113 M
      have f_last_117 := Rp.mv f_last_117 M
      have nN_110 := st_nN_110.mv nN_110 M
      have u := u.trans bb
      have f_last_125 := rv
      refine (bnd_name : Bnd _ _ _ _ _) _ ?_
      dsimp only [List.set_cons_succ, List.set_cons_zero]
      try dsimp only
      try dsimp only
      cases hm
      exact key _ _ u hq W nN_110 f_p_pairs l_apieces_107 f_y_113 f_last_125
    · have hm := (if_neg hc).symm.trans hm
      refine r_next ?_
      try dsimp only
      cases hm
      exact key _ _ u hq W nN_110 f_p_pairs l_apieces_107 f_y_113 f_last_117
  · intro σ H_112 hI
    obtain ⟨pieces_111, hE⟩ : ∃ z, z = out_114 := ⟨_, rfl⟩
    rw [← hE] at hI hgoN_110
    try dsimp only at hI
    obtain ⟨xl_pair, xl_last, rfl, u, hq, W, nN_110, f_p_pairs, l_apieces_107⟩ := hI
    have hm := hgoN_110
    try dsimp only at hm
    try dsimp only
    have sub : ∀ a ∈ ms, a ∈ apieces_107 :: ms := ((.cons _ (.refl _)) : List.Sublist (ms) (apieces_107 :: ms)).subset
    have M : Mv (apieces_107 :: ms) H_112 (ms) H_112 := Mv.less sub
    have hq := (sb_tr (B := [])) _ _ _ _ hq M fun _ _ _ e => e
    have W : Wd [] (ms) H_112 := ⟨fun a h => (by cases h), W.al.less sub⟩
    have f_p_pairs := Rp.mv f_p_pairs M
    have f_pieces_111 : Rp.rp (ms) H_112 (.ref apieces_107) pieces_111 := ⟨apieces_107, rfl, o_apieces_107, l_apieces_107.less sub⟩
    have hm := Option.some.inj hm
    subst hm
    refine r_ret' ?_
    refine Ex.go W (ex_var W rfl f_pieces_111) hq fun v H_136 bb hq W M rv => ?_
    exact Q v _ (Bu.to_same (u.trans bb)) (rv)
def law_imageM (p_pairs : (List (Int × Int))) (p_address : Int) : Option (Option Int) :=
  (loop (fun (y_140 : (Int × Int)) (x : Unit) => if (decide (y_140.1 = p_address)) = true then (some (.ret (some y_140.2))) else (some (.go ())) : (Int × Int) → Unit → Option (Fl (Option Int) Unit)) p_pairs ()).bind fun fl => match fl with | .ret r' => some r' | .go x => some (none : (Option Int))
theorem mk_law_image {f  : Addr} {fd  : FuncData} (T : Txt mg) (F : Fun K "_law_image" "_law_image" s_law_image f fd) (m : mg "_law_image" = some (.ref f)) (b : Binds K fd ["pairs", "address"] []) :
    Cal P w K mg base "_law_image" 1 f fd ["pairs", "address"] (spP (fun (i : (List (Int × Int)) × Int × Unit) => law_imageM i.1 i.2.1)) := by
  refine ⟨F.ok sc_law_image (fun vs H Q E h => ?_) (fun cdv A outer s H vs Q E hr h => ?_), m, F.kp, b⟩
  · obtain ⟨ms, ⟨p_pairs, p_address, ⟨⟩⟩, r, _, ⟨v_p_pairs, _, rfl, f_p_pairs, ⟨v_p_address, _, rfl, f_p_address, e0⟩⟩, _⟩ := h
    cases e0
    rfl
  obtain ⟨ms, ⟨p_pairs, p_address, ⟨⟩⟩, r, al, ⟨v_p_pairs, _, rfl, f_p_pairs, ⟨v_p_address, _, rfl, f_p_address, e0⟩⟩, hm, Q⟩ := h
  cases e0
  obtain rfl : v_p_address = V.int p_address := f_p_address
  refine ⟨_, (pss_cons (ps_for PassesOwn.never rfl (pi_list (pv 0)) (pg_name (i := 2) sc_law_image.nd rfl (Or.inl rfl))
      (pss_one (ps_if (pt_cmpR op_eq (pe_ix (show IxR _ (rIxT K) from ix_tup) (pv 2) pe_int (fun _ _ => rfl)) (pv 1) (nomark _))
      (pss_one (ps_ret (pe_ix (show IxR _ (rIxT K) from ix_tup) (pv 2) pe_int (fun _ _ => rfl))))
      pss_nil))) (pss_one (ps_ret pe_non))), ?_⟩
  try dsimp only [cxOf, Cx.nox, Cx.wish]
  rw [show start ["pairs", "address", "pair"] [v_p_pairs, V.int p_address] = [some (v_p_pairs), some (V.int p_address), none] from rfl]
  have W : Wd [] ms H := ⟨fun a h => (by cases h), al⟩
  have hq : Tr ms H := trivial
  have hm : law_imageM p_pairs p_address = some r := hm
  have u : Bu [] H H := Bu.refl _ H
  unfold law_imageM at hm
  refine r_seqF' ?_
  refine r_for W (ei_list (ex_var W rfl f_p_pairs)) hq fun J N_138 H_137 bb hq W M st_nN_138 nN_138 ok_N_138 => ?_
  have f_p_pairs := Rp.mv f_p_pairs M
  have u := u.trans bb
  obtain ⟨out_141, e_out_141, hm⟩ := bind_inv hm
  have hretN_138 : ∀ r', out_141 = .ret r' → some r' = some r := fun r' e => by
    rw [e] at hm
    exact hm
  have hgoN_138 := hm
  clear hm
  refine wk_loop (ms := ms) ok_N_138 e_out_141 (fun x σ H' => ∃ (xl_pair : Option V), σ = [some v_p_pairs, some (.int p_address), xl_pair] ∧ Bu [] H H' ∧ Tr (ms) H' ∧ Wd [] (ms) H' ∧ N_138 (ms) H' ∧ Rp.rp (ms) H' (v_p_pairs) p_pairs) ⟨_, rfl, u, hq, W, nN_138, f_p_pairs⟩ ?_ ?_ ?_
  · intro x σ H' hI
    obtain ⟨⟩ := x
    try dsimp only at hI
    obtain ⟨xl_pair, rfl, u, hq, W, nN_138, f_p_pairs⟩ := hI
    exact ⟨nN_138, W.al⟩
  · intro y_140 v x flN_138 σ H_142 H_143 hI s1 rv hf hret
    obtain ⟨⟩ := x
    try dsimp only at hI
    obtain ⟨xl_pair, rfl, u, hq, W, nN_138, f_p_pairs⟩ := hI
    have hm := hf
    try dsimp only at hm
    have hretN_138' := hret
    have hretN_138 := fun r' e => hretN_138 r' (hretN_138' r' e)
    have bb : Bu [] H_142 H_143 := Bu.same s1
    have M : Mv (ms) H_142 (ms) H_143 := Mv.same s1
    have hq := (sb_tr (B := [])).same s1 hq
    have W := W.bu bb
    have f_p_pairs := Rp.mv f_p_pairs M
    have nN_138 := st_nN_138.mv nN_138 M
    have u := u.trans bb
    have f_y_140 := rv
    refine (bnd_name : Bnd _ _ _ _ _) _ ?_
    dsimp only [List.set_cons_succ, List.set_cons_zero]
    refine r_ifS ?_
    refine Et.go W (et_test (ex_eqI (ex_fst (u := y_140) (ex_var W rfl f_y_140)) (ex_vi rfl))) hq fun H_144 bb hq W M => ?_
    have f_p_pairs := Rp.mv f_p_pairs M
    have f_y_140 := Rp.mv f_y_140 M
    have nN_138 := st_nN_138.mv nN_138 M
    have u := u.trans bb
    refine ite_by (fun hc => ?_) (fun hc => ?_)
    · have hm := (if_pos hc).symm.trans hm
      have hm := hretN_138 _ (Option.some.inj hm).symm
      have hm := Option.some.inj hm
      subst hm
      refine r_ret' ?_
      refine Ex.go W (ex_some (ex_snd (u := y_140) (ex_var W rfl f_y_140))) hq fun v H_145 bb hq W M rv => ?_
      exact Q v _ (Bu.to_same (u.trans bb)) (rv)
    · have hm := (if_neg hc).symm.trans hm
      refine r_next ?_
      try dsimp only
      try dsimp only
      cases hm
      exact ⟨_, rfl, ⟨_, rfl, u, hq, W, nN_138, f_p_pairs⟩⟩
  · intro x σ H_139 eo hI
    obtain ⟨⟩ := x
    try dsimp only at hI
    obtain ⟨xl_pair, rfl, u, hq, W, nN_138, f_p_pairs⟩ := hI
    have hm := hgoN_138
    rw [eo] at hm
    try dsimp only at hm
    try dsimp only
    have hm := Option.some.inj hm
    subst hm
    refine r_ret' ?_
    refine Ex.go W (ex_non (α := Int)) hq fun v H_146 bb hq W M rv => ?_
    exact Q v _ (Bu.to_same (u.trans bb)) (rv)
theorem law_imageM_ok (ps : List (Int × Int)) (x : Int) : law_imageM ps x = some (imgF ps x) := by
  unfold law_imageM
  induction ps with
  | nil => rfl
  | cons p ps ih =>
    rw [imgF_cons]
    unfold loop
    by_cases c : p.1 = x
    · rw [if_pos c, if_pos (decide_eq_true c)]
      rfl
    · rw [if_neg c, if_neg (by simpa using c)]
      exact ih
end
end Pf

namespace Pf
open PySem L2
local macro_rules | `(tactic| walk_at "rd1") => `(tactic| first
  | with_reducible refine r_seqA ?_
  | with_reducible refine r_seqD ?_
  | with_reducible refine r_seqF ?_
  | with_reducible refine r_seqN ?_
  | with_reducible refine r_asg ?_
  | with_reducible refine r_drop ?_
  | with_reducible refine r_ret ?_
  | with_reducible refine r_ifS ?_
  | ((with_reducible refine r_next ?_); try dsimp only)
  | ((with_reducible refine r_name ?_); try dsimp only [List.set_cons_succ, List.set_cons_zero, wipe])
  | ((with_reducible refine' r_var ?rdh ?_); (case rdh => rfl))
  | with_reducible refine r_c ?_
  | with_reducible refine r_op ?_
  | with_reducible refine r_un ?_
  | with_reducible refine r_I0 ?_
  | ((with_reducible refine r_I ?_ ?_); (· first | decide | exact Or.inl (by decide) | exact Or.inr (by decide) | (show _ ∧ _; constructor <;> decide) | (show (0:Int) < _; omega) | (show CDiv _ _; unfold CDiv; omega) ))
  | with_reducible refine r_U ?_
  | with_reducible refine r_eqI ?_
  | with_reducible refine r_neI ?_
  | with_reducible refine r_eqB ?_
  | with_reducible refine r_neB ?_
  | with_reducible refine r_test ?_
  | with_reducible refine r_B ?_
  | with_reducible refine r_bl ?_
  | with_reducible refine r_bl2 ?_
  | with_reducible refine r_yes ?_
  | with_reducible refine r_wipe (by rfl) ?_
  | with_reducible refine r_rfl ?_
  | ((with_reducible refine' r_eqA ?rdh ?_); (case rdh => rfl))
  | with_reducible refine r_and ?_
  | with_reducible refine r_or ?_
  | with_reducible refine r_not ?_
  | with_reducible refine r_andV ?_
  | with_reducible refine r_orV ?_
  | with_reducible refine r_notV ?_
  | with_reducible refine r_ifE ?_
  | with_reducible refine r_nil ?_
  | with_reducible refine r_cons ?_
  | with_reducible refine r_tup ?_
  | with_reducible refine r_lst ?_
  | with_reducible refine r_CB ?_
  | with_reducible refine r_call ?_
  | with_reducible refine r_bm ?_
  | with_reducible refine r_bm0 ?_
  | with_reducible refine r_int ?_
  | with_reducible refine r_i2 ?_
  | with_reducible refine r_i1 ?_
  | with_reducible refine r_gcons ?_
  | with_reducible refine r_gnil ?_
  | with_reducible refine r_gsub ?_
  | with_reducible refine iteT ?_
  | with_reducible refine iteF ?_
  | with_reducible refine ite_notT ?_
  | with_reducible refine ite_notF ?_
  | with_reducible refine r_isi_ib ?_
  | with_reducible refine r_isi_ii ?_
  | with_reducible refine r_isi_bb ?_
  | with_reducible refine r_isi_nb ?_
  | with_reducible refine r_isi_nt ?_
  | ((with_reducible refine' r_isi_ll ?rdh ?_); (case rdh => first | assumption | exact upd_same))
  | ((with_reducible refine' r_isi_tt ?rdh ?_); (case rdh => first | assumption | exact upd_same))
  | with_reducible refine r_sl ?_
  | with_reducible refine r_noPart ?_
  | with_reducible refine r_part ?_
  | with_reducible refine r_int1 ?_
  | with_reducible refine r_tru ?_
  | with_reducible refine r_ckw ?_
  | with_reducible refine r_lc ?_
  | with_reducible refine r_lc2 ?_
  | with_reducible refine r_forS ?_
  | with_reducible refine r_iR1 ?_
  | with_reducible refine r_iR2 ?_
  | with_reducible refine r_iL ?_
  | ((with_reducible refine' r_lenL ?rdh ?_); (case rdh => walk_at "sq"))
  | ((with_reducible refine' r_ixL ?rdh ?rda ?_); (case rdh => walk_at "sq"); (case rda => walk_at "at"))
  | ((with_reducible refine' r_ixT ?rdh ?rda ?_); (case rdh => walk_at "sq"); (case rda => walk_at "at")))
local macro_rules | `(tactic| walk_at "sq") => `(tactic| first
  | assumption
  | exact SqL.of (by assumption)
  | exact SqL.of upd_same
  | exact SqT.of (by assumption)
  | exact SqT.of upd_same)
local macro_rules | `(tactic| walk_at "sml") => `(tactic| (rw [sizeLine_eq]; simp))
local macro_rules | `(tactic| walk_at "at") => `(tactic| first | assumption | rfl)
local macro_rules | `(tactic| walk_at "rd") => `(tactic| repeat walk_at "rd1")
section
variable {w : World} {P : Program} {base : Heap} {K : PySem.W.Frag} {mg : Str → Option Value}
def law_goodM (p_pieces : (List (T3 Int Int Int))) : Option Bool :=
  bnd (([] : List Int)) fun sources_147 => bnd (([] : List Int)) fun targets_149 => (loop (fun (y_156 : (T3 Int Int Int)) (x : ((List Int) × (List Int))) => match x with | (sources_153, targets_154) => if (decide (y_156.c < (1 : Int))) = true then (some (.ret false)) else ((rng1 y_156.c).bind fun rg_162 => (loop (fun (y_168 : Int) (x : ((List Int) × (List Int))) => match x with | (sources_165, targets_166) => if ((decide ((y_156.a + y_168) ∈ sources_165)) || (decide ((y_156.b + y_168) ∈ targets_166))) = true then (some (.ret false)) else ((appF sources_165 (y_156.a + y_168)).bind fun sources_174 => (appF targets_166 (y_156.b + y_168)).bind fun targets_176 => some (.go (sources_174, targets_176))) : Int → ((List Int) × (List Int)) → Option (Fl Bool ((List Int) × (List Int)))) rg_162 (sources_153, targets_154)).bind fun fl => match fl with | .ret r' => some (.ret r') | .go x => match x with | (sources_165, targets_166) => some (.go (sources_165, targets_166))) : (T3 Int Int Int) → ((List Int) × (List Int)) → Option (Fl Bool ((List Int) × (List Int)))) p_pieces (sources_147, targets_149)).bind fun fl => match fl with | .ret r' => some r' | .go x => match x with | (sources_153, targets_154) => (rng1 (sources_153.length : Int)).bind fun rg_178 => (colL (fun (y_179 : Int) => (atI sources_153 y_179).bind fun t_181 => (atI targets_154 y_179).bind fun t_182 => some (some (t_181, t_182))) rg_178).bind fun cs_180 => bnd (cs_180) fun pairs_183 => (law_canonicalM pairs_183).bind fun t_187 => some (decide (t_187 = p_pieces))
theorem mk_law_good {f f1 : Addr} {fd fd1 : FuncData} (T : Txt mg) (F : Fun K "_law_good" "_law_good" s_law_good f fd) (m : mg "_law_good" = some (.ref f)) (b : Binds K fd ["pieces"] [])
    (C_law_canonical : Cal P w K mg base "_law_canonical" 1 f1 fd1 ["pairs"] (spP (fun (i : (List (Int × Int)) × Unit) => law_canonicalM i.1))) :
    Cal P w K mg base "_law_good" 2 f fd ["pieces"] (spP (fun (i : (List (T3 Int Int Int)) × Unit) => law_goodM i.1)) := by
  refine ⟨F.ok sc_law_good (fun vs H Q E h => ?_) (fun cdv A outer s H vs Q E hr h => ?_), m, F.kp, b⟩
  · obtain ⟨ms, ⟨p_pieces, ⟨⟩⟩, r, _, ⟨v_p_pieces, _, rfl, f_p_pieces, e0⟩, _⟩ := h
    cases e0
    rfl
  obtain ⟨ms, ⟨p_pieces, ⟨⟩⟩, r, al, ⟨v_p_pieces, _, rfl, f_p_pieces, e0⟩, hm, Q⟩ := h
  cases e0
  refine ⟨_, (pss_cons (ps_set (i := 1) sc_law_good.nd rfl (Or.inr rfl) (pe_lst pa_nil)) (pss_cons (ps_set (i := 2) sc_law_good.nd rfl (Or.inr rfl) (pe_lst pa_nil)) (pss_cons (ps_for PassesOwn.never rfl (pi_list (pv 0)) (pg_name (i := 3) sc_law_good.nd rfl (Or.inl rfl))
      (pss_cons (ps_if (pt_cmpR op_lt (pe_ix (show IxR _ (rIxT K) from ix_tup) (pv 3) pe_int (fun _ _ => rfl)) pe_int (nomark _))
      (pss_one (ps_ret pe_bl))
      pss_nil) (pss_one (ps_for PassesOwn.never rfl (pi_range1 rfl T.range (pa_cons (pe_ix (show IxR _ (rIxT K) from ix_tup) (pv 3) pe_int (fun _ _ => rfl)) pa_nil)) (pg_name (i := 4) sc_law_good.nd rfl (Or.inl rfl))
      (pss_cons (ps_if (PW.pt (pw_or (pt_cmpR (show OpR _ _ (rIn K false) from op_in_seq) (pe_op op_add (pe_ix (show IxR _ (rIxT K) from ix_tup) (pv 3) pe_int (fun _ _ => rfl)) (pv 4)) (pv 1) (by rfl)) (pw_or1 (pt_cmpR (show OpR _ _ (rIn K false) from op_in_seq) (pe_op op_add (pe_ix (show IxR _ (rIxT K) from ix_tup) (pv 3) pe_int (fun _ _ => rfl)) (pv 4)) (pv 2) (by rfl)))))
      (pss_one (ps_ret pe_bl))
      pss_nil) (pss_cons (ps_expr (pe_bm PySem.F.plainAttrs_list PySem.F.slot_list_append PySem.F.type_list_append mt_append (pv 1) (pa_cons (pe_op op_add (pe_ix (show IxR _ (rIxT K) from ix_tup) (pv 3) pe_int (fun _ _ => rfl)) (pv 4)) pa_nil))) (pss_one (ps_expr (pe_bm PySem.F.plainAttrs_list PySem.F.slot_list_append PySem.F.type_list_append mt_append (pv 2) (pa_cons (pe_op op_add (pe_ix (show IxR _ (rIxT K) from ix_tup) (pv 3) pe_int (fun _ _ => rfl)) (pv 4)) pa_nil)))))))))) (pss_cons (show PS _ _ (tAsg (tLc _ _ _ _ [6]) _) from ps_setLc (i := 5) (own := [("k", 6)]) (g := gName 6) (tt := tYes) rfl sc_law_good.nd rfl rfl (sw_true rfl rfl rfl (by decide +kernel)) (pi_range1 rfl T.range (pa_cons (pe_callB (show CallR _ _ (fun xs H Q => ∃ p ys, xs = [V.ref p] ∧ (SqL K H p ys ∨ SqT K H p ys) ∧ Q (.int ys.length) H) from call_len_seq) (by rfl) T.len PySem.boot_len (pa_cons (pv 1) pa_nil)) pa_nil)) (blkOk_by (own := [("k", 6)]) (N := ["pieces", "sources", "targets", "piece", "step", "pairs", "k"]) (sc := defScope s_law_good) (by decide +kernel)) (fun _ _ _ _ _ => (pg_name (i := 6) sc_law_good.nd rfl (Or.inl rfl))) (fun _ _ _ _ _ => pts_nil) (fun _ _ _ _ _ => (pe_tup (pa_cons (pe_ix (show IxR _ (rIxL K) from ix_list) (pv 1) (pv 6) (fun _ _ => rfl)) (pa_cons (pe_ix (show IxR _ (rIxL K) from ix_list) (pv 2) (pv 6) (fun _ _ => rfl)) pa_nil))))) (pss_one (ps_ret (pe_cmpR (show OpR _ _ (rEqD K) from op_eqD hr.units) (pe_call C_law_canonical.ok (hr.mono (by first | decide | omega)) rfl C_law_canonical.mg C_law_canonical.kp C_law_canonical.b .nil pass0 (pa_cons (pv 5) pa_nil)) (pv 0) (nomark _)))))))), ?_⟩
  try dsimp only [cxOf, Cx.nox, Cx.wish]
  rw [show start ["pieces", "sources", "targets", "piece", "step", "pairs", "k"] [v_p_pieces] = [some (v_p_pieces), none, none, none, none, none, none] from rfl]
  have W : Wd [] ms H := ⟨fun a h => (by cases h), al⟩
  have hq : Tr ms H := trivial
  have hm : law_goodM p_pieces = some r := hm
  have u : Bu [] H H := Bu.refl _ H
  unfold law_goodM at hm
  obtain ⟨sources_147, e_sources_147, hm⟩ := bnd_inv hm
  refine r_seqA ?_
  refine En.mk W (en_lst (xs := ([] : List Int)) W (sb_tr (B := [])) (by simp) es_nil) hq fun asources_147 H_148 bb na hq' W' M l_asources_147 => ?_
  rw [← e_sources_147] at l_asources_147
  have o_asources_147 := W.al.not na
  have n_asources_147 : asources_147 ∉ [] := fun z => W.al.not na (W.hB _ z)
  have m_asources_147 : asources_147 ∈ asources_147 :: ms := List.mem_cons_self
  have h_asources_147 := u.none na
  have f_p_pieces := Rp.mv f_p_pieces M
  have u := u.trans bb
  have W := W'
  have hq := hq'
  refine r_name ?_
  dsimp only [List.set_cons_succ, List.set_cons_zero]
  obtain ⟨targets_149, e_targets_149, hm⟩ := bnd_inv hm
  refine r_seqA ?_
  refine En.mk W (en_lst (xs := ([] : List Int)) W (sb_tr (B := [])) (by simp) es_nil) hq fun atargets_149 H_150 bb na hq' W' M l_atargets_149 => ?_
  rw [← e_targets_149] at l_atargets_149
  have ne_asources_147_atargets_149 := l_asources_147.ne na
  have ne_atargets_149_asources_147 := ne_asources_147_atargets_149.symm
  have m_asources_147 := List.mem_cons_of_mem atargets_149 m_asources_147
  have o_atargets_149 := not_less (W.al.not na) (fun _ h => List.mem_cons_of_mem _ (h))
  have n_atargets_149 : atargets_149 ∉ [] := fun z => W.al.not na (W.hB _ z)
  have m_atargets_149 : atargets_149 ∈ atargets_149 :: asources_147 :: ms := List.mem_cons_self
  have h_atargets_149 := u.none na
  have f_p_pieces := Rp.mv f_p_pieces M
  have l_asources_147 := l_asources_147.step M fun o e => bb.1 _ o n_asources_147 e
  have u := u.trans bb
  have W := W'
  have hq := hq'
  refine r_name ?_
  dsimp only [List.set_cons_succ, List.set_cons_zero]
  refine r_seqF' ?_
  refine r_for W (ei_list (ex_var W rfl f_p_pieces)) hq fun J N_152 H_151 bb hq W M st_nN_152 nN_152 ok_N_152 => ?_
  have f_p_pieces := Rp.mv f_p_pieces M
  have l_asources_147 := l_asources_147.step M fun o e => bb.1 _ o n_asources_147 e
  have l_atargets_149 := l_atargets_149.step M fun o e => bb.1 _ o n_atargets_149 e
  have u := u.trans bb
  obtain ⟨out_157, e_out_157, hm⟩ := bind_inv hm
  have hretN_152 : ∀ r', out_157 = .ret r' → some r' = some r := fun r' e => by
    rw [e] at hm
    exact hm
  have hgoN_152 := hm
  clear hm
  refine wk_loop (ms := atargets_149 :: asources_147 :: ms) ok_N_152 e_out_157 (fun x σ H' => match x with | (sources_153, targets_154) => ∃ (xl_piece : Option V), ∃ (xl_step : Option V), σ = [some v_p_pieces, some (.ref asources_147), some (.ref atargets_149), xl_piece, xl_step, none, none] ∧ Bu [] H H' ∧ Tr (atargets_149 :: asources_147 :: ms) H' ∧ Wd [] (atargets_149 :: asources_147 :: ms) H' ∧ N_152 (atargets_149 :: asources_147 :: ms) H' ∧ Rp.rp (atargets_149 :: asources_147 :: ms) H' (v_p_pieces) p_pieces ∧ Ls (atargets_149 :: asources_147 :: ms) H' asources_147 sources_153 ∧ Ls (atargets_149 :: asources_147 :: ms) H' atargets_149 targets_154) ⟨_, _, rfl, u, hq, W, nN_152, f_p_pieces, l_asources_147, l_atargets_149⟩ ?_ ?_ ?_
  · intro x σ H' hI
    obtain ⟨sources_153, targets_154⟩ := x
    try dsimp only at hI
    obtain ⟨xl_piece, xl_step, rfl, u, hq, W, nN_152, f_p_pieces, l_asources_147, l_atargets_149⟩ := hI
    exact ⟨nN_152, W.al⟩
  · intro y_156 v x flN_152 σ H_158 H_159 hI s1 rv hf hret
    obtain ⟨sources_153, targets_154⟩ := x
    try dsimp only at hI
    obtain ⟨xl_piece, xl_step, rfl, u, hq, W, nN_152, f_p_pieces, l_asources_147, l_atargets_149⟩ := hI
    have hm := hf
    try dsimp only at hm
    have hretN_152' := hret
    have hretN_152 := fun r' e => hretN_152 r' (hretN_152' r' e)
    have bb : Bu [] H_158 H_159 := Bu.same s1
    have M : Mv (atargets_149 :: asources_147 :: ms) H_158 (atargets_149 :: asources_147 :: ms) H_159 := Mv.same s1
    have hq := (sb_tr (B := [])).same s1 hq
    have W := W.bu bb
    have f_p_pieces := Rp.mv f_p_pieces M
    have l_asources_147 := l_asources_147.step M fun o e => bb.1 _ o n_asources_147 e
    have l_atargets_149 := l_atargets_149.step M fun o e => bb.1 _ o n_atargets_149 e
    have nN_152 := st_nN_152.mv nN_152 M
    have u := u.trans bb
    have f_y_156 := rv
    refine (bnd_name : Bnd _ _ _ _ _) _ ?_
    dsimp only [List.set_cons_succ, List.set_cons_zero]
    refine r_seq ?_
    refine r_ifS ?_
    refine Et.go W (et_test (ex_opI0 (z := (decide (y_156.c < (1 : Int)))) (fun _ _ => rfl) (ex_t3 (u := y_156) (ex_var W rfl f_y_156)) (ex_int 1))) hq fun H_160 bb hq W M => ?_
    have f_p_pieces := Rp.mv f_p_pieces M
    have l_asources_147 := l_asources_147.step M fun o e => bb.1 _ o n_asources_147 e
    have l_atargets_149 := l_atargets_149.step M fun o e => bb.1 _ o n_atargets_149 e
    have f_y_156 := Rp.mv f_y_156 M
    have nN_152 := st_nN_152.mv nN_152 M
    have u := u.trans bb
    refine ite_by (fun hc => ?_) (fun hc => ?_)
    · have hm := (if_pos hc).symm.trans hm
      have hm := hretN_152 _ (Option.some.inj hm).symm
      have hm := Option.some.inj hm
      subst hm
      refine r_ret' ?_
      refine Ex.go W (ex_bl false) hq fun v H_161 bb hq W M rv => ?_
      exact Q v _ (Bu.to_same (u.trans bb)) (Rp.mv rv (Mv.less (fun _ h => List.mem_cons_of_mem _ (List.mem_cons_of_mem _ (h)))))
    · have hm := (if_neg hc).symm.trans hm
      refine r_next ?_
      try dsimp only
      obtain ⟨rg_162, e_rg_162, hm⟩ := bind_inv hm
      refine r_forL ?_
      refine r_for W (ei_rng1 (ea_cons W (ex_t3 (u := y_156) (ex_var W rfl f_y_156)) ea_nil) e_rg_162) hq fun J N_164 H_163 bb hq W M st_nN_164 nN_164 ok_N_164 => ?_
      have f_p_pieces := Rp.mv f_p_pieces M
      have l_asources_147 := l_asources_147.step M fun o e => bb.1 _ o n_asources_147 e
      have l_atargets_149 := l_atargets_149.step M fun o e => bb.1 _ o n_atargets_149 e
      have f_y_156 := Rp.mv f_y_156 M
      have nN_152 := st_nN_152.mv nN_152 M
      have u := u.trans bb
      obtain ⟨out_169, e_out_169, hm⟩ := bind_inv hm
      have hretN_164 : ∀ r', out_169 = .ret r' → some (.ret r') = some flN_152 := fun r' e => by
        rw [e] at hm
        exact hm
      have hgoN_164 := hm
      clear hm
      refine wk_loop (ms := atargets_149 :: asources_147 :: ms) ok_N_164 e_out_169 (fun x σ H' => match x with | (sources_165, targets_166) => ∃ (xl_step : Option V), σ = [some v_p_pieces, some (.ref asources_147), some (.ref atargets_149), some v, xl_step, none, none] ∧ Bu [] H H' ∧ Tr (atargets_149 :: asources_147 :: ms) H' ∧ Wd [] (atargets_149 :: asources_147 :: ms) H' ∧ N_152 (atargets_149 :: asources_147 :: ms) H' ∧ N_164 (atargets_149 :: asources_147 :: ms) H' ∧ Rp.rp (atargets_149 :: asources_147 :: ms) H' (v_p_pieces) p_pieces ∧ Ls (atargets_149 :: asources_147 :: ms) H' asources_147 sources_165 ∧ Ls (atargets_149 :: asources_147 :: ms) H' atargets_149 targets_166 ∧ Rp.rp (atargets_149 :: asources_147 :: ms) H' (v) y_156) ⟨_, rfl, u, hq, W, nN_152, nN_164, f_p_pieces, l_asources_147, l_atargets_149, f_y_156⟩ ?_ ?_ ?_
      · intro x σ H' hI
        obtain ⟨sources_165, targets_166⟩ := x
        try dsimp only at hI
        obtain ⟨xl_step, rfl, u, hq, W, nN_152, nN_164, f_p_pieces, l_asources_147, l_atargets_149, f_y_156⟩ := hI
        exact ⟨nN_164, W.al⟩
      · intro y_168 v x flN_164 σ H_170 H_171 hI s1 rv hf hret
        obtain ⟨sources_165, targets_166⟩ := x
        try dsimp only at hI
        obtain ⟨xl_step, rfl, u, hq, W, nN_152, nN_164, f_p_pieces, l_asources_147, l_atargets_149, f_y_156⟩ := hI
        have hm := hf
        try dsimp only at hm
        have hretN_164' := hret
        have hretN_164 := fun r' e => hretN_164 r' (hretN_164' r' e)
        have bb : Bu [] H_170 H_171 := Bu.same s1
        have M : Mv (atargets_149 :: asources_147 :: ms) H_170 (atargets_149 :: asources_147 :: ms) H_171 := Mv.same s1
        have hq := (sb_tr (B := [])).same s1 hq
        have W := W.bu bb
        have f_p_pieces := Rp.mv f_p_pieces M
        have l_asources_147 := l_asources_147.step M fun o e => bb.1 _ o n_asources_147 e
        have l_atargets_149 := l_atargets_149.step M fun o e => bb.1 _ o n_atargets_149 e
        have f_y_156 := Rp.mv f_y_156 M
        have nN_152 := st_nN_152.mv nN_152 M
        have nN_164 := st_nN_164.mv nN_164 M
        have u := u.trans bb
        obtain rfl : v = V.int y_168 := rv
        refine (bnd_name : Bnd _ _ _ _ _) _ ?_
        dsimp only [List.set_cons_succ, List.set_cons_zero]
        refine r_seq ?_
        refine r_ifS ?_
        refine Et.go W (et_or' (et_test (ex_in W (ex_opI0 (z := (y_156.a + y_168)) (fun _ _ => rfl) (ex_t1 (u := y_156) (ex_var W rfl f_y_156)) (ex_vi rfl)) (el_var W rfl n_asources_147 l_asources_147))) fun _ => (et_test (ex_in W (ex_opI0 (z := (y_156.b + y_168)) (fun _ _ => rfl) (ex_t2 (u := y_156) (ex_var W rfl f_y_156)) (ex_vi rfl)) (el_var W rfl n_atargets_149 l_atargets_149)))) hq fun H_172 bb hq W M => ?_
        have f_p_pieces := Rp.mv f_p_pieces M
        have l_asources_147 := l_asources_147.step M fun o e => bb.1 _ o n_asources_147 e
        have l_atargets_149 := l_atargets_149.step M fun o e => bb.1 _ o n_atargets_149 e
        have f_y_156 := Rp.mv f_y_156 M
        have nN_152 := st_nN_152.mv nN_152 M
        have nN_164 := st_nN_164.mv nN_164 M
        have u := u.trans bb
        refine ite_by (fun hc => ?_) (fun hc => ?_)
        · have hm := (if_pos hc).symm.trans hm
          have hm := hretN_164 _ (Option.some.inj hm).symm
          have hm := hretN_152 _ (Option.some.inj hm).symm
          have hm := Option.some.inj hm
          subst hm
          refine r_ret' ?_
          refine Ex.go W (ex_bl false) hq fun v H_173 bb hq W M rv => ?_
          exact Q v _ (Bu.to_same (u.trans bb)) (Rp.mv rv (Mv.less (fun _ h => List.mem_cons_of_mem _ (List.mem_cons_of_mem _ (h)))))
        · have hm := (if_neg hc).symm.trans hm
          refine r_next ?_
          try dsimp only
          obtain ⟨sources_174, e_sources_174, hm⟩ := bind_inv hm
          refine r_seqD ?_
          refine s_app rfl W rfl l_asources_147 m_asources_147 n_asources_147 (sb_tr (B := [])) (ea_cons W (ex_opI0 (z := (y_156.a + y_168)) (fun _ _ => rfl) (ex_t1 (u := y_156) (ex_var W rfl f_y_156)) (ex_vi rfl)) ea_nil) hq e_sources_174 fun H_175 bb hq W M l_asources_147 => ?_
          have f_p_pieces := Rp.mv f_p_pieces M
          have l_atargets_149 := l_atargets_149.step M fun o e => bb.1 _ o (nin ne_atargets_149_asources_147 n_atargets_149) e
          have f_y_156 := Rp.mv f_y_156 M
          have nN_152 := st_nN_152.mv nN_152 M
          have nN_164 := st_nN_164.mv nN_164 M
          have u := u.own2 h_asources_147 bb
          obtain ⟨targets_176, e_targets_176, hm⟩ := bind_inv hm
          refine r_drop ?_
          refine s_app rfl W rfl l_atargets_149 m_atargets_149 n_atargets_149 (sb_tr (B := [])) (ea_cons W (ex_opI0 (z := (y_156.b + y_168)) (fun _ _ => rfl) (ex_t2 (u := y_156) (ex_var W rfl f_y_156)) (ex_vi rfl)) ea_nil) hq e_targets_176 fun H_177 bb hq W M l_atargets_149 => ?_
          have f_p_pieces := Rp.mv f_p_pieces M
          have l_asources_147 := l_asources_147.step M fun o e => bb.1 _ o (nin ne_asources_147_atargets_149 n_asources_147) e
          have f_y_156 := Rp.mv f_y_156 M
          have nN_152 := st_nN_152.mv nN_152 M
          have nN_164 := st_nN_164.mv nN_164 M
          have u := u.own2 h_atargets_149 bb
          try dsimp only
          try dsimp only
          cases hm
          exact ⟨_, rfl, ⟨_, rfl, u, hq, W, nN_152, nN_164, f_p_pieces, l_asources_147, l_atargets_149, f_y_156⟩⟩
      · intro x σ H_167 eo hI
        obtain ⟨sources_165, targets_166⟩ := x
        try dsimp only at hI
        obtain ⟨xl_step, rfl, u, hq, W, nN_152, nN_164, f_p_pieces, l_asources_147, l_atargets_149, f_y_156⟩ := hI
        have hm := hgoN_164
        rw [eo] at hm
        try dsimp only at hm
        try dsimp only
        try dsimp only
        cases hm
        exact ⟨_, rfl, ⟨_, _, rfl, u, hq, W, nN_152, f_p_pieces, l_asources_147, l_atargets_149⟩⟩
  · intro x σ H_155 eo hI
    obtain ⟨sources_153, targets_154⟩ := x
    try dsimp only at hI
    obtain ⟨xl_piece, xl_step, rfl, u, hq, W, nN_152, f_p_pieces, l_asources_147, l_atargets_149⟩ := hI
    have hm := hgoN_152
    rw [eo] at hm
    try dsimp only at hm
    try dsimp only
    obtain ⟨rg_178, e_rg_178, hm⟩ := bind_inv hm
    obtain ⟨cs_180, e_cs_180, hm⟩ := bind_inv hm
    obtain ⟨pairs_183, e_pairs_183, hm⟩ := bnd_inv hm
    refine r_seqA ?_
    refine Ex.go W (En.ex (sb_tr (B := [])) (en_lcL (f := fun (y_179 : Int) => (atI sources_153 y_179).bind fun t_181 => (atI targets_154 y_179).bind fun t_182 => some (some (t_181, t_182))) W (sb_tr (B := [])) (Ei.ej (ei_rng1 (ea_cons W (ex_len (el_var W rfl n_asources_147 l_asources_147)) ea_nil) e_rg_178)) e_cs_180 (fun ms' H' y_179 v r' L hq' rv hm => by
            have W := L.W
            have f_p_pieces := Rp.mv f_p_pieces L.M
            have l_asources_147 := l_asources_147.lt n_asources_147 L
            have l_atargets_149 := l_atargets_149.lt n_atargets_149 L
            obtain rfl : v = V.int y_179 := rv
            obtain ⟨t_181, e_t_181, hm⟩ := bind_inv hm
            obtain ⟨t_182, e_t_182, hm⟩ := bind_inv hm
            cases hm
            exact ⟨_, bnd_name, rfl, true, et_yes, fun h => (by cases h), fun _ => ⟨_, rfl, (ex_tup2 W (sb_tr (B := [])) (u := (t_181, t_182)) (ea_cons W (ex_ixL (el_var W rfl n_asources_147 l_asources_147) (ex_vi rfl) W e_t_181) (ea_cons W (ex_ixL (el_var W rfl n_atargets_149 l_atargets_149) (ex_vi rfl) W e_t_182) ea_nil)))⟩⟩))) hq fun v_185 H_184 bb hq W M rv => ?_
    rw [← e_pairs_183] at rv
    have f_p_pieces := Rp.mv f_p_pieces M
    have l_asources_147 := l_asources_147.step M fun o e => bb.1 _ o n_asources_147 e
    have l_atargets_149 := l_atargets_149.step M fun o e => bb.1 _ o n_atargets_149 e
    have u := u.trans bb
    have f_pairs_183 := rv
    refine (bnd_name : Bnd _ _ _ _ _) _ ?_
    dsimp only [List.set_cons_succ, List.set_cons_zero]
    obtain ⟨t_187, e_t_187, hm⟩ := bind_inv hm
    have hm := Option.some.inj hm
    subst hm
    refine r_ret' ?_
    refine Ex.go W (ex_eqL W (by decide) (el_of W.hB (ex_call (i := (pairs_183, ())) W (sb_tr (B := [])) (ea_cons W (ex_var W rfl f_pairs_183) ea_nil) e_t_187)) (el_of W.hB (ex_var W rfl f_p_pieces))) hq fun v H_188 bb hq W M rv => ?_
    exact Q v _ (Bu.to_same (u.trans bb)) (Rp.mv rv (Mv.less (fun _ h => List.mem_cons_of_mem _ (List.mem_cons_of_mem _ (h)))))
theorem good_app {ps : List Pc} {i : Nat} {p : Pc} (h : ps[i]? = some p) : cellsF (srcF (ps.take (i + 1))) = cellsF (srcF (ps.take i)) ++ rngL p.a p.c.toNat ∧ cellsF (tgtF (ps.take (i + 1))) = cellsF (tgtF (ps.take i)) ++ rngL p.b p.c.toNat := by
  rw [List.take_succ, h]
  unfold cellsF srcF tgtF
  simp [List.flatMap_append]
def GoodP (ps : List Pc) : Prop := PosP ps ∧ (cellsF (srcF ps)).Nodup ∧ (cellsF (tgtF ps)).Nodup ∧ canF (expF ps) = ps
theorem cells_len {ps : List Pc} (h : ∀ p ∈ ps, p.c ≤ 100) : (cellsF (srcF ps)).length ≤ 100 * ps.length := by
  unfold cellsF srcF
  induction ps with
  | nil => simp
  | cons p ps ih =>
    have := h p List.mem_cons_self
    have ih := ih fun q hq => h q (List.mem_cons_of_mem _ hq)
    rw [List.map_cons, List.flatMap_cons, List.length_append, rngL_len, List.length_cons]
    omega
theorem src_tgt_len (ps : List Pc) : (cellsF (srcF ps)).length = (cellsF (tgtF ps)).length := by
  unfold cellsF srcF tgtF
  induction ps with
  | nil => rfl
  | cons p ps ih =>
    rw [List.map_cons, List.map_cons, List.flatMap_cons, List.flatMap_cons, List.length_append, List.length_append, rngL_len, rngL_len, ih]
theorem take_nodup {ps : List Pc} (h : PosP ps) (hs : (cellsF (srcF ps)).Nodup) (ht : (cellsF (tgtF ps)).Nodup) : True := trivial
theorem zip_cells (ps : List Pc) : (cellsF (srcF ps)).zip (cellsF (tgtF ps)) = expF ps := by
  have h1 := exp_src ps
  have h2 := exp_tgt ps
  unfold swpF at h2
  rw [List.map_map] at h2
  rw [← h1, ← h2]
  refine List.ext_getElem? fun i => ?_
  cases h : (expF ps)[i]? with
  | none =>
    have := List.getElem?_eq_none_iff.mp h
    exact List.getElem?_eq_none_iff.mpr (by rw [List.length_zip, List.length_map, List.length_map, Nat.min_self]; exact this)
  | some z => exact (List.getElem?_zip_eq_some (z := z)).mpr ⟨by rw [List.getElem?_map, h]; rfl, by rw [List.getElem?_map, h]; rfl⟩
theorem cells_split {ps : List Pc} {i : Nat} {p : Pc} (h : ps[i]? = some p) : (∃ r, cellsF (srcF ps) = cellsF (srcF (ps.take i)) ++ (rngL p.a p.c.toNat ++ r)) ∧ ∃ r, cellsF (tgtF ps) = cellsF (tgtF (ps.take i)) ++ (rngL p.b p.c.toNat ++ r) := by
  have e : ps = ps.take i ++ p :: ps.drop (i + 1) := by rw [← drop_get h, List.take_append_drop]
  constructor
  · refine ⟨cellsF (srcF (ps.drop (i + 1))), ?_⟩
    conv => lhs; rw [e]
    unfold cellsF srcF
    rw [List.map_append, List.flatMap_append, List.map_cons, List.flatMap_cons]
  · refine ⟨cellsF (tgtF (ps.drop (i + 1))), ?_⟩
    conv => lhs; rw [e]
    unfold cellsF tgtF
    rw [List.map_append, List.flatMap_append, List.map_cons, List.flatMap_cons]
end
end Pf

namespace Pf
open PySem L2
local macro_rules | `(tactic| walk_at "rd1") => `(tactic| first
  | with_reducible refine r_seqA ?_
  | with_reducible refine r_seqD ?_
  | with_reducible refine r_seqF ?_
  | with_reducible refine r_seqN ?_
  | with_reducible refine r_asg ?_
  | with_reducible refine r_drop ?_
  | with_reducible refine r_ret ?_
  | with_reducible refine r_ifS ?_
  | ((with_reducible refine r_next ?_); try dsimp only)
  | ((with_reducible refine r_name ?_); try dsimp only [List.set_cons_succ, List.set_cons_zero, wipe])
  | ((with_reducible refine' r_var ?rdh ?_); (case rdh => rfl))
  | with_reducible refine r_c ?_
  | with_reducible refine r_op ?_
  | with_reducible refine r_un ?_
  | with_reducible refine r_I0 ?_
  | ((with_reducible refine r_I ?_ ?_); (· first | decide | exact Or.inl (by decide) | exact Or.inr (by decide) | (show _ ∧ _; constructor <;> decide) | (show (0:Int) < _; omega) | (show CDiv _ _; unfold CDiv; omega) ))
  | with_reducible refine r_U ?_
  | with_reducible refine r_eqI ?_
  | with_reducible refine r_neI ?_
  | with_reducible refine r_eqB ?_
  | with_reducible refine r_neB ?_
  | with_reducible refine r_test ?_
  | with_reducible refine r_B ?_
  | with_reducible refine r_bl ?_
  | with_reducible refine r_bl2 ?_
  | with_reducible refine r_yes ?_
  | with_reducible refine r_wipe (by rfl) ?_
  | with_reducible refine r_rfl ?_
  | ((with_reducible refine' r_eqA ?rdh ?_); (case rdh => rfl))
  | with_reducible refine r_and ?_
  | with_reducible refine r_or ?_
  | with_reducible refine r_not ?_
  | with_reducible refine r_andV ?_
  | with_reducible refine r_orV ?_
  | with_reducible refine r_notV ?_
  | with_reducible refine r_ifE ?_
  | with_reducible refine r_nil ?_
  | with_reducible refine r_cons ?_
  | with_reducible refine r_tup ?_
  | with_reducible refine r_lst ?_
  | with_reducible refine r_CB ?_
  | with_reducible refine r_call ?_
  | with_reducible refine r_bm ?_
  | with_reducible refine r_bm0 ?_
  | with_reducible refine r_int ?_
  | with_reducible refine r_i2 ?_
  | with_reducible refine r_i1 ?_
  | with_reducible refine r_gcons ?_
  | with_reducible refine r_gnil ?_
  | with_reducible refine r_gsub ?_
  | with_reducible refine iteT ?_
  | with_reducible refine iteF ?_
  | with_reducible refine ite_notT ?_
  | with_reducible refine ite_notF ?_
  | with_reducible refine r_isi_ib ?_
  | with_reducible refine r_isi_ii ?_
  | with_reducible refine r_isi_bb ?_
  | with_reducible refine r_isi_nb ?_
  | with_reducible refine r_isi_nt ?_
  | ((with_reducible refine' r_isi_ll ?rdh ?_); (case rdh => first | assumption | exact upd_same))
  | ((with_reducible refine' r_isi_tt ?rdh ?_); (case rdh => first | assumption | exact upd_same))
  | with_reducible refine r_sl ?_
  | with_reducible refine r_noPart ?_
  | with_reducible refine r_part ?_
  | with_reducible refine r_int1 ?_
  | with_reducible refine r_tru ?_
  | with_reducible refine r_ckw ?_
  | with_reducible refine r_lc ?_
  | with_reducible refine r_lc2 ?_
  | with_reducible refine r_forS ?_
  | with_reducible refine r_iR1 ?_
  | with_reducible refine r_iR2 ?_
  | with_reducible refine r_iL ?_
  | ((with_reducible refine' r_lenL ?rdh ?_); (case rdh => walk_at "sq"))
  | ((with_reducible refine' r_ixL ?rdh ?rda ?_); (case rdh => walk_at "sq"); (case rda => walk_at "at"))
  | ((with_reducible refine' r_ixT ?rdh ?rda ?_); (case rdh => walk_at "sq"); (case rda => walk_at "at")))
local macro_rules | `(tactic| walk_at "sq") => `(tactic| first
  | assumption
  | exact SqL.of (by assumption)
  | exact SqL.of upd_same
  | exact SqT.of (by assumption)
  | exact SqT.of upd_same)
local macro_rules | `(tactic| walk_at "sml") => `(tactic| (rw [sizeLine_eq]; simp))
local macro_rules | `(tactic| walk_at "at") => `(tactic| first | assumption | rfl)
local macro_rules | `(tactic| walk_at "rd") => `(tactic| repeat walk_at "rd1")
section
variable {w : World} {P : Program} {base : Heap} {K : PySem.W.Frag} {mg : Str → Option Value}
def continuesM (p_piece : (T3 Int Int Int)) (p_source : Int) (p_target : Int) : Option Bool :=
  bnd (p_piece) fun t_189 => bnd (t_189.a) fun first_193 => bnd (t_189.b) fun image_194 => bnd (t_189.c) fun length_195 => some ((decide ((first_193 + length_195) = p_source)) && (decide ((image_194 + length_195) = p_target)))
theorem mk_continues {f  : Addr} {fd  : FuncData} (T : Txt mg) (F : Fun K "_continues" "_continues" s_continues f fd) (m : mg "_continues" = some (.ref f)) (b : Binds K fd ["piece", "source", "target"] []) :
    Cal P w K mg base "_continues" 1 f fd ["piece", "source", "target"] (spP (fun (i : (T3 Int Int Int) × Int × Int × Unit) => continuesM i.1 i.2.1 i.2.2.1)) := by
  refine ⟨F.ok sc_continues (fun vs H Q E h => ?_) (fun cdv A outer s H vs Q E hr h => ?_), m, F.kp, b⟩
  · obtain ⟨ms, ⟨p_piece, p_source, p_target, ⟨⟩⟩, r, _, ⟨v_p_piece, _, rfl, f_p_piece, ⟨v_p_source, _, rfl, f_p_source, ⟨v_p_target, _, rfl, f_p_target, e0⟩⟩⟩, _⟩ := h
    cases e0
    rfl
  obtain ⟨ms, ⟨p_piece, p_source, p_target, ⟨⟩⟩, r, al, ⟨v_p_piece, _, rfl, f_p_piece, ⟨v_p_source, _, rfl, f_p_source, ⟨v_p_target, _, rfl, f_p_target, e0⟩⟩⟩, hm, Q⟩ := h
  cases e0
  obtain rfl : v_p_source = V.int p_source := f_p_source
  obtain rfl : v_p_target = V.int p_target := f_p_target
  refine ⟨_, (pss_cons (ps_asg (pv 0) (pg_tup rfl (pgs_cons (pg_name (i := 3) sc_continues.nd rfl (Or.inl rfl)) (pgs_cons (pg_name (i := 4) sc_continues.nd rfl (Or.inl rfl)) (pgs_cons (pg_name (i := 5) sc_continues.nd rfl (Or.inl rfl)) pgs_nil))))) (pss_one (ps_ret (pe_and (pe_cmpR op_eq (pe_op op_add (pv 3) (pv 5)) (pv 1) (nomark _)) (pe_one (pe_cmpR op_eq (pe_op op_add (pv 4) (pv 5)) (pv 2) (nomark _))))))), ?_⟩
  try dsimp only [cxOf, Cx.nox, Cx.wish]
  rw [show start ["piece", "source", "target", "first", "image", "length"] [v_p_piece, V.int p_source, V.int p_target] = [some (v_p_piece), some (V.int p_source), some (V.int p_target), none, none, none] from rfl]
  have W : Wd [] ms H := ⟨fun a h => (by cases h), al⟩
  have hq : Tr ms H := trivial
  have hm : continuesM p_piece p_source p_target = some r := hm
  have u : Bu [] H H := Bu.refl _ H
  unfold continuesM at hm
  obtain ⟨t_189, e_t_189, hm⟩ := bnd_inv hm
  refine r_seqA ?_
  refine Ex.go W (ex_var W rfl f_p_piece) hq fun v_191 H_190 bb hq W M rv => ?_
  rw [← e_t_189] at rv
  have f_p_piece := Rp.mv f_p_piece M
  have u := u.trans bb
  obtain ⟨first_193, e_first_193, hm⟩ := bnd_inv hm
  obtain ⟨image_194, e_image_194, hm⟩ := bnd_inv hm
  obtain ⟨length_195, e_length_195, hm⟩ := bnd_inv hm
  obtain ⟨a_k_192, u0_k_192, u1_k_192, u2_k_192, rfl, n_k_192, eh_k_192, r0_k_192, r1_k_192, r2_k_192⟩ := rv
  rw [← e_first_193] at r0_k_192
  obtain rfl : u0_k_192 = V.int first_193 := r0_k_192
  rw [← e_image_194] at r1_k_192
  obtain rfl : u1_k_192 = V.int image_194 := r1_k_192
  rw [← e_length_195] at r2_k_192
  obtain rfl : u2_k_192 = V.int length_195 := r2_k_192
  refine ((bnd_tup3 eh_k_192 bnd_name bnd_name bnd_name) : Bnd _ _ _ _ _) _ ?_
  dsimp only [List.set_cons_succ, List.set_cons_zero]
  have hm := Option.some.inj hm
  subst hm
  refine r_ret' ?_
  refine Ex.go W (ex_and' (ex_eqI (ex_opI0 (z := (first_193 + length_195)) (fun _ _ => rfl) (ex_vi rfl) (ex_vi rfl)) (ex_vi rfl)) fun _ => (ex_eqI (ex_opI0 (z := (image_194 + length_195)) (fun _ _ => rfl) (ex_vi rfl) (ex_vi rfl)) (ex_vi rfl))) hq fun v H_196 bb hq W M rv => ?_
  exact Q v _ (Bu.to_same (u.trans bb)) (rv)
def pairs_ofM (p_pieces : (List (T3 Int Int Int))) : Option (List (Int × Int)) :=
  (col2L (fun (y_197 : (T3 Int Int Int)) => bnd (y_197.a) fun source_199 => bnd (y_197.b) fun target_200 => bnd (y_197.c) fun length_201 => (rng1 length_201).bind fun rg_203 => some rg_203)
      (fun (y_197 : (T3 Int Int Int)) (y_204 : Int) => bnd (y_197.a) fun source_199 => bnd (y_197.b) fun target_200 => bnd (y_197.c) fun length_201 => some (some ((source_199 + y_204), (target_200 + y_204)))) p_pieces).bind fun cs_202 => some cs_202
theorem mk_pairs_of {f  : Addr} {fd  : FuncData} (T : Txt mg) (F : Fun K "pairs_of" "pairs_of" s_pairs_of f fd) (m : mg "pairs_of" = some (.ref f)) (b : Binds K fd ["pieces"] []) :
    Cal P w K mg base "pairs_of" 1 f fd ["pieces"] (spP (fun (i : (List (T3 Int Int Int)) × Unit) => pairs_ofM i.1)) := by
  refine ⟨F.ok sc_pairs_of (fun vs H Q E h => ?_) (fun cdv A outer s H vs Q E hr h => ?_), m, F.kp, b⟩
  · obtain ⟨ms, ⟨p_pieces, ⟨⟩⟩, r, _, ⟨v_p_pieces, _, rfl, f_p_pieces, e0⟩, _⟩ := h
    cases e0
    rfl
  obtain ⟨ms, ⟨p_pieces, ⟨⟩⟩, r, al, ⟨v_p_pieces, _, rfl, f_p_pieces, e0⟩, hm, Q⟩ := h
  cases e0
  refine ⟨_, (pss_one (ps_ret (show PE _ _ (tLc2 _ _ _ _ _ _ _ [1, 2, 3, 4] [4]) from pe_lc2 (own := [("source", 1), ("target", 2), ("length", 3), ("step", 4)]) (vs1 := [4]) (g := gTup K 3 (gCons (gName 1) (gCons (gName 2) (gCons (gName 3) gNil)))) (g1 := gName 4) (tt := tYes) (tt1 := tYes) rfl sc_pairs_of.nd (pi_list (pv 0)) (blkOk_by (own := [("source", 1), ("target", 2), ("length", 3), ("step", 4)]) (N := ["pieces", "source", "target", "length", "step"]) (sc := defScope s_pairs_of) (by decide +kernel)) (by decide) (fun _ _ _ _ _ => (pg_tup rfl (pgs_cons (pg_name (i := 1) sc_pairs_of.nd rfl (Or.inl rfl)) (pgs_cons (pg_name (i := 2) sc_pairs_of.nd rfl (Or.inl rfl)) (pgs_cons (pg_name (i := 3) sc_pairs_of.nd rfl (Or.inl rfl)) pgs_nil))))) (fun _ _ _ _ _ => pts_nil) (fun _ _ _ _ _ => (pi_range1 rfl T.range (pa_cons (pv 3) pa_nil))) (fun _ _ _ _ _ => (pg_name (i := 4) sc_pairs_of.nd rfl (Or.inl rfl))) (fun _ _ _ _ _ => pts_nil) (fun _ _ _ _ _ => (pe_tup (pa_cons (pe_op op_add (pv 1) (pv 4)) (pa_cons (pe_op op_add (pv 2) (pv 4)) pa_nil))))))), ?_⟩
  try dsimp only [cxOf, Cx.nox, Cx.wish]
  rw [show start ["pieces", "source", "target", "length", "step"] [v_p_pieces] = [some (v_p_pieces), none, none, none, none] from rfl]
  have W : Wd [] ms H := ⟨fun a h => (by cases h), al⟩
  have hq : Tr ms H := trivial
  have hm : pairs_ofM p_pieces = some r := hm
  have u : Bu [] H H := Bu.refl _ H
  unfold pairs_ofM at hm
  obtain ⟨cs_202, e_cs_202, hm⟩ := bind_inv hm
  have hm := Option.some.inj hm
  subst hm
  refine r_ret' ?_
  refine Ex.go W (En.ex (sb_tr (B := [])) (en_lc2L (gg := fun (y_197 : (T3 Int Int Int)) => bnd (y_197.a) fun source_199 => bnd (y_197.b) fun target_200 => bnd (y_197.c) fun length_201 => (rng1 length_201).bind fun rg_203 => some rg_203)
          (f := fun (y_197 : (T3 Int Int Int)) (y_204 : Int) => bnd (y_197.a) fun source_199 => bnd (y_197.b) fun target_200 => bnd (y_197.c) fun length_201 => some (some ((source_199 + y_204), (target_200 + y_204)))) W (sb_tr (B := [])) (ei_list (ex_var W rfl f_p_pieces)) e_cs_202 (fun ms' H' y_197 v cs' L hq' rv hm => by
          have f0_p_pieces := f_p_pieces
          have W := L.W
          have f_p_pieces := Rp.mv f_p_pieces L.M
          obtain ⟨source_199, e_source_199, hm⟩ := bnd_inv hm
          obtain ⟨target_200, e_target_200, hm⟩ := bnd_inv hm
          obtain ⟨length_201, e_length_201, hm⟩ := bnd_inv hm
          obtain ⟨a_k_198, u0_k_198, u1_k_198, u2_k_198, rfl, n_k_198, eh_k_198, r0_k_198, r1_k_198, r2_k_198⟩ := rv
          rw [← e_source_199] at r0_k_198
          obtain rfl : u0_k_198 = V.int source_199 := r0_k_198
          rw [← e_target_200] at r1_k_198
          obtain rfl : u1_k_198 = V.int target_200 := r1_k_198
          rw [← e_length_201] at r2_k_198
          obtain rfl : u2_k_198 = V.int length_201 := r2_k_198
          obtain ⟨rg_203, e_rg_203, hm⟩ := bind_inv hm
          cases hm
          refine ⟨_, (bnd_tup3 eh_k_198 bnd_name bnd_name bnd_name), rfl, (ei_rng1 (ea_cons W (ex_vi rfl) ea_nil) e_rg_203), fun ms' H' y_204 u' r' L2 hq' rv2 ru hm2 => ?_⟩
          have W := L2.W
          have f_p_pieces := Rp.mv f0_p_pieces L2.M
          obtain ⟨z_205, e_z_205, hm2⟩ := bnd_inv hm2
          obtain rfl : source_199 = z_205 := e_source_199.trans e_z_205.symm
          obtain ⟨z_206, e_z_206, hm2⟩ := bnd_inv hm2
          obtain rfl : target_200 = z_206 := e_target_200.trans e_z_206.symm
          obtain ⟨z_207, e_z_207, hm2⟩ := bnd_inv hm2
          obtain rfl : length_201 = z_207 := e_length_201.trans e_z_207.symm
          obtain rfl : u' = V.int y_204 := ru
          cases hm2
          exact ⟨_, bnd_name, rfl, _, rfl, (ex_tup2 W (sb_tr (B := [])) (u := ((source_199 + y_204), (target_200 + y_204))) (ea_cons W (ex_opI0 (z := (source_199 + y_204)) (fun _ _ => rfl) (ex_vi rfl) (ex_vi rfl)) (ea_cons W (ex_opI0 (z := (target_200 + y_204)) (fun _ _ => rfl) (ex_vi rfl) (ex_vi rfl)) ea_nil)))⟩))) hq fun v H_208 bb hq W M rv => ?_
  exact Q v _ (Bu.to_same (u.trans bb)) (rv)
def canonicalM (p_pairs : (List (Int × Int))) : Option (List (T3 Int Int Int)) :=
  bnd (([] : List (T3 Int Int Int))) fun pieces_209 => (fold (fun (y_215 : (Int × Int)) (pieces_213 : (List (T3 Int Int Int))) => bnd (y_215.1) fun source_220 => bnd (y_215.2) fun target_221 => (if (!pieces_213.isEmpty) = true then (atI pieces_213 (-1 : Int)).bind fun t_224 => (continuesM t_224 source_220 target_221).bind fun t_225 => some t_225 else some false).bind fun t_226 => if t_226 = true then ((atI pieces_213 (-1 : Int)).bind fun t_228 => bnd (t_228) fun t_229 => bnd (t_229.a) fun first_233 => bnd (t_229.b) fun image_234 => bnd (t_229.c) fun length_235 => (setF pieces_213 (-1 : Int) (T3.mk first_233 image_234 (length_235 + (1 : Int)))).bind fun pieces_236 => some pieces_236) else ((appF pieces_213 (T3.mk source_220 target_221 (1 : Int))).bind fun pieces_238 => some pieces_238) : (Int × Int) → (List (T3 Int Int Int)) → Option (List (T3 Int Int Int))) (sortP p_pairs) pieces_209).bind fun pieces_213 => some pieces_213
theorem mk_canonical {f f1 : Addr} {fd fd1 : FuncData} (T : Txt mg) (F : Fun K "canonical" "canonical" s_canonical f fd) (m : mg "canonical" = some (.ref f)) (b : Binds K fd ["pairs"] [])
    (C_continues : Cal P w K mg base "_continues" 1 f1 fd1 ["piece", "source", "target"] (spP (fun (i : (T3 Int Int Int) × Int × Int × Unit) => continuesM i.1 i.2.1 i.2.2.1))) :
    Cal P w K mg base "canonical" 2 f fd ["pairs"] (spP (fun (i : (List (Int × Int)) × Unit) => canonicalM i.1)) := by
  refine ⟨F.ok sc_canonical (fun vs H Q E h => ?_) (fun cdv A outer s H vs Q E hr h => ?_), m, F.kp, b⟩
  · obtain ⟨ms, ⟨p_pairs, ⟨⟩⟩, r, _, ⟨v_p_pairs, _, rfl, f_p_pairs, e0⟩, _⟩ := h
    cases e0
    rfl
  obtain ⟨ms, ⟨p_pairs, ⟨⟩⟩, r, al, ⟨v_p_pairs, _, rfl, f_p_pairs, e0⟩, hm, Q⟩ := h
  cases e0
  refine ⟨_, (pss_cons (ps_set (i := 1) sc_canonical.nd rfl (Or.inl rfl) (pe_lst pa_nil)) (pss_cons (ps_for PassesOwn.never rfl (pi_list (pe_callB (show CallR _ _ (rSortedPO K) from cr_sortedPO) (by rfl) T.sorted (by decide +kernel) (pa_cons (pv 0) pa_nil))) (pg_tup rfl (pgs_cons (pg_name (i := 2) sc_canonical.nd rfl (Or.inl rfl)) (pgs_cons (pg_name (i := 3) sc_canonical.nd rfl (Or.inl rfl)) pgs_nil)))
      (pss_one (ps_if (PW.pt (pw_and (pt_truthN (pv 1)) (pw_and1 (pt_val (pe_call C_continues.ok (hr.mono (by first | decide | omega)) rfl C_continues.mg C_continues.kp C_continues.b .nil pass0 (pa_cons (pe_ix (show IxR _ (rIxL K) from ix_list) (pv 1) (pe_un un_neg pe_int) (fun _ _ => rfl)) (pa_cons (pv 2) (pa_cons (pv 3) pa_nil))))))))
      (pss_cons (ps_asg (pe_ix (show IxR _ (rIxL K) from ix_list) (pv 1) (pe_un un_neg pe_int) (fun _ _ => rfl)) (pg_tup rfl (pgs_cons (pg_name (i := 4) sc_canonical.nd rfl (Or.inl rfl)) (pgs_cons (pg_name (i := 5) sc_canonical.nd rfl (Or.inl rfl)) (pgs_cons (pg_name (i := 6) sc_canonical.nd rfl (Or.inl rfl)) pgs_nil))))) (pss_one (ps_asg (pe_tup (pa_cons (pv 4) (pa_cons (pv 5) (pa_cons (pe_op op_add (pv 6) pe_int) pa_nil)))) (pg_sub (pv 1) (pe_un un_neg pe_int) set_list))))
      (pss_one (ps_expr (pe_bm PySem.F.plainAttrs_list PySem.F.slot_list_append PySem.F.type_list_append mt_append (pv 1) (pa_cons (pe_tup (pa_cons (pv 2) (pa_cons (pv 3) (pa_cons pe_int pa_nil)))) pa_nil))))))) (pss_one (ps_ret (pv 1))))), ?_⟩
  try dsimp only [cxOf, Cx.nox, Cx.wish]
  rw [show start ["pairs", "pieces", "source", "target", "first", "image", "length"] [v_p_pairs] = [some (v_p_pairs), none, none, none, none, none, none] from rfl]
  have W : Wd [] ms H := ⟨fun a h => (by cases h), al⟩
  have hq : Tr ms H := trivial
  have hm : canonicalM p_pairs = some r := hm
  have u : Bu [] H H := Bu.refl _ H
  unfold canonicalM at hm
  obtain ⟨pieces_209, e_pieces_209, hm⟩ := bnd_inv hm
  refine r_seqA ?_
  refine En.mk W (en_lst (xs := ([] : List (T3 Int Int Int))) W (sb_tr (B := [])) (by simp) es_nil) hq fun apieces_209 H_210 bb na hq' W' M l_apieces_209 => ?_
  rw [← e_pieces_209] at l_apieces_209
  have o_apieces_209 := W.al.not na
  have n_apieces_209 : apieces_209 ∉ [] := fun z => W.al.not na (W.hB _ z)
  have m_apieces_209 : apieces_209 ∈ apieces_209 :: ms := List.mem_cons_self
  have h_apieces_209 := u.none na
  have f_p_pairs := Rp.mv f_p_pairs M
  have u := u.trans bb
  have W := W'
  have hq := hq'
  refine r_name ?_
  dsimp only [List.set_cons_succ, List.set_cons_zero]
  refine r_seqF' ?_
  refine r_for W (ei_list (En.ex (sb_tr (B := [])) (en_sortP W (sb_tr (B := [])) (el_of W.hB (ex_var W rfl f_p_pairs))))) hq fun J N_212 H_211 bb hq W M st_nN_212 nN_212 ok_N_212 => ?_
  have f_p_pairs := Rp.mv f_p_pairs M
  have l_apieces_209 := l_apieces_209.step M fun o e => bb.1 _ o n_apieces_209 e
  have u := u.trans bb
  obtain ⟨out_216, e_out_216, hm⟩ := bind_inv hm
  have hgoN_212 := hm
  clear hm
  refine wk_fold (ms := apieces_209 :: ms) ok_N_212 e_out_216 (fun pieces_213 σ H' => ∃ (xl_source : Option V), ∃ (xl_target : Option V), ∃ (xl_first : Option V), ∃ (xl_image : Option V), ∃ (xl_length : Option V), σ = [some v_p_pairs, some (.ref apieces_209), xl_source, xl_target, xl_first, xl_image, xl_length] ∧ Bu [] H H' ∧ Tr (apieces_209 :: ms) H' ∧ Wd [] (apieces_209 :: ms) H' ∧ N_212 (apieces_209 :: ms) H' ∧ Rp.rp (apieces_209 :: ms) H' (v_p_pairs) p_pairs ∧ Ls (apieces_209 :: ms) H' apieces_209 pieces_213) ⟨_, _, _, _, _, rfl, u, hq, W, nN_212, f_p_pairs, l_apieces_209⟩ ?_ ?_ ?_
  · intro pieces_213 σ H' hI
    try dsimp only at hI
    obtain ⟨xl_source, xl_target, xl_first, xl_image, xl_length, rfl, u, hq, W, nN_212, f_p_pairs, l_apieces_209⟩ := hI
    exact ⟨nN_212, W.al⟩
  · intro y_215 v pieces_213 x' σ H_217 H_218 hI s1 rv hf
    try dsimp only at hI
    obtain ⟨xl_source, xl_target, xl_first, xl_image, xl_length, rfl, u, hq, W, nN_212, f_p_pairs, l_apieces_209⟩ := hI
    have hm := hf
    try dsimp only at hm
    have bb : Bu [] H_217 H_218 := Bu.same s1
    have M : Mv (apieces_209 :: ms) H_217 (apieces_209 :: ms) H_218 := Mv.same s1
    have hq := (sb_tr (B := [])).same s1 hq
    have W := W.bu bb
    have f_p_pairs := Rp.mv f_p_pairs M
    have l_apieces_209 := l_apieces_209.step M fun o e => bb.1 _ o n_apieces_209 e
    have nN_212 := st_nN_212.mv nN_212 M
    have u := u.trans bb
    obtain ⟨source_220, e_source_220, hm⟩ := bnd_inv hm
    obtain ⟨target_221, e_target_221, hm⟩ := bnd_inv hm
    obtain ⟨a_k_219, u0_k_219, u1_k_219, rfl, n_k_219, eh_k_219, r0_k_219, r1_k_219⟩ := rv
    rw [← e_source_220] at r0_k_219
    obtain rfl : u0_k_219 = V.int source_220 := r0_k_219
    rw [← e_target_221] at r1_k_219
    obtain rfl : u1_k_219 = V.int target_221 := r1_k_219
    refine ((bnd_tup2 eh_k_219 bnd_name bnd_name) : Bnd _ _ _ _ _) _ ?_
    dsimp only [List.set_cons_succ, List.set_cons_zero]
    obtain ⟨t_226, e_t_226, hm⟩ := bind_inv hm
    refine r_ifS ?_
    refine Et.go W (et_and (d := t_226) (et_truL (el_var W rfl n_apieces_209 l_apieces_209)) (fun c => by
            have hm := (if_pos c).symm.trans e_t_226
            obtain ⟨t_224, e_t_224, hm⟩ := bind_inv hm
            obtain ⟨t_225, e_t_225, hm⟩ := bind_inv hm
            rw [← Option.some.inj hm]
            exact (et_val (ex_call (i := (t_224, source_220, target_221, ())) W (sb_tr (B := [])) (ea_cons W (ex_ixL (el_var W rfl n_apieces_209 l_apieces_209) (ex_opU (z := (-1 : Int)) (fun _ _ => rfl) (ex_int 1)) W e_t_224) (ea_cons W (ex_vi rfl) (ea_cons W (ex_vi rfl) ea_nil))) e_t_225)))
            (fun c => by
            have hm := (if_neg (by rw [c]; decide)).symm.trans e_t_226
            cases hm
            exact ⟨rfl, fun _ h => h⟩)) hq fun H_227 bb hq W M => ?_
    have f_p_pairs := Rp.mv f_p_pairs M
    have l_apieces_209 := l_apieces_209.step M fun o e => bb.1 _ o n_apieces_209 e
    have nN_212 := st_nN_212.mv nN_212 M
    have u := u.trans bb
    refine ite_by (fun hc => ?_) (fun hc => ?_)
    · have hm := (if_pos hc).symm.trans hm
      obtain ⟨t_228, e_t_228, hm⟩ := bind_inv hm
      obtain ⟨t_229, e_t_229, hm⟩ := bnd_inv hm
      refine r_seqA ?_
      refine Ex.go W (ex_ixL (el_var W rfl n_apieces_209 l_apieces_209) (ex_opU (z := (-1 : Int)) (fun _ _ => rfl) (ex_int 1)) W e_t_228) hq fun v_231 H_230 bb hq W M rv => ?_
      rw [← e_t_229] at rv
      have f_p_pairs := Rp.mv f_p_pairs M
      have l_apieces_209 := l_apieces_209.step M fun o e => bb.1 _ o n_apieces_209 e
      have nN_212 := st_nN_212.mv nN_212 M
      have u := u.trans bb
      obtain ⟨first_233, e_first_233, hm⟩ := bnd_inv hm
      obtain ⟨image_234, e_image_234, hm⟩ := bnd_inv hm
      obtain ⟨length_235, e_length_235, hm⟩ := bnd_inv hm
      obtain ⟨a_k_232, u0_k_232, u1_k_232, u2_k_232, rfl, n_k_232, eh_k_232, r0_k_232, r1_k_232, r2_k_232⟩ := rv
      rw [← e_first_233] at r0_k_232
      obtain rfl : u0_k_232 = V.int first_233 := r0_k_232
      rw [← e_image_234] at r1_k_232
      obtain rfl : u1_k_232 = V.int image_234 := r1_k_232
      rw [← e_length_235] at r2_k_232
      obtain rfl : u2_k_232 = V.int length_235 := r2_k_232
      refine ((bnd_tup3 eh_k_232 bnd_name bnd_name bnd_name) : Bnd _ _ _ _ _) _ ?_
      dsimp only [List.set_cons_succ, List.set_cons_zero]
      obtain ⟨pieces_236, e_pieces_236, hm⟩ := bind_inv hm
      refine r_asg ?_
      refine s_setix W rfl l_apieces_209 m_apieces_209 n_apieces_209 (sb_tr (B := [])) (ex_tup3 W (sb_tr (B := [])) (u := T3.mk first_233 image_234 (length_235 + (1 : Int))) (ea_cons W (ex_vi rfl) (ea_cons W (ex_vi rfl) (ea_cons W (ex_opI0 (z := (length_235 + (1 : Int))) (fun _ _ => rfl) (ex_vi rfl) (ex_int 1)) ea_nil)))) (ex_opU (z := (-1 : Int)) (fun _ _ => rfl) (ex_int 1)) hq e_pieces_236 fun H_237 bb hq W M l_apieces_209 => ?_
      have f_p_pairs := Rp.mv f_p_pairs M
      have nN_212 := st_nN_212.mv nN_212 M
      have u := u.own2 h_apieces_209 bb
      try dsimp only
      try dsimp only
      try dsimp only
      cases hm
      exact ⟨_, _, _, _, _, rfl, u, hq, W, nN_212, f_p_pairs, l_apieces_209⟩
    · have hm := (if_neg hc).symm.trans hm
      obtain ⟨pieces_238, e_pieces_238, hm⟩ := bind_inv hm
      refine r_drop ?_
      refine s_app rfl W rfl l_apieces_209 m_apieces_209 n_apieces_209 (sb_tr (B := [])) (ea_cons W (ex_tup3 W (sb_tr (B := [])) (u := T3.mk source_220 target_221 (1 : Int)) (ea_cons W (ex_vi rfl) (ea_cons W (ex_vi rfl) (ea_cons W (ex_int 1) ea_nil)))) ea_nil) hq e_pieces_238 fun H_239 bb hq W M l_apieces_209 => ?_
      have f_p_pairs := Rp.mv f_p_pairs M
      have nN_212 := st_nN_212.mv nN_212 M
      have u := u.own2 h_apieces_209 bb
      try dsimp only
      try dsimp only
      try dsimp only
      cases hm
      exact ⟨_, _, _, _, _, rfl, u, hq, W, nN_212, f_p_pairs, l_apieces_209⟩
  · intro σ H_214 hI
    obtain ⟨pieces_213, hE⟩ : ∃ z, z = out_216 := ⟨_, rfl⟩
    rw [← hE] at hI hgoN_212
    try dsimp only at hI
    obtain ⟨xl_source, xl_target, xl_first, xl_image, xl_length, rfl, u, hq, W, nN_212, f_p_pairs, l_apieces_209⟩ := hI
    have hm := hgoN_212
    try dsimp only at hm
    try dsimp only
    have sub : ∀ a ∈ ms, a ∈ apieces_209 :: ms := ((.cons _ (.refl _)) : List.Sublist (ms) (apieces_209 :: ms)).subset
    have M : Mv (apieces_209 :: ms) H_214 (ms) H_214 := Mv.less sub
    have hq := (sb_tr (B := [])) _ _ _ _ hq M fun _ _ _ e => e
    have W : Wd [] (ms) H_214 := ⟨fun a h => (by cases h), W.al.less sub⟩
    have f_p_pairs := Rp.mv f_p_pairs M
    have f_pieces_213 : Rp.rp (ms) H_214 (.ref apieces_209) pieces_213 := ⟨apieces_209, rfl, o_apieces_209, l_apieces_209.less sub⟩
    have hm := Option.some.inj hm
    subst hm
    refine r_ret' ?_
    refine Ex.go W (ex_var W rfl f_pieces_213) hq fun v H_240 bb hq W M rv => ?_
    exact Q v _ (Bu.to_same (u.trans bb)) (rv)
theorem continuesM_ok (p : Pc) (s t : Int) : continuesM p s t = some (decide (p.a + p.c = s) && decide (p.b + p.c = t)) := rfl
theorem canonicalM_ok {ps : List (Int × Int)} (h : ps.length ≤ 1000) : canonicalM ps = some (canF ps) := by
  unfold canonicalM canF
  simp only [bnd]
  rw [fold_foldl (g := joinF) List.length 100000 (fun y x hx => ⟨?_, joinF_len x y⟩) _ _ (by rw [sortP_len]; simp; omega)]
  · rfl
  rcases snoc_cases x with rfl | ⟨qs, q, rfl⟩
  · dsimp only [List.isEmpty_nil]
    rw [if_neg (by decide), Option.bind_some, if_neg (by decide), appF_ok (by simp)]
    rfl
  · rw [if_pos (by simp), at_last]
    simp only [Option.bind_some, continuesM_ok]
    rw [joinF_snoc]
    by_cases c : q.a + q.c = y.1 ∧ q.b + q.c = y.2
    · rw [if_pos (by simp [c]), setF_last, if_pos c]
      rfl
    · rw [if_neg (by simpa using c), appF_ok (by omega), if_neg c]
      rfl

theorem law_canonicalM_ok {ps : List (Int × Int)} (h : ps.length ≤ 1000) : law_canonicalM ps = some (canF ps) := by
  unfold law_canonicalM canF
  simp only [bnd]
  rw [fold_foldl (g := joinF) List.length 100000 (fun y x hx => ⟨?_, joinF_len x y⟩) _ _ (by rw [sortP_len]; simp; omega)]
  · rfl
  rcases snoc_cases x with rfl | ⟨qs, q, rfl⟩
  · rw [if_neg (by simp)]
    simp only [Option.bind_some, Option.isNone_none, Bool.not_true, Bool.false_eq_true, if_false]
    rw [appF_ok (by simp)]
    rfl
  · rw [if_pos (by simp), at_last]
    simp only [Option.bind_some, Option.isNone_some, Bool.not_false, if_true]
    rw [joinF_snoc]
    by_cases c : q.a + q.c = y.1 ∧ q.b + q.c = y.2
    · rw [if_pos (by simp [c]), setF_last, if_pos c]
      rfl
    · rw [if_neg (by simpa using c), appF_ok (by omega), if_neg c]
      rfl
end
end Pf

namespace Pf
open PySem L2
local macro_rules | `(tactic| walk_at "rd1") => `(tactic| first
  | with_reducible refine r_seqA ?_
  | with_reducible refine r_seqD ?_
  | with_reducible refine r_seqF ?_
  | with_reducible refine r_seqN ?_
  | with_reducible refine r_asg ?_
  | with_reducible refine r_drop ?_
  | with_reducible refine r_ret ?_
  | with_reducible refine r_ifS ?_
  | ((with_reducible refine r_next ?_); try dsimp only)
  | ((with_reducible refine r_name ?_); try dsimp only [List.set_cons_succ, List.set_cons_zero, wipe])
  | ((with_reducible refine' r_var ?rdh ?_); (case rdh => rfl))
  | with_reducible refine r_c ?_
  | with_reducible refine r_op ?_
  | with_reducible refine r_un ?_
  | with_reducible refine r_I0 ?_
  | ((with_reducible refine r_I ?_ ?_); (· first | decide | exact Or.inl (by decide) | exact Or.inr (by decide) | (show _ ∧ _; constructor <;> decide) | (show (0:Int) < _; omega) | (show CDiv _ _; unfold CDiv; omega) ))
  | with_reducible refine r_U ?_
  | with_reducible refine r_eqI ?_
  | with_reducible refine r_neI ?_
  | with_reducible refine r_eqB ?_
  | with_reducible refine r_neB ?_
  | with_reducible refine r_test ?_
  | with_reducible refine r_B ?_
  | with_reducible refine r_bl ?_
  | with_reducible refine r_bl2 ?_
  | with_reducible refine r_yes ?_
  | with_reducible refine r_wipe (by rfl) ?_
  | with_reducible refine r_rfl ?_
  | ((with_reducible refine' r_eqA ?rdh ?_); (case rdh => rfl))
  | with_reducible refine r_and ?_
  | with_reducible refine r_or ?_
  | with_reducible refine r_not ?_
  | with_reducible refine r_andV ?_
  | with_reducible refine r_orV ?_
  | with_reducible refine r_notV ?_
  | with_reducible refine r_ifE ?_
  | with_reducible refine r_nil ?_
  | with_reducible refine r_cons ?_
  | with_reducible refine r_tup ?_
  | with_reducible refine r_lst ?_
  | with_reducible refine r_CB ?_
  | with_reducible refine r_call ?_
  | with_reducible refine r_bm ?_
  | with_reducible refine r_bm0 ?_
  | with_reducible refine r_int ?_
  | with_reducible refine r_i2 ?_
  | with_reducible refine r_i1 ?_
  | with_reducible refine r_gcons ?_
  | with_reducible refine r_gnil ?_
  | with_reducible refine r_gsub ?_
  | with_reducible refine iteT ?_
  | with_reducible refine iteF ?_
  | with_reducible refine ite_notT ?_
  | with_reducible refine ite_notF ?_
  | with_reducible refine r_isi_ib ?_
  | with_reducible refine r_isi_ii ?_
  | with_reducible refine r_isi_bb ?_
  | with_reducible refine r_isi_nb ?_
  | with_reducible refine r_isi_nt ?_
  | ((with_reducible refine' r_isi_ll ?rdh ?_); (case rdh => first | assumption | exact upd_same))
  | ((with_reducible refine' r_isi_tt ?rdh ?_); (case rdh => first | assumption | exact upd_same))
  | with_reducible refine r_sl ?_
  | with_reducible refine r_noPart ?_
  | with_reducible refine r_part ?_
  | with_reducible refine r_int1 ?_
  | with_reducible refine r_tru ?_
  | with_reducible refine r_ckw ?_
  | with_reducible refine r_lc ?_
  | with_reducible refine r_lc2 ?_
  | with_reducible refine r_forS ?_
  | with_reducible refine r_iR1 ?_
  | with_reducible refine r_iR2 ?_
  | with_reducible refine r_iL ?_
  | ((with_reducible refine' r_lenL ?rdh ?_); (case rdh => walk_at "sq"))
  | ((with_reducible refine' r_ixL ?rdh ?rda ?_); (case rdh => walk_at "sq"); (case rda => walk_at "at"))
  | ((with_reducible refine' r_ixT ?rdh ?rda ?_); (case rdh => walk_at "sq"); (case rda => walk_at "at")))
local macro_rules | `(tactic| walk_at "sq") => `(tactic| first
  | assumption
  | exact SqL.of (by assumption)
  | exact SqL.of upd_same
  | exact SqT.of (by assumption)
  | exact SqT.of upd_same)
local macro_rules | `(tactic| walk_at "sml") => `(tactic| (rw [sizeLine_eq]; simp))
local macro_rules | `(tactic| walk_at "at") => `(tactic| first | assumption | rfl)
local macro_rules | `(tactic| walk_at "rd") => `(tactic| repeat walk_at "rd1")
section
variable {w : World} {P : Program} {base : Heap} {K : PySem.W.Frag} {mg : Str → Option Value}
def map_addressM (p_pieces : (List (T3 Int Int Int))) (p_address : Int) : Option (Option Int) :=
  (loop (fun (y_244 : (T3 Int Int Int)) (x : Unit) => bnd (y_244.a) fun source_249 => bnd (y_244.b) fun target_250 => bnd (y_244.c) fun length_251 => if (decide (source_249 ≤ p_address) && decide (p_address < (source_249 + length_251))) = true then (some (.ret (some ((target_250 + p_address) - source_249)))) else (some (.go ())) : (T3 Int Int Int) → Unit → Option (Fl (Option Int) Unit)) p_pieces ()).bind fun fl => match fl with | .ret r' => some r' | .go x => some (none : (Option Int))
theorem mk_map_address {f  : Addr} {fd  : FuncData} (T : Txt mg) (F : Fun K "map_address" "map_address" s_map_address f fd) (m : mg "map_address" = some (.ref f)) (b : Binds K fd ["pieces", "address"] []) :
    Cal P w K mg base "map_address" 1 f fd ["pieces", "address"] (spP (fun (i : (List (T3 Int Int Int)) × Int × Unit) => map_addressM i.1 i.2.1)) := by
  refine ⟨F.ok sc_map_address (fun vs H Q E h => ?_) (fun cdv A outer s H vs Q E hr h => ?_), m, F.kp, b⟩
  · obtain ⟨ms, ⟨p_pieces, p_address, ⟨⟩⟩, r, _, ⟨v_p_pieces, _, rfl, f_p_pieces, ⟨v_p_address, _, rfl, f_p_address, e0⟩⟩, _⟩ := h
    cases e0
    rfl
  obtain ⟨ms, ⟨p_pieces, p_address, ⟨⟩⟩, r, al, ⟨v_p_pieces, _, rfl, f_p_pieces, ⟨v_p_address, _, rfl, f_p_address, e0⟩⟩, hm, Q⟩ := h
  cases e0
  obtain rfl : v_p_address = V.int p_address := f_p_address
  refine ⟨_, (pss_cons (ps_for PassesOwn.never rfl (pi_list (pv 0)) (pg_tup rfl (pgs_cons (pg_name (i := 2) sc_map_address.nd rfl (Or.inl rfl)) (pgs_cons (pg_name (i := 3) sc_map_address.nd rfl (Or.inl rfl)) (pgs_cons (pg_name (i := 4) sc_map_address.nd rfl (Or.inl rfl)) pgs_nil))))
      (pss_one (ps_if (pt_chain op_le op_lt (pv 2) (pv 1) (pe_op op_add (pv 2) (pv 4)))
      (pss_one (ps_ret (pe_op op_sub (pe_op op_add (pv 3) (pv 1)) (pv 2))))
      pss_nil))) (pss_one (ps_ret pe_non))), ?_⟩
  try dsimp only [cxOf, Cx.nox, Cx.wish]
  rw [show start ["pieces", "address", "source", "target", "length"] [v_p_pieces, V.int p_address] = [some (v_p_pieces), some (V.int p_address), none, none, none] from rfl]
  have W : Wd [] ms H := ⟨fun a h => (by cases h), al⟩
  have hq : Tr ms H := trivial
  have hm : map_addressM p_pieces p_address = some r := hm
  have u : Bu [] H H := Bu.refl _ H
  unfold map_addressM at hm
  refine r_seqF' ?_
  refine r_for W (ei_list (ex_var W rfl f_p_pieces)) hq fun J N_242 H_241 bb hq W M st_nN_242 nN_242 ok_N_242 => ?_
  have f_p_pieces := Rp.mv f_p_pieces M
  have u := u.trans bb
  obtain ⟨out_245, e_out_245, hm⟩ := bind_inv hm
  have hretN_242 : ∀ r', out_245 = .ret r' → some r' = some r := fun r' e => by
    rw [e] at hm
    exact hm
  have hgoN_242 := hm
  clear hm
  refine wk_loop (ms := ms) ok_N_242 e_out_245 (fun x σ H' => ∃ (xl_source : Option V), ∃ (xl_target : Option V), ∃ (xl_length : Option V), σ = [some v_p_pieces, some (.int p_address), xl_source, xl_target, xl_length] ∧ Bu [] H H' ∧ Tr (ms) H' ∧ Wd [] (ms) H' ∧ N_242 (ms) H' ∧ Rp.rp (ms) H' (v_p_pieces) p_pieces) ⟨_, _, _, rfl, u, hq, W, nN_242, f_p_pieces⟩ ?_ ?_ ?_
  · intro x σ H' hI
    obtain ⟨⟩ := x
    try dsimp only at hI
    obtain ⟨xl_source, xl_target, xl_length, rfl, u, hq, W, nN_242, f_p_pieces⟩ := hI
    exact ⟨nN_242, W.al⟩
  · intro y_244 v x flN_242 σ H_246 H_247 hI s1 rv hf hret
    obtain ⟨⟩ := x
    try dsimp only at hI
    obtain ⟨xl_source, xl_target, xl_length, rfl, u, hq, W, nN_242, f_p_pieces⟩ := hI
    have hm := hf
    try dsimp only at hm
    have hretN_242' := hret
    have hretN_242 := fun r' e => hretN_242 r' (hretN_242' r' e)
    have bb : Bu [] H_246 H_247 := Bu.same s1
    have M : Mv (ms) H_246 (ms) H_247 := Mv.same s1
    have hq := (sb_tr (B := [])).same s1 hq
    have W := W.bu bb
    have f_p_pieces := Rp.mv f_p_pieces M
    have nN_242 := st_nN_242.mv nN_242 M
    have u := u.trans bb
    obtain ⟨source_249, e_source_249, hm⟩ := bnd_inv hm
    obtain ⟨target_250, e_target_250, hm⟩ := bnd_inv hm
    obtain ⟨length_251, e_length_251, hm⟩ := bnd_inv hm
    obtain ⟨a_k_248, u0_k_248, u1_k_248, u2_k_248, rfl, n_k_248, eh_k_248, r0_k_248, r1_k_248, r2_k_248⟩ := rv
    rw [← e_source_249] at r0_k_248
    obtain rfl : u0_k_248 = V.int source_249 := r0_k_248
    rw [← e_target_250] at r1_k_248
    obtain rfl : u1_k_248 = V.int target_250 := r1_k_248
    rw [← e_length_251] at r2_k_248
    obtain rfl : u2_k_248 = V.int length_251 := r2_k_248
    refine ((bnd_tup3 eh_k_248 bnd_name bnd_name bnd_name) : Bnd _ _ _ _ _) _ ?_
    dsimp only [List.set_cons_succ, List.set_cons_zero]
    refine r_ifS ?_
    refine Et.go W (et_chain (ex_chain (g := (fun i j => decide (i ≤ j))) (h := (fun i j => decide (i < j))) (ex_vi rfl) (ex_vi rfl) (ex_opI0 (z := (source_249 + length_251)) (fun _ _ => rfl) (ex_vi rfl) (ex_vi rfl)) rfl)) hq fun H_252 bb hq W M => ?_
    have f_p_pieces := Rp.mv f_p_pieces M
    have nN_242 := st_nN_242.mv nN_242 M
    have u := u.trans bb
    refine ite_by (fun hc => ?_) (fun hc => ?_)
    · have hm := (if_pos hc).symm.trans hm
      have hm := hretN_242 _ (Option.some.inj hm).symm
      have hm := Option.some.inj hm
      subst hm
      refine r_ret' ?_
      refine Ex.go W (ex_some (ex_opI0 (z := ((target_250 + p_address) - source_249)) (fun _ _ => rfl) (ex_opI0 (z := (target_250 + p_address)) (fun _ _ => rfl) (ex_vi rfl) (ex_vi rfl)) (ex_vi rfl))) hq fun v H_253 bb hq W M rv => ?_
      exact Q v _ (Bu.to_same (u.trans bb)) (rv)
    · have hm := (if_neg hc).symm.trans hm
      refine r_next ?_
      try dsimp only
      try dsimp only
      cases hm
      exact ⟨_, rfl, ⟨_, _, _, rfl, u, hq, W, nN_242, f_p_pieces⟩⟩
  · intro x σ H_243 eo hI
    obtain ⟨⟩ := x
    try dsimp only at hI
    obtain ⟨xl_source, xl_target, xl_length, rfl, u, hq, W, nN_242, f_p_pieces⟩ := hI
    have hm := hgoN_242
    rw [eo] at hm
    try dsimp only at hm
    try dsimp only
    have hm := Option.some.inj hm
    subst hm
    refine r_ret' ?_
    refine Ex.go W (ex_non (α := Int)) hq fun v H_254 bb hq W M rv => ?_
    exact Q v _ (Bu.to_same (u.trans bb)) (rv)
theorem map_addressM_ok (ps : List Pc) (x : Int) : map_addressM ps x = some (mapF ps x) := by
  unfold map_addressM
  induction ps with
  | nil => rfl
  | cons p ps ih =>
    unfold loop mapF
    simp only [bnd]
    by_cases c : p.a ≤ x ∧ x < p.a + p.c
    · rw [if_pos c, if_pos (by simp [c])]
      rfl
    · rw [if_neg c, if_neg (by simpa using c)]
      exact ih
theorem pairs_ofM_ok {ps : List Pc} (h : ∀ p ∈ ps, p.c ≤ 1000) (h0 : PosP ps) (hl : (expF ps).length ≤ 10000) : pairs_ofM ps = some (expF ps) := by
  unfold pairs_ofM
  simp only [bnd]
  have e : (ps.flatMap fun p => (rngL 0 p.c.toNat).map fun k => (p.a + k, p.b + k)) = expF ps := rfl
  rw [col2L_flat (G := fun p : Pc => rngL 0 p.c.toNat) (F := fun p k => (p.a + k, p.b + k)) (by rw [e]; omega) (fun p hp => ?_) (fun p hp k hk => rfl), e]
  · rfl
  · have := h p hp
    have := h0 p hp
    rw [rng1_ok (by omega)]
    rfl


/-- a canonical map of few addresses -/
theorem expF_le {ps : List Pc} {p : Pc} (h : p ∈ ps) : p.c ≤ (expF ps).length := by
  obtain ⟨u, v, rfl⟩ := List.append_of_mem h
  rw [expF_app, show p :: v = [p] ++ v from rfl, expF_app, expF_one, List.length_append, List.length_append]
  unfold rowF
  rw [List.length_map, rngL_len]
  omega
theorem pairs_can {ps : List (Int × Int)} (h : ps.length ≤ 1000) : pairs_ofM (canF ps) = some (sortP ps) := by
  have e : (expF (canF ps)).length = ps.length := by rw [canF_exp, sortP_len]
  rw [pairs_ofM_ok (fun p hp => ?_) (canF_pos ps) (by omega), canF_exp]
  have := expF_le hp
  omega
end
end Pf

namespace Pf
open PySem L2
local macro_rules | `(tactic| walk_at "rd1") => `(tactic| first
  | with_reducible refine r_seqA ?_
  | with_reducible refine r_seqD ?_
  | with_reducible refine r_seqF ?_
  | with_reducible refine r_seqN ?_
  | with_reducible refine r_asg ?_
  | with_reducible refine r_drop ?_
  | with_reducible refine r_ret ?_
  | with_reducible refine r_ifS ?_
  | ((with_reducible refine r_next ?_); try dsimp only)
  | ((with_reducible refine r_name ?_); try dsimp only [List.set_cons_succ, List.set_cons_zero, wipe])
  | ((with_reducible refine' r_var ?rdh ?_); (case rdh => rfl))
  | with_reducible refine r_c ?_
  | with_reducible refine r_op ?_
  | with_reducible refine r_un ?_
  | with_reducible refine r_I0 ?_
  | ((with_reducible refine r_I ?_ ?_); (· first | decide | exact Or.inl (by decide) | exact Or.inr (by decide) | (show _ ∧ _; constructor <;> decide) | (show (0:Int) < _; omega) | (show CDiv _ _; unfold CDiv; omega) ))
  | with_reducible refine r_U ?_
  | with_reducible refine r_eqI ?_
  | with_reducible refine r_neI ?_
  | with_reducible refine r_eqB ?_
  | with_reducible refine r_neB ?_
  | with_reducible refine r_test ?_
  | with_reducible refine r_B ?_
  | with_reducible refine r_bl ?_
  | with_reducible refine r_bl2 ?_
  | with_reducible refine r_yes ?_
  | with_reducible refine r_wipe (by rfl) ?_
  | with_reducible refine r_rfl ?_
  | ((with_reducible refine' r_eqA ?rdh ?_); (case rdh => rfl))
  | with_reducible refine r_and ?_
  | with_reducible refine r_or ?_
  | with_reducible refine r_not ?_
  | with_reducible refine r_andV ?_
  | with_reducible refine r_orV ?_
  | with_reducible refine r_notV ?_
  | with_reducible refine r_ifE ?_
  | with_reducible refine r_nil ?_
  | with_reducible refine r_cons ?_
  | with_reducible refine r_tup ?_
  | with_reducible refine r_lst ?_
  | with_reducible refine r_CB ?_
  | with_reducible refine r_call ?_
  | with_reducible refine r_bm ?_
  | with_reducible refine r_bm0 ?_
  | with_reducible refine r_int ?_
  | with_reducible refine r_i2 ?_
  | with_reducible refine r_i1 ?_
  | with_reducible refine r_gcons ?_
  | with_reducible refine r_gnil ?_
  | with_reducible refine r_gsub ?_
  | with_reducible refine iteT ?_
  | with_reducible refine iteF ?_
  | with_reducible refine ite_notT ?_
  | with_reducible refine ite_notF ?_
  | with_reducible refine r_isi_ib ?_
  | with_reducible refine r_isi_ii ?_
  | with_reducible refine r_isi_bb ?_
  | with_reducible refine r_isi_nb ?_
  | with_reducible refine r_isi_nt ?_
  | ((with_reducible refine' r_isi_ll ?rdh ?_); (case rdh => first | assumption | exact upd_same))
  | ((with_reducible refine' r_isi_tt ?rdh ?_); (case rdh => first | assumption | exact upd_same))
  | with_reducible refine r_sl ?_
  | with_reducible refine r_noPart ?_
  | with_reducible refine r_part ?_
  | with_reducible refine r_int1 ?_
  | with_reducible refine r_tru ?_
  | with_reducible refine r_ckw ?_
  | with_reducible refine r_lc ?_
  | with_reducible refine r_lc2 ?_
  | with_reducible refine r_forS ?_
  | with_reducible refine r_iR1 ?_
  | with_reducible refine r_iR2 ?_
  | with_reducible refine r_iL ?_
  | ((with_reducible refine' r_lenL ?rdh ?_); (case rdh => walk_at "sq"))
  | ((with_reducible refine' r_ixL ?rdh ?rda ?_); (case rdh => walk_at "sq"); (case rda => walk_at "at"))
  | ((with_reducible refine' r_ixT ?rdh ?rda ?_); (case rdh => walk_at "sq"); (case rda => walk_at "at")))
local macro_rules | `(tactic| walk_at "sq") => `(tactic| first
  | assumption
  | exact SqL.of (by assumption)
  | exact SqL.of upd_same
  | exact SqT.of (by assumption)
  | exact SqT.of upd_same)
local macro_rules | `(tactic| walk_at "sml") => `(tactic| (rw [sizeLine_eq]; simp))
local macro_rules | `(tactic| walk_at "at") => `(tactic| first | assumption | rfl)
local macro_rules | `(tactic| walk_at "rd") => `(tactic| repeat walk_at "rd1")
section
variable {w : World} {P : Program} {base : Heap} {K : PySem.W.Frag} {mg : Str → Option Value}
def ascendM (p_rows : (List (Int × Int))) : Option Bool :=
  (colL (fun (y_255 : ((Int × Int) × (Int × Int))) => bnd (y_255.1) fun p_257 => bnd (p_257.1) fun start_259 => bnd (p_257.2) fun length_260 => bnd (y_255.2) fun p_261 => bnd (p_261.1) fun other_263 => bnd (p_261.2) fun __264 => some (some (decide ((start_259 + length_260) ≤ other_263)))) (p_rows.zip (cutF p_rows (some (1 : Int)) none))).bind fun cs_265 => some (cs_265.all id)
theorem mk_ascend {f  : Addr} {fd  : FuncData} (T : Txt mg) (F : Fun K "_ascend" "_ascend" s_ascend f fd) (m : mg "_ascend" = some (.ref f)) (b : Binds K fd ["rows"] []) :
    Cal P w K mg base "_ascend" 1 f fd ["rows"] (spP (fun (i : (List (Int × Int)) × Unit) => ascendM i.1)) := by
  refine ⟨F.ok sc_ascend (fun vs H Q E h => ?_) (fun cdv A outer s H vs Q E hr h => ?_), m, F.kp, b⟩
  · obtain ⟨ms, ⟨p_rows, ⟨⟩⟩, r, _, ⟨v_p_rows, _, rfl, f_p_rows, e0⟩, _⟩ := h
    cases e0
    rfl
  obtain ⟨ms, ⟨p_rows, ⟨⟩⟩, r, al, ⟨v_p_rows, _, rfl, f_p_rows, e0⟩, hm, Q⟩ := h
  cases e0
  refine ⟨_, (pss_one (ps_ret (pe_callB (show CallR _ _ (rAll K) from cr_all rfl) (by rfl) T.all (by decide +kernel) (pa_cons (show PE _ _ (tLc _ _ _ _ [1, 2, 3, 4]) from pe_lc (own := [("start", 1), ("length", 2), ("other", 3), ("_", 4)]) (g := gTup K 2 (gCons (gTup K 2 (gCons (gName 1) (gCons (gName 2) gNil))) (gCons (gTup K 2 (gCons (gName 3) (gCons (gName 4) gNil))) gNil))) (tt := tYes) rfl sc_ascend.nd (pi_zip rfl T.zip (pa_cons (pv 0) (pa_cons (pe_slice (show SlR _ (rSlL K) from sl_list) (pv 0) (po_some pe_int) po_none) pa_nil))) (blkOk_by (own := [("start", 1), ("length", 2), ("other", 3), ("_", 4)]) (N := ["rows", "start", "length", "other", "_"]) (sc := defScope s_ascend) (by decide +kernel)) (fun _ _ _ _ _ => (pg_tup rfl (pgs_cons (pg_tup rfl (pgs_cons (pg_name (i := 1) sc_ascend.nd rfl (Or.inl rfl)) (pgs_cons (pg_name (i := 2) sc_ascend.nd rfl (Or.inl rfl)) pgs_nil))) (pgs_cons (pg_tup rfl (pgs_cons (pg_name (i := 3) sc_ascend.nd rfl (Or.inl rfl)) (pgs_cons (pg_name (i := 4) sc_ascend.nd rfl (Or.inl rfl)) pgs_nil))) pgs_nil)))) (fun _ _ _ _ _ => pts_nil) (fun _ _ _ _ _ => (pe_cmpR op_le (pe_op op_add (pv 1) (pv 2)) (pv 3) (nomark _)))) pa_nil)))), ?_⟩
  try dsimp only [cxOf, Cx.nox, Cx.wish]
  rw [show start ["rows", "start", "length", "other", "_"] [v_p_rows] = [some (v_p_rows), none, none, none, none] from rfl]
  have W : Wd [] ms H := ⟨fun a h => (by cases h), al⟩
  have hq : Tr ms H := trivial
  have hm : ascendM p_rows = some r := hm
  have u : Bu [] H H := Bu.refl _ H
  unfold ascendM at hm
  obtain ⟨cs_265, e_cs_265, hm⟩ := bind_inv hm
  have hm := Option.some.inj hm
  subst hm
  refine r_ret' ?_
  refine Ex.go W (ex_all (el_of W.hB (En.ex (sb_tr (B := [])) (en_lcL (f := fun (y_255 : ((Int × Int) × (Int × Int))) => bnd (y_255.1) fun p_257 => bnd (p_257.1) fun start_259 => bnd (p_257.2) fun length_260 => bnd (y_255.2) fun p_261 => bnd (p_261.1) fun other_263 => bnd (p_261.2) fun __264 => some (some (decide ((start_259 + length_260) ≤ other_263)))) W (sb_tr (B := [])) (Ei.ej (ei_zip (ea_cons W (ex_var W rfl f_p_rows) (ea_cons W (En.ex (sb_tr (B := [])) (en_slice W (sb_tr (B := [])) (el_of W.hB (ex_var W rfl f_p_rows)) (eo_some (ex_int 1)) eo_none)) ea_nil)))) e_cs_265 (fun ms' H' y_255 v r' L hq' rv hm => by
          have W := L.W
          have f_p_rows := Rp.mv f_p_rows L.M
          obtain ⟨p_257, e_p_257, hm⟩ := bnd_inv hm
          obtain ⟨start_259, e_start_259, hm⟩ := bnd_inv hm
          obtain ⟨length_260, e_length_260, hm⟩ := bnd_inv hm
          obtain ⟨p_261, e_p_261, hm⟩ := bnd_inv hm
          obtain ⟨other_263, e_other_263, hm⟩ := bnd_inv hm
          obtain ⟨__264, e___264, hm⟩ := bnd_inv hm
          obtain ⟨a_k_256, u0_k_256, u1_k_256, rfl, n_k_256, eh_k_256, r0_k_256, r1_k_256⟩ := rv
          rw [← e_p_257] at r0_k_256
          obtain ⟨a_k_258, u0_k_258, u1_k_258, rfl, n_k_258, eh_k_258, r0_k_258, r1_k_258⟩ := r0_k_256
          rw [← e_start_259] at r0_k_258
          obtain rfl : u0_k_258 = V.int start_259 := r0_k_258
          rw [← e_length_260] at r1_k_258
          obtain rfl : u1_k_258 = V.int length_260 := r1_k_258
          rw [← e_p_261] at r1_k_256
          obtain ⟨a_k_262, u0_k_262, u1_k_262, rfl, n_k_262, eh_k_262, r0_k_262, r1_k_262⟩ := r1_k_256
          rw [← e_other_263] at r0_k_262
          obtain rfl : u0_k_262 = V.int other_263 := r0_k_262
          rw [← e___264] at r1_k_262
          obtain rfl : u1_k_262 = V.int __264 := r1_k_262
          cases hm
          exact ⟨_, (bnd_tup2 eh_k_256 (bnd_tup2 eh_k_258 bnd_name bnd_name) (bnd_tup2 eh_k_262 bnd_name bnd_name)), rfl, true, et_yes, fun h => (by cases h), fun _ => ⟨_, rfl, (ex_opI0 (z := (decide ((start_259 + length_260) ≤ other_263))) (fun _ _ => rfl) (ex_opI0 (z := (start_259 + length_260)) (fun _ _ => rfl) (ex_vi rfl) (ex_vi rfl)) (ex_vi rfl))⟩⟩))))) hq fun v H_266 bb hq W M rv => ?_
  exact Q v _ (Bu.to_same (u.trans bb)) (rv)
def is_mapM (p_pieces : (List (T3 Int Int Int))) : Option Bool :=
  (colL (fun (y_273 : (T3 Int Int Int)) => bnd (y_273.a) fun source_275 => bnd (y_273.b) fun target_276 => bnd (y_273.c) fun length_277 => some (some (decide (length_277 < (1 : Int))))) p_pieces).bind fun cs_278 => if (cs_278.any id) = true then (some false) else ((colL (fun (y_281 : (T3 Int Int Int)) => bnd (y_281.a) fun source_283 => bnd (y_281.b) fun target_284 => bnd (y_281.c) fun length_285 => some (some (source_283, length_285))) p_pieces).bind fun cs_286 => bnd (cs_286) fun sources_287 => (colL (fun (y_290 : (T3 Int Int Int)) => bnd (y_290.a) fun source_292 => bnd (y_290.b) fun target_293 => bnd (y_290.c) fun length_294 => some (some (target_293, length_294))) p_pieces).bind fun cs_295 => bnd ((sortP cs_295)) fun targets_296 => (ascendM sources_287).bind fun t_300 => (if (!t_300) = false then (ascendM targets_296).bind fun t_302 => some (!t_302) else some true).bind fun t_303 => if t_303 = true then (some false) else ((colL (fun (y_306 : ((T3 Int Int Int) × (T3 Int Int Int))) => bnd (y_306.1) fun before_308 => bnd (y_306.2) fun piece_309 => (continuesM before_308 piece_309.a piece_309.b).bind fun t_311 => some (some t_311)) (p_pieces.zip (cutF p_pieces (some (1 : Int)) none))).bind fun cs_310 => some (!(cs_310.any id))))
theorem mk_is_map {f f1 f2 : Addr} {fd fd1 fd2 : FuncData} (T : Txt mg) (F : Fun K "is_map" "is_map" s_is_map f fd) (m : mg "is_map" = some (.ref f)) (b : Binds K fd ["pieces"] [])
    (C_continues : Cal P w K mg base "_continues" 1 f1 fd1 ["piece", "source", "target"] (spP (fun (i : (T3 Int Int Int) × Int × Int × Unit) => continuesM i.1 i.2.1 i.2.2.1)))
    (C_ascend : Cal P w K mg base "_ascend" 1 f2 fd2 ["rows"] (spP (fun (i : (List (Int × Int)) × Unit) => ascendM i.1))) :
    Cal P w K mg base "is_map" 2 f fd ["pieces"] (spP (fun (i : (List (T3 Int Int Int)) × Unit) => is_mapM i.1)) := by
  refine ⟨F.ok sc_is_map (fun vs H Q E h => ?_) (fun cdv A outer s H vs Q E hr h => ?_), m, F.kp, b⟩
  · obtain ⟨ms, ⟨p_pieces, ⟨⟩⟩, r, _, ⟨v_p_pieces, _, rfl, f_p_pieces, e0⟩, _⟩ := h
    cases e0
    rfl
  obtain ⟨ms, ⟨p_pieces, ⟨⟩⟩, r, al, ⟨v_p_pieces, _, rfl, f_p_pieces, e0⟩, hm, Q⟩ := h
  cases e0
  refine ⟨_, (pss_cons (ps_if (pt_val (pe_callB (show CallR _ _ (rAny K) from cr_any rfl) (by rfl) T.any (by decide +kernel) (pa_cons (show PE _ _ (tLc _ _ _ _ [1, 2, 3]) from pe_lc (own := [("source", 1), ("target", 2), ("length", 3)]) (g := gTup K 3 (gCons (gName 1) (gCons (gName 2) (gCons (gName 3) gNil)))) (tt := tYes) rfl sc_is_map.nd (pi_list (pv 0)) (blkOk_by (own := [("source", 1), ("target", 2), ("length", 3)]) (N := ["pieces", "source", "target", "length", "sources", "targets", "before", "piece"]) (sc := defScope s_is_map) (by decide +kernel)) (fun _ _ _ _ _ => (pg_tup rfl (pgs_cons (pg_name (i := 1) sc_is_map.nd rfl (Or.inl rfl)) (pgs_cons (pg_name (i := 2) sc_is_map.nd rfl (Or.inl rfl)) (pgs_cons (pg_name (i := 3) sc_is_map.nd rfl (Or.inl rfl)) pgs_nil))))) (fun _ _ _ _ _ => pts_nil) (fun _ _ _ _ _ => (pe_cmpR op_lt (pv 3) pe_int (nomark _)))) pa_nil)))
      (pss_one (ps_ret pe_bl))
      pss_nil) (pss_cons (show PS _ _ (tAsg (tLc _ _ _ _ [1, 2, 3]) _) from ps_setLc (i := 4) (own := [("source", 1), ("target", 2), ("length", 3)]) (g := gTup K 3 (gCons (gName 1) (gCons (gName 2) (gCons (gName 3) gNil)))) (tt := tYes) rfl sc_is_map.nd rfl rfl (sw_true rfl rfl rfl (by decide +kernel)) (pi_list (pv 0)) (blkOk_by (own := [("source", 1), ("target", 2), ("length", 3)]) (N := ["pieces", "source", "target", "length", "sources", "targets", "before", "piece"]) (sc := defScope s_is_map) (by decide +kernel)) (fun _ _ _ _ _ => (pg_tup rfl (pgs_cons (pg_name (i := 1) sc_is_map.nd rfl (Or.inl rfl)) (pgs_cons (pg_name (i := 2) sc_is_map.nd rfl (Or.inl rfl)) (pgs_cons (pg_name (i := 3) sc_is_map.nd rfl (Or.inl rfl)) pgs_nil))))) (fun _ _ _ _ _ => pts_nil) (fun _ _ _ _ _ => (pe_tup (pa_cons (pv 1) (pa_cons (pv 3) pa_nil))))) (pss_cons (ps_set (i := 5) sc_is_map.nd rfl (Or.inl rfl) (pe_callB (show CallR _ _ (rSortedPO K) from cr_sortedPO) (by rfl) T.sorted (by decide +kernel) (pa_cons (show PE _ _ (tLc _ _ _ _ [1, 2, 3]) from pe_lc (own := [("source", 1), ("target", 2), ("length", 3)]) (g := gTup K 3 (gCons (gName 1) (gCons (gName 2) (gCons (gName 3) gNil)))) (tt := tYes) rfl sc_is_map.nd (pi_list (pv 0)) (blkOk_by (own := [("source", 1), ("target", 2), ("length", 3)]) (N := ["pieces", "source", "target", "length", "sources", "targets", "before", "piece"]) (sc := defScope s_is_map) (by decide +kernel)) (fun _ _ _ _ _ => (pg_tup rfl (pgs_cons (pg_name (i := 1) sc_is_map.nd rfl (Or.inl rfl)) (pgs_cons (pg_name (i := 2) sc_is_map.nd rfl (Or.inl rfl)) (pgs_cons (pg_name (i := 3) sc_is_map.nd rfl (Or.inl rfl)) pgs_nil))))) (fun _ _ _ _ _ => pts_nil) (fun _ _ _ _ _ => (pe_tup (pa_cons (pv 2) (pa_cons (pv 3) pa_nil))))) pa_nil))) (pss_cons (ps_if (PW.pt (pw_or (pt_not (pt_val (pe_call C_ascend.ok (hr.mono (by first | decide | omega)) rfl C_ascend.mg C_ascend.kp C_ascend.b .nil pass0 (pa_cons (pv 4) pa_nil)))) (pw_or1 (pt_not (pt_val (pe_call C_ascend.ok (hr.mono (by first | decide | omega)) rfl C_ascend.mg C_ascend.kp C_ascend.b .nil pass0 (pa_cons (pv 5) pa_nil)))))))
      (pss_one (ps_ret pe_bl))
      pss_nil) (pss_one (ps_ret (pe_not (pe_callB (show CallR _ _ (rAny K) from cr_any rfl) (by rfl) T.any (by decide +kernel) (pa_cons (show PE _ _ (tLc _ _ _ _ [6, 7]) from pe_lc (own := [("before", 6), ("piece", 7)]) (g := gTup K 2 (gCons (gName 6) (gCons (gName 7) gNil))) (tt := tYes) rfl sc_is_map.nd (pi_zip rfl T.zip (pa_cons (pv 0) (pa_cons (pe_slice (show SlR _ (rSlL K) from sl_list) (pv 0) (po_some pe_int) po_none) pa_nil))) (blkOk_by (own := [("before", 6), ("piece", 7)]) (N := ["pieces", "source", "target", "length", "sources", "targets", "before", "piece"]) (sc := defScope s_is_map) (by decide +kernel)) (fun _ _ _ _ _ => (pg_tup rfl (pgs_cons (pg_name (i := 6) sc_is_map.nd rfl (Or.inl rfl)) (pgs_cons (pg_name (i := 7) sc_is_map.nd rfl (Or.inl rfl)) pgs_nil)))) (fun _ _ _ _ _ => pts_nil) (fun _ _ _ _ _ => (pe_call C_continues.ok (hr.mono (by first | decide | omega)) rfl C_continues.mg C_continues.kp C_continues.b .nil pass0 (pa_cons (pv 6) (pa_cons (pe_ix (show IxR _ (rIxT K) from ix_tup) (pv 7) pe_int (fun _ _ => rfl)) (pa_cons (pe_ix (show IxR _ (rIxT K) from ix_tup) (pv 7) pe_int (fun _ _ => rfl)) pa_nil)))))) pa_nil))))))))), ?_⟩
  try dsimp only [cxOf, Cx.nox, Cx.wish]
  rw [show start ["pieces", "source", "target", "length", "sources", "targets", "before", "piece"] [v_p_pieces] = [some (v_p_pieces), none, none, none, none, none, none, none] from rfl]
  have W : Wd [] ms H := ⟨fun a h => (by cases h), al⟩
  have hq : Tr ms H := trivial
  have hm : is_mapM p_pieces = some r := hm
  have u : Bu [] H H := Bu.refl _ H
  unfold is_mapM at hm
  obtain ⟨cs_278, e_cs_278, hm⟩ := bind_inv hm
  refine r_seq ?_
  refine r_ifS ?_
  refine Et.go W (et_val (ex_any (el_of W.hB (En.ex (sb_tr (B := [])) (en_lcL (f := fun (y_273 : (T3 Int Int Int)) => bnd (y_273.a) fun source_275 => bnd (y_273.b) fun target_276 => bnd (y_273.c) fun length_277 => some (some (decide (length_277 < (1 : Int))))) W (sb_tr (B := [])) (Ei.ej (ei_list (ex_var W rfl f_p_pieces))) e_cs_278 (fun ms' H' y_273 v r' L hq' rv hm => by
          have W := L.W
          have f_p_pieces := Rp.mv f_p_pieces L.M
          obtain ⟨source_275, e_source_275, hm⟩ := bnd_inv hm
          obtain ⟨target_276, e_target_276, hm⟩ := bnd_inv hm
          obtain ⟨length_277, e_length_277, hm⟩ := bnd_inv hm
          obtain ⟨a_k_274, u0_k_274, u1_k_274, u2_k_274, rfl, n_k_274, eh_k_274, r0_k_274, r1_k_274, r2_k_274⟩ := rv
          rw [← e_source_275] at r0_k_274
          obtain rfl : u0_k_274 = V.int source_275 := r0_k_274
          rw [← e_target_276] at r1_k_274
          obtain rfl : u1_k_274 = V.int target_276 := r1_k_274
          rw [← e_length_277] at r2_k_274
          obtain rfl : u2_k_274 = V.int length_277 := r2_k_274
          cases hm
          exact ⟨_, (bnd_tup3 eh_k_274 bnd_name bnd_name bnd_name), rfl, true, et_yes, fun h => (by cases h), fun _ => ⟨_, rfl, (ex_opI0 (z := (decide (length_277 < (1 : Int)))) (fun _ _ => rfl) (ex_vi rfl) (ex_int 1))⟩⟩)))))) hq fun H_279 bb hq W M => ?_
  have f_p_pieces := Rp.mv f_p_pieces M
  have u := u.trans bb
  refine ite_by (fun hc => ?_) (fun hc => ?_)
  · have hm := (if_pos hc).symm.trans hm
    have hm := Option.some.inj hm
    subst hm
    refine r_ret' ?_
    refine Ex.go W (ex_bl false) hq fun v H_280 bb hq W M rv => ?_
    exact Q v _ (Bu.to_same (u.trans bb)) (rv)
  · have hm := (if_neg hc).symm.trans hm
    refine r_next ?_
    try dsimp only
    obtain ⟨cs_286, e_cs_286, hm⟩ := bind_inv hm
    obtain ⟨sources_287, e_sources_287, hm⟩ := bnd_inv hm
    refine r_seqA ?_
    refine Ex.go W (En.ex (sb_tr (B := [])) (en_lcL (f := fun (y_281 : (T3 Int Int Int)) => bnd (y_281.a) fun source_283 => bnd (y_281.b) fun target_284 => bnd (y_281.c) fun length_285 => some (some (source_283, length_285))) W (sb_tr (B := [])) (Ei.ej (ei_list (ex_var W rfl f_p_pieces))) e_cs_286 (fun ms' H' y_281 v r' L hq' rv hm => by
            have W := L.W
            have f_p_pieces := Rp.mv f_p_pieces L.M
            obtain ⟨source_283, e_source_283, hm⟩ := bnd_inv hm
            obtain ⟨target_284, e_target_284, hm⟩ := bnd_inv hm
            obtain ⟨length_285, e_length_285, hm⟩ := bnd_inv hm
            obtain ⟨a_k_282, u0_k_282, u1_k_282, u2_k_282, rfl, n_k_282, eh_k_282, r0_k_282, r1_k_282, r2_k_282⟩ := rv
            rw [← e_source_283] at r0_k_282
            obtain rfl : u0_k_282 = V.int source_283 := r0_k_282
            rw [← e_target_284] at r1_k_282
            obtain rfl : u1_k_282 = V.int target_284 := r1_k_282
            rw [← e_length_285] at r2_k_282
            obtain rfl : u2_k_282 = V.int length_285 := r2_k_282
            cases hm
            exact ⟨_, (bnd_tup3 eh_k_282 bnd_name bnd_name bnd_name), rfl, true, et_yes, fun h => (by cases h), fun _ => ⟨_, rfl, (ex_tup2 W (sb_tr (B := [])) (u := (source_283, length_285)) (ea_cons W (ex_vi rfl) (ea_cons W (ex_vi rfl) ea_nil)))⟩⟩))) hq fun v_289 H_288 bb hq W M rv => ?_
    rw [← e_sources_287] at rv
    have f_p_pieces := Rp.mv f_p_pieces M
    have u := u.trans bb
    have f_sources_287 := rv
    refine (bnd_name : Bnd _ _ _ _ _) _ ?_
    dsimp only [List.set_cons_succ, List.set_cons_zero]
    obtain ⟨cs_295, e_cs_295, hm⟩ := bind_inv hm
    obtain ⟨targets_296, e_targets_296, hm⟩ := bnd_inv hm
    refine r_seqA ?_
    refine Ex.go W (En.ex (sb_tr (B := [])) (en_sortP W (sb_tr (B := [])) (el_of W.hB (En.ex (sb_tr (B := [])) (en_lcL (f := fun (y_290 : (T3 Int Int Int)) => bnd (y_290.a) fun source_292 => bnd (y_290.b) fun target_293 => bnd (y_290.c) fun length_294 => some (some (target_293, length_294))) W (sb_tr (B := [])) (Ei.ej (ei_list (ex_var W rfl f_p_pieces))) e_cs_295 (fun ms' H' y_290 v r' L hq' rv hm => by
            have W := L.W
            have f_p_pieces := Rp.mv f_p_pieces L.M
            have f_sources_287 := Rp.mv f_sources_287 L.M
            obtain ⟨source_292, e_source_292, hm⟩ := bnd_inv hm
            obtain ⟨target_293, e_target_293, hm⟩ := bnd_inv hm
            obtain ⟨length_294, e_length_294, hm⟩ := bnd_inv hm
            obtain ⟨a_k_291, u0_k_291, u1_k_291, u2_k_291, rfl, n_k_291, eh_k_291, r0_k_291, r1_k_291, r2_k_291⟩ := rv
            rw [← e_source_292] at r0_k_291
            obtain rfl : u0_k_291 = V.int source_292 := r0_k_291
            rw [← e_target_293] at r1_k_291
            obtain rfl : u1_k_291 = V.int target_293 := r1_k_291
            rw [← e_length_294] at r2_k_291
            obtain rfl : u2_k_291 = V.int length_294 := r2_k_291
            cases hm
            exact ⟨_, (bnd_tup3 eh_k_291 bnd_name bnd_name bnd_name), rfl, true, et_yes, fun h => (by cases h), fun _ => ⟨_, rfl, (ex_tup2 W (sb_tr (B := [])) (u := (target_293, length_294)) (ea_cons W (ex_vi rfl) (ea_cons W (ex_vi rfl) ea_nil)))⟩⟩)))))) hq fun v_298 H_297 bb hq W M rv => ?_
    rw [← e_targets_296] at rv
    have f_p_pieces := Rp.mv f_p_pieces M
    have f_sources_287 := Rp.mv f_sources_287 M
    have u := u.trans bb
    have f_targets_296 := rv
    refine (bnd_name : Bnd _ _ _ _ _) _ ?_
    dsimp only [List.set_cons_succ, List.set_cons_zero]
    obtain ⟨t_300, e_t_300, hm⟩ := bind_inv hm
    obtain ⟨t_303, e_t_303, hm⟩ := bind_inv hm
    refine r_seq ?_
    refine r_ifS ?_
    refine Et.go W (et_or (d := t_303) (et_not (et_val (ex_call (i := (sources_287, ())) W (sb_tr (B := [])) (ea_cons W (ex_var W rfl f_sources_287) ea_nil) e_t_300))) (fun c => by
            have hm := (if_pos c).symm.trans e_t_303
            obtain ⟨t_302, e_t_302, hm⟩ := bind_inv hm
            rw [← Option.some.inj hm]
            exact (et_not (et_val (ex_call (i := (targets_296, ())) W (sb_tr (B := [])) (ea_cons W (ex_var W rfl f_targets_296) ea_nil) e_t_302))))
            (fun c => by
            have hm := (if_neg (by rw [c]; decide)).symm.trans e_t_303
            cases hm
            exact ⟨rfl, fun _ h => h⟩)) hq fun H_304 bb hq W M => ?_
    have f_p_pieces := Rp.mv f_p_pieces M
    have f_sources_287 := Rp.mv f_sources_287 M
    have f_targets_296 := Rp.mv f_targets_296 M
    have u := u.trans bb
    refine ite_by (fun hc => ?_) (fun hc => ?_)
    · have hm := (if_pos hc).symm.trans hm
      have hm := Option.some.inj hm
      subst hm
      refine r_ret' ?_
      refine Ex.go W (ex_bl false) hq fun v H_305 bb hq W M rv => ?_
      exact Q v _ (Bu.to_same (u.trans bb)) (rv)
    · have hm := (if_neg hc).symm.trans hm
      refine r_next ?_
      try dsimp only
      obtain ⟨cs_310, e_cs_310, hm⟩ := bind_inv hm
      have hm := Option.some.inj hm
      subst hm
      refine r_ret' ?_
      refine Ex.go W (ex_not (ex_any (el_of W.hB (En.ex (sb_tr (B := [])) (en_lcL (f := fun (y_306 : ((T3 Int Int Int) × (T3 Int Int Int))) => bnd (y_306.1) fun before_308 => bnd (y_306.2) fun piece_309 => (continuesM before_308 piece_309.a piece_309.b).bind fun t_311 => some (some t_311)) W (sb_tr (B := [])) (Ei.ej (ei_zip (ea_cons W (ex_var W rfl f_p_pieces) (ea_cons W (En.ex (sb_tr (B := [])) (en_slice W (sb_tr (B := [])) (el_of W.hB (ex_var W rfl f_p_pieces)) (eo_some (ex_int 1)) eo_none)) ea_nil)))) e_cs_310 (fun ms' H' y_306 v r' L hq' rv hm => by
              have W := L.W
              have f_p_pieces := Rp.mv f_p_pieces L.M
              have f_sources_287 := Rp.mv f_sources_287 L.M
              have f_targets_296 := Rp.mv f_targets_296 L.M
              obtain ⟨before_308, e_before_308, hm⟩ := bnd_inv hm
              obtain ⟨piece_309, e_piece_309, hm⟩ := bnd_inv hm
              obtain ⟨a_k_307, u0_k_307, u1_k_307, rfl, n_k_307, eh_k_307, r0_k_307, r1_k_307⟩ := rv
              rw [← e_before_308] at r0_k_307
              have f_before_308 := r0_k_307
              rw [← e_piece_309] at r1_k_307
              have f_piece_309 := r1_k_307
              obtain ⟨t_311, e_t_311, hm⟩ := bind_inv hm
              cases hm
              exact ⟨_, (bnd_tup2 eh_k_307 bnd_name bnd_name), rfl, true, et_yes, fun h => (by cases h), fun _ => ⟨_, rfl, (ex_call (i := (before_308, piece_309.a, piece_309.b, ())) W (sb_tr (B := [])) (ea_cons W (ex_var W rfl f_before_308) (ea_cons W (ex_t1 (u := piece_309) (ex_var W rfl f_piece_309)) (ea_cons W (ex_t2 (u := piece_309) (ex_var W rfl f_piece_309)) ea_nil))) e_t_311)⟩⟩)))))) hq fun v H_312 bb hq W M rv => ?_
      exact Q v _ (Bu.to_same (u.trans bb)) (rv)
theorem law_goodM_ok {ps : List Pc} (hl : ps.length ≤ 10) (hc : ∀ p ∈ ps, p.c ≤ 100) : ∃ b, law_goodM ps = some b ∧ (b = true ↔ GoodP ps) := by
  unfold law_goodM
  refine exb_bnd (exb_bnd ?_)
  have key := loop_ex (ρ := Bool) (xs := ps) (x0 := (([] : List Int), ([] : List Int))) (f := (fun (y_156 : (T3 Int Int Int)) (x : ((List Int) × (List Int))) => match x with | (sources_153, targets_154) => if (decide (y_156.c < (1 : Int))) = true then (some (.ret false)) else ((rng1 y_156.c).bind fun rg_162 => (loop (fun (y_168 : Int) (x : ((List Int) × (List Int))) => match x with | (sources_165, targets_166) => if ((decide ((y_156.a + y_168) ∈ sources_165)) || (decide ((y_156.b + y_168) ∈ targets_166))) = true then (some (.ret false)) else ((appF sources_165 (y_156.a + y_168)).bind fun sources_174 => (appF targets_166 (y_156.b + y_168)).bind fun targets_176 => some (.go (sources_174, targets_176))) : Int → ((List Int) × (List Int)) → Option (Fl Bool ((List Int) × (List Int)))) rg_162 (sources_153, targets_154)).bind fun fl => match fl with | .ret r' => some (.ret r') | .go x => match x with | (sources_165, targets_166) => some (.go (sources_165, targets_166))) : (T3 Int Int Int) → ((List Int) × (List Int)) → Option (Fl Bool ((List Int) × (List Int)))))
    (fun i x => x = (cellsF (srcF (ps.take i)), cellsF (tgtF (ps.take i))) ∧ PosP (ps.take i) ∧ (cellsF (srcF (ps.take i))).Nodup ∧ (cellsF (tgtF (ps.take i))).Nodup)
    (fun r => r = false ∧ ¬ GoodP ps) ⟨rfl, (show PosP [] from fun p hp => by cases hp), List.nodup_nil, List.nodup_nil⟩ ?_
  · rcases key with ⟨r, e, rfl, h⟩ | ⟨x, e, rfl, h1, h2, h3⟩
    · exact exb e ⟨false, rfl, fun z => (by cases z), fun z => absurd z h⟩
    · rw [List.take_length] at h1 h2 h3 e
      have cl := cells_len hc
      have hz := zip_cells ps
      have tl := src_tgt_len ps
      refine exb e (exb (rng1_ok (by omega)) ?_)
      rw [Int.toNat_natCast]
      refine exb (a := expF ps) ?_ (exb_bnd (exb (law_canonicalM_ok ?_) ⟨_, rfl, ?_⟩))
      · rw [colL_map (g := fun k => ((cellsF (srcF ps)).getD k.toNat 0, (cellsF (tgtF ps)).getD k.toNat 0)) (by rw [rngL_len]; omega) fun y hy => ?_]
        · congr 1
          rw [← hz]
          refine List.ext_getElem? fun i => ?_
          rw [List.getElem?_map]
          by_cases c : i < (cellsF (srcF ps)).length
          · obtain ⟨u, hu⟩ := get_of_lt c
            obtain ⟨v, hv⟩ := get_of_lt (xs := cellsF (tgtF ps)) (i := i) (by omega)
            rw [rngL_get c, (List.getElem?_zip_eq_some (z := (u, v))).mpr ⟨hu, hv⟩]
            show some ((cellsF (srcF ps)).getD ((0 : Int) + (i : Int)).toNat 0, (cellsF (tgtF ps)).getD ((0 : Int) + (i : Int)).toNat 0) = _
            rw [show ((0 : Int) + (i : Int)).toNat = i by omega, List.getD_eq_getElem?_getD, List.getD_eq_getElem?_getD, hu, hv]
            rfl
          · rw [List.getElem?_eq_none_iff.mpr (by rw [rngL_len]; omega), List.getElem?_eq_none_iff.mpr (by rw [List.length_zip]; omega)]
            rfl
        · have := rngL_mem.mp hy
          obtain ⟨i, rfl⟩ : ∃ i : Nat, y = i := ⟨y.toNat, by omega⟩
          obtain ⟨u, hu⟩ := get_of_lt (xs := cellsF (srcF ps)) (i := i) (by omega)
          obtain ⟨v, hv⟩ := get_of_lt (xs := cellsF (tgtF ps)) (i := i) (by omega)
          refine bind_of (at_ok hu) (bind_of (at_ok hv) ?_)
          rw [Int.toNat_natCast, List.getD_eq_getElem?_getD, List.getD_eq_getElem?_getD, hu, hv]
          rfl
      · rw [← hz, List.length_zip]
        omega
      · rw [decide_eq_true_eq]
        exact ⟨fun h => ⟨h1, h2, h3, h⟩, fun h => h.2.2.2⟩
  · rintro i p x hp ⟨rfl, h1, h2, h3⟩
    have hpm := List.mem_of_getElem? hp
    have hpc := hc p hpm
    have hi := lt_of_get hp
    have cl := cells_len (ps := ps.take i) fun q hq => hc q (List.mem_of_mem_take hq)
    have tl := src_tgt_len (ps.take i)
    rw [List.length_take] at cl
    by_cases c : p.c < 1
    · refine .inl ⟨false, if_of (decide_eq_true c) rfl, rfl, fun h => ?_⟩
      have := h.1 p hpm
      omega
    · have inner := loop_ex (ρ := Bool) (xs := rngL 0 p.c.toNat) (x0 := (cellsF (srcF (ps.take i)), cellsF (tgtF (ps.take i)))) (f := (fun (y_168 : Int) (x : ((List Int) × (List Int))) => match x with | (sources_165, targets_166) => if ((decide ((p.a + y_168) ∈ sources_165)) || (decide ((p.b + y_168) ∈ targets_166))) = true then (some (.ret false)) else ((appF sources_165 (p.a + y_168)).bind fun sources_174 => (appF targets_166 (p.b + y_168)).bind fun targets_176 => some (.go (sources_174, targets_176))) : Int → ((List Int) × (List Int)) → Option (Fl Bool ((List Int) × (List Int)))))
        (fun n x => x = (cellsF (srcF (ps.take i)) ++ rngL p.a n, cellsF (tgtF (ps.take i)) ++ rngL p.b n) ∧ (cellsF (srcF (ps.take i)) ++ rngL p.a n).Nodup ∧ (cellsF (tgtF (ps.take i)) ++ rngL p.b n).Nodup)
        (fun r => r = false ∧ ¬ GoodP ps) ⟨by simp [rngL], by simpa [rngL] using h2, by simpa [rngL] using h3⟩ ?_
      · rcases inner with ⟨r, e, rfl, h⟩ | ⟨x, e, rfl, g1, g2⟩
        · exact .inl ⟨false, else_of (by simpa using c) (bind_of (rng1_ok (by omega)) (bind_of e rfl)), rfl, h⟩
        · rw [rngL_len] at g1 g2 e
          obtain ⟨a1, a2⟩ := good_app hp
          refine .inr ⟨_, else_of (by simpa using c) (bind_of (rng1_ok (by omega)) (bind_of e rfl)), by rw [a1, a2], ?_, by rw [a1]; exact g1, by rw [a2]; exact g2⟩
          intro q hq
          rw [List.take_succ, hp] at hq
          obtain hq | hq := List.mem_append.mp hq
          · exact h1 q hq
          · have : q = p := List.mem_singleton.mp hq
            rw [this]
            omega
      · rintro n a x ha ⟨rfl, g1, g2⟩
        have hn := lt_of_get ha
        rw [rngL_len] at hn
        rw [rngL_get hn] at ha
        have ea : a = (n : Nat) := by have := Option.some.inj ha; omega
        subst ea
        have bad : ∀ (xs : List Int) (s : Int), (∃ r, xs = r) → True := fun _ _ _ => trivial
        by_cases d : p.a + (n : Int) ∈ cellsF (srcF (ps.take i)) ++ rngL p.a n ∨ p.b + (n : Int) ∈ cellsF (tgtF (ps.take i)) ++ rngL p.b n
        · refine .inl ⟨false, if_of (by simpa using d) rfl, rfl, fun h => ?_⟩
          obtain ⟨⟨r1, e1⟩, ⟨r2, e2⟩⟩ := cells_split hp
          have n1 := h.2.1
          have n2 := h.2.2.1
          rw [e1] at n1
          rw [e2] at n2
          have own : ∀ (s : Int), s + (n : Int) ∈ rngL s p.c.toNat := fun s => rngL_mem.mpr (by omega)
          have notown : ∀ (s : Int), s + (n : Int) ∉ rngL s n := fun s z => by have := rngL_mem.mp z; omega
          rcases d with d | d
          · obtain d | d := List.mem_append.mp d
            · exact (List.nodup_append.mp n1).2.2 _ d _ (List.mem_append_left _ (own _)) rfl
            · exact notown _ d
          · obtain d | d := List.mem_append.mp d
            · exact (List.nodup_append.mp n2).2.2 _ d _ (List.mem_append_left _ (own _)) rfl
            · exact notown _ d
        · have d' := not_or.mp d
          have snoc : ∀ (xs : List Int) (s : Int), (xs ++ rngL s n).Nodup → s + (n : Int) ∉ xs ++ rngL s n → (xs ++ rngL s (n + 1)).Nodup := fun xs s hx hno => by
            rw [rngL_succ, ← List.append_assoc]
            refine List.nodup_append.mpr ⟨hx, by simp, fun y hy z hz e => ?_⟩
            rw [List.mem_singleton.mp hz] at e
            exact hno (e ▸ hy)
          refine .inr ⟨_, else_of (by simpa using d') (bind_of (appF_ok (by rw [List.length_append, rngL_len]; omega)) (bind_of (appF_ok (by rw [List.length_append, rngL_len]; omega)) rfl)), ?_, snoc _ _ g1 d'.1, snoc _ _ g2 d'.2⟩
          rw [rngL_succ, rngL_succ, List.append_assoc, List.append_assoc]

theorem ascendM_ok {rows : List (Int × Int)} (hl : rows.length ≤ 1000) : ∃ b, ascendM rows = some b ∧ (b = true ↔ Adj (fun x y => x.1 + x.2 ≤ y.1) rows) := by
  unfold ascendM
  rw [cut_one]
  refine exb (colL_map (g := fun z : (Int × Int) × (Int × Int) => decide (z.1.1 + z.1.2 ≤ z.2.1)) (by rw [List.length_zip]; omega) (fun _ _ => rfl)) ⟨_, rfl, ?_⟩
  rw [adj_all]
  unfold Adj
  simp only [decide_eq_true_eq]
theorem is_mapM_ok {ps : List Pc} (hl : ps.length ≤ 100) : ∃ b, is_mapM ps = some b ∧ (b = true ↔ PosP ps ∧ Adj (fun x y => x.1 + x.2 ≤ y.1) (srcF ps) ∧ Adj (fun x y => x.1 + x.2 ≤ y.1) (sortP (tgtF ps)) ∧ Adj (fun p q => ¬ ContP p q) ps) := by
  unfold is_mapM
  refine exb (colL_map (g := fun p : Pc => decide (p.c < 1)) (by omega) (fun _ _ => rfl)) ?_
  by_cases c : ((ps.map fun p : Pc => decide (p.c < 1)).any id) = true
  · refine exb_if c ⟨false, rfl, fun z => (by cases z), fun z => ?_⟩
    rw [List.any_map, List.any_eq_true] at c
    obtain ⟨p, hp, h⟩ := c
    have := z.1 p hp
    have : p.c < 1 := by simpa using h
    omega
  · have hp : PosP ps := by
      intro p hp
      have := c
      rw [List.any_map, List.any_eq_true] at this
      by_cases h : 1 ≤ p.c
      · exact h
      · exact absurd ⟨p, hp, by simp; omega⟩ this
    refine exb_else c ?_
    have ls : (srcF ps).length = ps.length := List.length_map _
    have lt : (tgtF ps).length = ps.length := List.length_map _
    obtain ⟨b1, e1, h1⟩ := ascendM_ok (rows := srcF ps) (by omega)
    obtain ⟨b2, e2, h2⟩ := ascendM_ok (rows := sortP (tgtF ps)) (by rw [sortP_len]; omega)
    refine exb (colL_map (g := fun p : Pc => (p.a, p.c)) (by omega) (fun _ _ => rfl)) (exb_bnd (exb (colL_map (g := fun p : Pc => (p.b, p.c)) (by omega) (fun _ _ => rfl)) (exb_bnd (exb e1 ?_))))
    have e3 : (if (!b1) = false then (ascendM (sortP (tgtF ps))).bind fun t_302 => some (!t_302) else some true) = some (!(b1 && b2)) := by
      cases b1 with
      | true => exact if_of rfl (bind_of e2 (by simp))
      | false => exact else_of (by decide) rfl
    refine exb e3 ?_
    by_cases d : (b1 && b2) = true
    · rw [Bool.and_eq_true] at d
      refine exb_else (by rw [d.1, d.2]; decide) ?_
      rw [cut_one]
      refine exb (colL_map (g := fun z : Pc × Pc => (decide (z.1.a + z.1.c = z.2.a) && decide (z.1.b + z.1.c = z.2.b))) (by rw [List.length_zip]; omega) (fun _ _ => rfl)) ⟨_, rfl, ?_⟩
      rw [Bool.not_eq_true', adj_any]
      have e4 : Adj (fun x y : Pc => (decide (x.a + x.c = y.a) && decide (x.b + x.c = y.b)) = false) ps ↔ Adj (fun p q => ¬ ContP p q) ps := by
        unfold Adj ContP
        simp
      rw [e4]
      exact ⟨fun z => ⟨hp, h1.mp d.1, h2.mp d.2, z⟩, fun z => z.2.2.2⟩
    · refine exb_if (by cases b1 <;> cases b2 <;> simp_all) ⟨false, rfl, fun z => (by cases z), fun z => ?_⟩
      rw [Bool.and_eq_true] at d
      exact absurd ⟨h1.mpr z.2.1, h2.mpr z.2.2.1⟩ d
theorem map_good {ps : List Pc} (hl : ps.length ≤ 10) (hc : ∀ p ∈ ps, p.c ≤ 100) : ∃ b, is_mapM ps = some b ∧ law_goodM ps = some b ∧ (b = true ↔ GoodP ps) := by
  obtain ⟨b1, e1, h1⟩ := is_mapM_ok (ps := ps) (by omega)
  obtain ⟨b2, e2, h2⟩ := law_goodM_ok hl hc
  have iff : (PosP ps ∧ Adj (fun x y => x.1 + x.2 ≤ y.1) (srcF ps) ∧ Adj (fun x y => x.1 + x.2 ≤ y.1) (sortP (tgtF ps)) ∧ Adj (fun p q => ¬ ContP p q) ps) ↔ GoodP ps := by
    have hs : PosP ps → ∀ x ∈ srcF ps, 1 ≤ x.2 := fun hp x hx => by
      obtain ⟨p, h, rfl⟩ := List.mem_map.mp hx
      exact hp p h
    have ht : PosP ps → ∀ x ∈ tgtF ps, 1 ≤ x.2 := fun hp x hx => by
      obtain ⟨p, h, rfl⟩ := List.mem_map.mp hx
      exact hp p h
    constructor
    · rintro ⟨hp, a, b, c⟩
      obtain ⟨u, v⟩ := (can_iff2 hp).mp ⟨a, c⟩
      exact ⟨hp, (cells_nodup (hs hp)).mpr u, (cells_nodup (ht hp)).mpr ((sort_adj (ht hp)).mp b), v⟩
    · rintro ⟨hp, a, b, c⟩
      obtain ⟨u, v⟩ := (can_iff2 hp).mpr ⟨(cells_nodup (hs hp)).mp a, c⟩
      exact ⟨hp, u, (sort_adj (ht hp)).mpr ((cells_nodup (ht hp)).mp b), v⟩
  have eq : b1 = b2 := Bool.eq_iff_iff.mpr (h1.trans (iff.trans h2.symm))
  exact ⟨b2, by rw [← eq]; exact e1, e2, h2⟩
end
end Pf

namespace Pf
open PySem L2
local macro_rules | `(tactic| walk_at "rd1") => `(tactic| first
  | with_reducible refine r_seqA ?_
  | with_reducible refine r_seqD ?_
  | with_reducible refine r_seqF ?_
  | with_reducible refine r_seqN ?_
  | with_reducible refine r_asg ?_
  | with_reducible refine r_drop ?_
  | with_reducible refine r_ret ?_
  | with_reducible refine r_ifS ?_
  | ((with_reducible refine r_next ?_); try dsimp only)
  | ((with_reducible refine r_name ?_); try dsimp only [List.set_cons_succ, List.set_cons_zero, wipe])
  | ((with_reducible refine' r_var ?rdh ?_); (case rdh => rfl))
  | with_reducible refine r_c ?_
  | with_reducible refine r_op ?_
  | with_reducible refine r_un ?_
  | with_reducible refine r_I0 ?_
  | ((with_reducible refine r_I ?_ ?_); (· first | decide | exact Or.inl (by decide) | exact Or.inr (by decide) | (show _ ∧ _; constructor <;> decide) | (show (0:Int) < _; omega) | (show CDiv _ _; unfold CDiv; omega) ))
  | with_reducible refine r_U ?_
  | with_reducible refine r_eqI ?_
  | with_reducible refine r_neI ?_
  | with_reducible refine r_eqB ?_
  | with_reducible refine r_neB ?_
  | with_reducible refine r_test ?_
  | with_reducible refine r_B ?_
  | with_reducible refine r_bl ?_
  | with_reducible refine r_bl2 ?_
  | with_reducible refine r_yes ?_
  | with_reducible refine r_wipe (by rfl) ?_
  | with_reducible refine r_rfl ?_
  | ((with_reducible refine' r_eqA ?rdh ?_); (case rdh => rfl))
  | with_reducible refine r_and ?_
  | with_reducible refine r_or ?_
  | with_reducible refine r_not ?_
  | with_reducible refine r_andV ?_
  | with_reducible refine r_orV ?_
  | with_reducible refine r_notV ?_
  | with_reducible refine r_ifE ?_
  | with_reducible refine r_nil ?_
  | with_reducible refine r_cons ?_
  | with_reducible refine r_tup ?_
  | with_reducible refine r_lst ?_
  | with_reducible refine r_CB ?_
  | with_reducible refine r_call ?_
  | with_reducible refine r_bm ?_
  | with_reducible refine r_bm0 ?_
  | with_reducible refine r_int ?_
  | with_reducible refine r_i2 ?_
  | with_reducible refine r_i1 ?_
  | with_reducible refine r_gcons ?_
  | with_reducible refine r_gnil ?_
  | with_reducible refine r_gsub ?_
  | with_reducible refine iteT ?_
  | with_reducible refine iteF ?_
  | with_reducible refine ite_notT ?_
  | with_reducible refine ite_notF ?_
  | with_reducible refine r_isi_ib ?_
  | with_reducible refine r_isi_ii ?_
  | with_reducible refine r_isi_bb ?_
  | with_reducible refine r_isi_nb ?_
  | with_reducible refine r_isi_nt ?_
  | ((with_reducible refine' r_isi_ll ?rdh ?_); (case rdh => first | assumption | exact upd_same))
  | ((with_reducible refine' r_isi_tt ?rdh ?_); (case rdh => first | assumption | exact upd_same))
  | with_reducible refine r_sl ?_
  | with_reducible refine r_noPart ?_
  | with_reducible refine r_part ?_
  | with_reducible refine r_int1 ?_
  | with_reducible refine r_tru ?_
  | with_reducible refine r_ckw ?_
  | with_reducible refine r_lc ?_
  | with_reducible refine r_lc2 ?_
  | with_reducible refine r_forS ?_
  | with_reducible refine r_iR1 ?_
  | with_reducible refine r_iR2 ?_
  | with_reducible refine r_iL ?_
  | ((with_reducible refine' r_lenL ?rdh ?_); (case rdh => walk_at "sq"))
  | ((with_reducible refine' r_ixL ?rdh ?rda ?_); (case rdh => walk_at "sq"); (case rda => walk_at "at"))
  | ((with_reducible refine' r_ixT ?rdh ?rda ?_); (case rdh => walk_at "sq"); (case rda => walk_at "at")))
local macro_rules | `(tactic| walk_at "sq") => `(tactic| first
  | assumption
  | exact SqL.of (by assumption)
  | exact SqL.of upd_same
  | exact SqT.of (by assumption)
  | exact SqT.of upd_same)
local macro_rules | `(tactic| walk_at "sml") => `(tactic| (rw [sizeLine_eq]; simp))
local macro_rules | `(tactic| walk_at "at") => `(tactic| first | assumption | rfl)
local macro_rules | `(tactic| walk_at "rd") => `(tactic| repeat walk_at "rd1")
section
variable {w : World} {P : Program} {base : Heap} {K : PySem.W.Frag} {mg : Str → Option Value}
def lawK1 (due_319 : (List (T3 Int Int Int))) (bx_349 : (List Int × Nat)) : Option Bool :=
  (colL (fun (y_361 : (T3 Int Int Int)) => some (some y_361)) due_319).bind fun cs_362 => bnd (cs_362) fun spoilt_363 => (law_drawM bx_349 (4 : Int)).bind fun (t_365, bx_366) => bnd (t_365) fun kind_367 => (if (decide ((0 : Int) < (spoilt_363.length : Int))) = true then ((law_drawM bx_366 (60 : Int)).bind fun (t_377, bx_378) => (modF t_377 (spoilt_363.length : Int)).bind fun t_379 => bnd (t_379) fun at_380 => (atI spoilt_363 at_380).bind fun t_383 => bnd (t_383) fun piece_384 => if (decide (kind_367 = (0 : Int))) = true then ((law_drawM bx_378 (2 : Int)).bind fun (t_388, bx_389) => (atI [(-1 : Int), (1 : Int)] t_388).bind fun t_390 => (setF spoilt_363 at_380 (T3.mk piece_384.a piece_384.b (piece_384.c + t_390))).bind fun spoilt_391 => some (spoilt_391, bx_389)) else (if (decide (kind_367 = (1 : Int))) = true then ((rng1 (spoilt_363.length : Int)).bind fun rg_394 => (colL (fun (y_395 : Int) => (atI spoilt_363 (((spoilt_363.length : Int) - (1 : Int)) - y_395)).bind fun t_397 => some (some t_397)) rg_394).bind fun cs_396 => bnd (cs_396) fun spoilt_398 => some (spoilt_398, bx_378)) else (if (decide (kind_367 = (2 : Int))) = true then ((insF spoilt_363 at_380 (T3.mk piece_384.a piece_384.b (1 : Int))).bind fun spoilt_402 => some (spoilt_402, bx_378)) else ((setF spoilt_363 at_380 (T3.mk piece_384.a ((20 : Int) + piece_384.b) piece_384.c)).bind fun spoilt_404 => some (spoilt_404, bx_378))))) else (some (spoilt_363, bx_366))).bind fun (spoilt_371, bx_372) => (is_mapM spoilt_371).bind fun t_408 => (law_goodM spoilt_371).bind fun t_409 => some (decide (t_408 = t_409))
def lawM (bx0 : List Int × Nat) : Option Bool :=
  (law_piecesM bx0 (8 : Int)).bind fun (t_313, bx_314) => bnd (t_313) fun pairs_315 => (law_canonicalM pairs_315).bind fun t_318 => bnd (t_318) fun due_319 => (rng1 (pairs_315.length : Int)).bind fun rg_322 => (colL (fun (y_323 : Int) => (atI pairs_315 (((pairs_315.length : Int) - (1 : Int)) - y_323)).bind fun t_325 => some (some t_325)) rg_322).bind fun cs_324 => bnd (cs_324) fun back_326 => (canonicalM pairs_315).bind fun t_329 => bnd (t_329) fun actual_330 => (if (!true) = false then (if (!decide (actual_330 = due_319)) = false then (canonicalM back_326).bind fun t_334 => some (!decide (t_334 = due_319)) else some true).bind fun t_335 => some t_335 else some true).bind fun t_336 => if t_336 = true then (some false) else ((pairs_ofM due_319).bind fun t_340 => (if (!decide (t_340 = (sortP pairs_315))) = false then (is_mapM due_319).bind fun t_342 => some ((!decide (t_342 = true))) else some true).bind fun t_343 => if t_343 = true then (some false) else ((rng1 (14 : Int)).bind fun rg_346 => (loop (fun (y_351 : Int) (bx_349 : (List Int × Nat)) => (map_addressM due_319 y_351).bind fun t_357 => (law_imageM pairs_315 y_351).bind fun t_358 => if (!decide (t_357 = t_358)) = true then (some (.ret false)) else (some (.go bx_349)) : Int → (List Int × Nat) → Option (Fl Bool (List Int × Nat))) rg_346 bx_314).bind fun fl => match fl with | .ret r' => some r' | .go bx_349 => lawK1 due_319 bx_349))
theorem rev_list {α : Type} {xs : List α} {f : Int → Option (Option α)} (hl : xs.length ≤ 1000) (hf : ∀ y, f y = (atI xs (((xs.length : Int) - 1) - y)).bind fun t => some (some t)) : colL f (rngL 0 xs.length) = some xs.reverse := by
  by_cases h0 : xs = []
  · subst h0; rfl
  obtain ⟨d, hd⟩ : ∃ d, d ∈ xs := by
    cases xs with
    | nil => exact absurd rfl h0
    | cons x r => exact ⟨x, List.mem_cons_self⟩
  rw [colL_map (g := fun k => xs.getD (xs.length - 1 - k.toNat) d) (by rw [rngL_len]; omega) fun y hy => ?_]
  · congr 1
    refine List.ext_getElem? fun i => ?_
    rw [List.getElem?_map]
    by_cases c : i < xs.length
    · rw [rngL_get c, List.getElem?_reverse c]
      obtain ⟨x, hx⟩ := get_of_lt (xs := xs) (i := xs.length - 1 - i) (by omega)
      rw [hx]
      show some (xs.getD (xs.length - 1 - ((0 : Int) + (i : Int)).toNat) d) = _
      rw [show ((0 : Int) + (i : Int)).toNat = i by omega, List.getD_eq_getElem?_getD, hx]
      rfl
    · rw [List.getElem?_eq_none_iff.mpr (by rw [rngL_len]; omega), List.getElem?_eq_none_iff.mpr (by rw [List.length_reverse]; omega)]
      rfl
  · have := rngL_mem.mp hy
    obtain ⟨i, rfl⟩ : ∃ i : Nat, y = i := ⟨y.toNat, by omega⟩
    obtain ⟨x, hx⟩ := get_of_lt (xs := xs) (i := xs.length - 1 - i) (by omega)
    rw [hf, show (xs.length : Int) - 1 - (i : Int) = ((xs.length - 1 - i : Nat) : Int) by omega, at_ok hx, Option.bind_some, Int.toNat_natCast, List.getD_eq_getElem?_getD, hx]
    rfl
theorem can_good {ps : List (Int × Int)} (h : PsOk ps) : GoodP (canF ps) := by
  refine ⟨canF_pos ps, ?_, ?_, ?_⟩
  · rw [← exp_src, canF_exp]
    exact h.src.perm (sortP_perm ps).symm
  · rw [← exp_tgt, canF_exp]
    exact h.tgt.perm (swpF_perm (sortP_perm ps).symm)
  · rw [canF_exp]
    exact canF_perm (sortP_perm ps)
theorem can_small {ps : List (Int × Int)} : ∀ p ∈ canF ps, p.c ≤ ps.length := fun p hp => by
  have : p.c ≤ (expF (canF ps)).length := by
    obtain ⟨u, v, e⟩ := List.append_of_mem hp
    rw [e, expF_app, show p :: v = [p] ++ v from rfl, expF_app, expF_one, List.length_append, List.length_append]
    unfold rowF
    rw [List.length_map, rngL_len]
    omega
  rw [canF_exp, sortP_len] at this
  exact this
theorem lawK1_true {due : List Pc} {bx : List Int × Nat} (hl : due.length ≤ 8) (hc : ∀ p ∈ due, p.c ≤ 8) : lawK1 due bx = some true := by
  unfold lawK1
  obtain ⟨k, n, e1, k0, k1⟩ := drawF_ok (bx := bx) (m := 4) (by decide)
  refine bind_of (colL_id (by omega)) (bnd_of (bind_of e1 (bnd_of ?_)))
  have fin : ∀ (sp : List Pc) (bx' : List Int × Nat), sp.length ≤ 9 → (∀ p ∈ sp, p.c ≤ 9) → ((is_mapM sp).bind fun t_408 => (law_goodM sp).bind fun t_409 => some (decide (t_408 = t_409))) = some true := fun sp _ h1 h2 => by
    obtain ⟨b, e1, e2, _⟩ := map_good (ps := sp) (by omega) (fun p hp => by have := h2 p hp; omega)
    exact bind_of e1 (bind_of e2 (by simp))
  refine bind_ex (P := fun x : List Pc × (List Int × Nat) => x.1.length ≤ 9 ∧ ∀ p ∈ x.1, p.c ≤ 9) ?_ (fun x hx => fin x.1 x.2 hx.1 hx.2)
  by_cases c0 : (0 : Int) < due.length
  · refine exb_if (decide_eq_true c0) ?_
    obtain ⟨r, m, e2, r0, r1⟩ := drawF_ok (bx := (bx.1, n)) (m := 60) (by decide)
    have p0 := Int.emod_nonneg r (show (due.length : Int) ≠ 0 by omega)
    have p1 := Int.emod_lt_of_pos r c0
    obtain ⟨i, hi⟩ : ∃ i : Nat, r % (due.length : Int) = i := ⟨(r % (due.length : Int)).toNat, by omega⟩
    rw [hi] at p0 p1
    obtain ⟨p, hp⟩ := get_of_lt (xs := due) (i := i) (by omega)
    have hpc := hc p (List.mem_of_getElem? hp)
    have setok : ∀ q : Pc, q.c ≤ 9 → ((due.set i q).length ≤ 9 ∧ ∀ z ∈ due.set i q, z.c ≤ 9) := fun q hq => by
      refine ⟨by rw [List.length_set]; omega, fun z hz => ?_⟩
      obtain hz | hz := List.mem_or_eq_of_mem_set hz
      · have := hc z hz
        omega
      · rw [hz]; exact hq
    refine exb e2 (exb (modF_pos c0) ?_)
    rw [hi]
    refine exb_bnd (exb (at_ok hp) (exb_bnd ?_))
    by_cases c1 : k = 0
    · refine exb_if (decide_eq_true c1) ?_
      obtain ⟨s, m2, e3, s0, s1⟩ := drawF_ok (bx := (bx.1, m)) (m := 2) (by decide)
      obtain ⟨v, hv, ev⟩ := at_mem (xs := [(-1 : Int), 1]) s0 s1
      have hv1 : v ≤ 1 := by simp at hv; omega
      exact exb e3 (exb ev (exb (setF_ok (by omega)) ⟨_, rfl, setok _ (by dsimp only; omega)⟩))
    · refine exb_else (by simpa using c1) ?_
      by_cases c2 : k = 1
      · refine exb_if (decide_eq_true c2) (exb (rng1_ok (by omega)) ?_)
        rw [Int.toNat_natCast]
        exact exb (rev_list (by omega) fun y => rfl) (exb_bnd ⟨_, rfl, by dsimp only; rw [List.length_reverse]; omega, fun z hz => by have := hc z (List.mem_reverse.mp hz); omega⟩)
      · refine exb_else (by simpa using c2) ?_
        by_cases c3 : k = 2
        · refine exb_if (decide_eq_true c3) (exb (a := due.take i ++ [⟨p.a, p.b, 1⟩] ++ due.drop i) ?_ ⟨_, rfl, ?_, ?_⟩)
          · unfold insF
            rw [if_pos ⟨by rw [sizeLine_eq]; omega, by omega, by omega⟩, Int.toNat_natCast]
          · dsimp only
            rw [List.length_append, List.length_append, List.length_take, List.length_drop, List.length_singleton]
            omega
          · intro z hz
            obtain hz | hz := List.mem_append.mp hz
            · obtain hz | hz := List.mem_append.mp hz
              · have := hc z (List.mem_of_mem_take hz)
                omega
              · rw [List.mem_singleton.mp hz]
                dsimp only
                omega
            · have := hc z (List.mem_of_mem_drop hz)
              omega
        · exact exb_else (by simpa using c3) (exb (setF_ok (by omega)) ⟨_, rfl, setok _ (by dsimp only; omega)⟩)
  · exact exb_else (by simpa using c0) ⟨_, rfl, by dsimp only; omega, fun p hp => by have := hc p hp; omega⟩
theorem law_true (ds : List Int) : lawM (ds, 0) = some true := by
  unfold lawM
  obtain ⟨ps, bx, e1, o, l⟩ := law_piecesM_ok (ds, 0) (m := 8) (by decide) (by decide)
  have cl := canF_len ps
  have sm := can_small (ps := ps)
  obtain ⟨b, e5, _, hb⟩ := map_good (ps := canF ps) (by omega) (fun p hp => by have := sm p hp; omega)
  rw [hb.mpr (can_good o)] at e5
  refine bind_of e1 (bnd_of (bind_of (law_canonicalM_ok (by omega)) (bnd_of (bind_of (rng1_ok (by omega)) ?_))))
  rw [Int.toNat_natCast]
  refine bind_of (rev_list (by omega) fun y => rfl) (bnd_of (bind_of (canonicalM_ok (by omega)) (bnd_of (bind_of (a := false) (if_of rfl (bind_of (a := false) (if_of (by simp) (bind_of (canonicalM_ok (by rw [List.length_reverse]; omega)) (by rw [canF_perm (List.reverse_perm ps)]; simp))) rfl)) (else_of (by decide) (bind_of (pairs_can (by omega)) (bind_of (a := false) (if_of (by simp) (bind_of e5 (by simp))) (else_of (by decide) (bind_of (rng1_ok (by decide)) ?_)))))))))
  refine bind_exL (P := fun _ => True) (loop_go (fun _ _ => True) trivial ?_) (fun _ _ => lawK1_true (by omega) (fun p hp => by have := sm p hp; omega))
  intro i x bx' _ _
  refine exb (map_addressM_ok _ x) (exb (law_imageM_ok _ x) (exb_else ?_ ⟨_, rfl, trivial⟩))
  rw [mapF_can o.src]
  simp
end
end Pf

namespace Pf
open PySem L2
local macro_rules | `(tactic| walk_at "rd1") => `(tactic| first
  | with_reducible refine r_seqA ?_
  | with_reducible refine r_seqD ?_
  | with_reducible refine r_seqF ?_
  | with_reducible refine r_seqN ?_
  | with_reducible refine r_asg ?_
  | with_reducible refine r_drop ?_
  | with_reducible refine r_ret ?_
  | with_reducible refine r_ifS ?_
  | ((with_reducible refine r_next ?_); try dsimp only)
  | ((with_reducible refine r_name ?_); try dsimp only [List.set_cons_succ, List.set_cons_zero, wipe])
  | ((with_reducible refine' r_var ?rdh ?_); (case rdh => rfl))
  | with_reducible refine r_c ?_
  | with_reducible refine r_op ?_
  | with_reducible refine r_un ?_
  | with_reducible refine r_I0 ?_
  | ((with_reducible refine r_I ?_ ?_); (· first | decide | exact Or.inl (by decide) | exact Or.inr (by decide) | (show _ ∧ _; constructor <;> decide) | (show (0:Int) < _; omega) | (show CDiv _ _; unfold CDiv; omega) ))
  | with_reducible refine r_U ?_
  | with_reducible refine r_eqI ?_
  | with_reducible refine r_neI ?_
  | with_reducible refine r_eqB ?_
  | with_reducible refine r_neB ?_
  | with_reducible refine r_test ?_
  | with_reducible refine r_B ?_
  | with_reducible refine r_bl ?_
  | with_reducible refine r_bl2 ?_
  | with_reducible refine r_yes ?_
  | with_reducible refine r_wipe (by rfl) ?_
  | with_reducible refine r_rfl ?_
  | ((with_reducible refine' r_eqA ?rdh ?_); (case rdh => rfl))
  | with_reducible refine r_and ?_
  | with_reducible refine r_or ?_
  | with_reducible refine r_not ?_
  | with_reducible refine r_andV ?_
  | with_reducible refine r_orV ?_
  | with_reducible refine r_notV ?_
  | with_reducible refine r_ifE ?_
  | with_reducible refine r_nil ?_
  | with_reducible refine r_cons ?_
  | with_reducible refine r_tup ?_
  | with_reducible refine r_lst ?_
  | with_reducible refine r_CB ?_
  | with_reducible refine r_call ?_
  | with_reducible refine r_bm ?_
  | with_reducible refine r_bm0 ?_
  | with_reducible refine r_int ?_
  | with_reducible refine r_i2 ?_
  | with_reducible refine r_i1 ?_
  | with_reducible refine r_gcons ?_
  | with_reducible refine r_gnil ?_
  | with_reducible refine r_gsub ?_
  | with_reducible refine iteT ?_
  | with_reducible refine iteF ?_
  | with_reducible refine ite_notT ?_
  | with_reducible refine ite_notF ?_
  | with_reducible refine r_isi_ib ?_
  | with_reducible refine r_isi_ii ?_
  | with_reducible refine r_isi_bb ?_
  | with_reducible refine r_isi_nb ?_
  | with_reducible refine r_isi_nt ?_
  | ((with_reducible refine' r_isi_ll ?rdh ?_); (case rdh => first | assumption | exact upd_same))
  | ((with_reducible refine' r_isi_tt ?rdh ?_); (case rdh => first | assumption | exact upd_same))
  | with_reducible refine r_sl ?_
  | with_reducible refine r_noPart ?_
  | with_reducible refine r_part ?_
  | with_reducible refine r_int1 ?_
  | with_reducible refine r_tru ?_
  | with_reducible refine r_ckw ?_
  | with_reducible refine r_lc ?_
  | with_reducible refine r_lc2 ?_
  | with_reducible refine r_forS ?_
  | with_reducible refine r_iR1 ?_
  | with_reducible refine r_iR2 ?_
  | with_reducible refine r_iL ?_
  | ((with_reducible refine' r_lenL ?rdh ?_); (case rdh => walk_at "sq"))
  | ((with_reducible refine' r_ixL ?rdh ?rda ?_); (case rdh => walk_at "sq"); (case rda => walk_at "at"))
  | ((with_reducible refine' r_ixT ?rdh ?rda ?_); (case rdh => walk_at "sq"); (case rda => walk_at "at")))
local macro_rules | `(tactic| walk_at "sq") => `(tactic| first
  | assumption
  | exact SqL.of (by assumption)
  | exact SqL.of upd_same
  | exact SqT.of (by assumption)
  | exact SqT.of upd_same)
local macro_rules | `(tactic| walk_at "sml") => `(tactic| (rw [sizeLine_eq]; simp))
local macro_rules | `(tactic| walk_at "at") => `(tactic| first | assumption | rfl)
local macro_rules | `(tactic| walk_at "rd") => `(tactic| repeat walk_at "rd1")
section
variable {w : World} {P : Program} {base : Heap} {K : PySem.W.Frag} {mg : Str → Option Value}
def sp_law (K : PySem.W.Frag) : Sp := fun vs H Q _ => ∃ (a : Addr) (ns : List Int), vs = [.ref a] ∧ SqL K H a (ns.map V.int) ∧ ns.length ≤ 63 ∧ ∀ H', Q (.bl true) H'
theorem mk_law {f f1 f2 f3 f4 f5 f6 f7 f8 f9 f10 : Addr} {fd fd1 fd2 fd3 fd4 fd5 fd6 fd7 fd8 fd9 fd10 : FuncData} (T : Txt mg) (F : Fun K "law" "law" s_law f fd)
    (C_law_digits : Cal P w K mg base "_law_digits" 2 f1 fd1 ["script", "first", "last"] (sp_digits K))
    (C_law_draw : Cal P w K mg base "_law_draw" 1 f2 fd2 ["box", "many"] (spB (fun bx (i : Int × Unit) => law_drawM bx i.1)))
    (C_law_pieces : Cal P w K mg base "_law_pieces" 2 f3 fd3 ["box", "most"] (spB (fun bx (i : Int × Unit) => law_piecesM bx i.1)))
    (C_law_canonical : Cal P w K mg base "_law_canonical" 1 f4 fd4 ["pairs"] (spP (fun (i : (List (Int × Int)) × Unit) => law_canonicalM i.1)))
    (C_law_image : Cal P w K mg base "_law_image" 1 f5 fd5 ["pairs", "address"] (spP (fun (i : (List (Int × Int)) × Int × Unit) => law_imageM i.1 i.2.1)))
    (C_law_good : Cal P w K mg base "_law_good" 2 f6 fd6 ["pieces"] (spP (fun (i : (List (T3 Int Int Int)) × Unit) => law_goodM i.1)))
    (C_pairs_of : Cal P w K mg base "pairs_of" 1 f7 fd7 ["pieces"] (spP (fun (i : (List (T3 Int Int Int)) × Unit) => pairs_ofM i.1)))
    (C_canonical : Cal P w K mg base "canonical" 2 f8 fd8 ["pairs"] (spP (fun (i : (List (Int × Int)) × Unit) => canonicalM i.1)))
    (C_is_map : Cal P w K mg base "is_map" 2 f9 fd9 ["pieces"] (spP (fun (i : (List (T3 Int Int Int)) × Unit) => is_mapM i.1)))
    (C_map_address : Cal P w K mg base "map_address" 1 f10 fd10 ["pieces", "address"] (spP (fun (i : (List (T3 Int Int Int)) × Int × Unit) => map_addressM i.1 i.2.1))) : FnOk P w K mg base CX0 3 f fd ["script"] (sp_law K) := by
  refine F.ok sc_law (fun vs H Q E h => ?_) (fun cdv A outer s H vs Q E hr h => ?_)
  · obtain ⟨a, ns, rfl, _⟩ := h
    rfl
  rcases h with ⟨a, ns, rfl, hS, h63, Q⟩
  refine ⟨_, (pss_cons (ps_set (i := 1) sc_law.nd rfl (Or.inl rfl) (pe_lst (pa_cons (pe_call C_law_digits.ok (hr.mono (by first | decide | omega)) rfl C_law_digits.mg C_law_digits.kp C_law_digits.b .nil pass0 (pa_cons (pv 0) (pa_cons pe_int (pa_cons pe_int pa_nil)))) (pa_cons pe_int pa_nil)))) (pss_cons (ps_set (i := 2) sc_law.nd rfl (Or.inr rfl) (pe_call C_law_pieces.ok (hr.mono (by first | decide | omega)) rfl C_law_pieces.mg C_law_pieces.kp C_law_pieces.b .nil pass0 (pa_cons (pv 1) (pa_cons pe_int pa_nil)))) (pss_cons (ps_set (i := 3) sc_law.nd rfl (Or.inl rfl) (pe_call C_law_canonical.ok (hr.mono (by first | decide | omega)) rfl C_law_canonical.mg C_law_canonical.kp C_law_canonical.b .nil pass0 (pa_cons (pv 2) pa_nil))) (pss_cons (show PS _ _ (tAsg (tLc _ _ _ _ [5]) _) from ps_setLc (i := 4) (own := [("k", 5)]) (g := gName 5) (tt := tYes) rfl sc_law.nd rfl rfl (sw_true rfl rfl rfl (by decide +kernel)) (pi_range1 rfl T.range (pa_cons (pe_callB (show CallR _ _ (fun xs H Q => ∃ p ys, xs = [V.ref p] ∧ (SqL K H p ys ∨ SqT K H p ys) ∧ Q (.int ys.length) H) from call_len_seq) (by rfl) T.len PySem.boot_len (pa_cons (pv 2) pa_nil)) pa_nil)) (blkOk_by (own := [("k", 5)]) (N := ["script", "box", "pairs", "due", "back", "k", "actual", "address", "spoilt", "piece", "kind", "at"]) (sc := defScope s_law) (by decide +kernel)) (fun _ _ _ _ _ => (pg_name (i := 5) sc_law.nd rfl (Or.inl rfl))) (fun _ _ _ _ _ => pts_nil) (fun _ _ _ _ _ => (pe_ix (show IxR _ (rIxL K) from ix_list) (pv 2) (pe_op op_sub (pe_op op_sub (pe_callB (show CallR _ _ (fun xs H Q => ∃ p ys, xs = [V.ref p] ∧ (SqL K H p ys ∨ SqT K H p ys) ∧ Q (.int ys.length) H) from call_len_seq) (by rfl) T.len PySem.boot_len (pa_cons (pv 2) pa_nil)) pe_int) (pv 5)) (fun _ _ => rfl)))) (pss_cons (ps_set (i := 6) sc_law.nd rfl (Or.inl rfl) (pe_call C_canonical.ok (hr.mono (by first | decide | omega)) rfl C_canonical.mg C_canonical.kp C_canonical.b .nil pass0 (pa_cons (pv 2) pa_nil))) (pss_cons (ps_if (PW.pt (pw_or (pt_not (pt_val (pe_callB (show CallR _ _ (rIsi K) from call_isi) (by rfl) T.isinstance (by decide +kernel) (pa_cons (pv 6) (pa_cons (pe_bltn (v := .ty "list") (u := .type "list") rfl T.list (by decide +kernel) rfl) pa_nil))))) (pw_or (pt_cmpR (show OpR _ _ (rNeD K) from op_neD hr.units) (pv 6) (pv 3) (nomark _)) (pw_or1 (pt_cmpR (show OpR _ _ (rNeD K) from op_neD hr.units) (pe_call C_canonical.ok (hr.mono (by first | decide | omega)) rfl C_canonical.mg C_canonical.kp C_canonical.b .nil pass0 (pa_cons (pv 4) pa_nil)) (pv 3) (nomark _))))))
      (pss_one (ps_ret pe_bl))
      pss_nil) (pss_cons (ps_if (PW.pt (pw_or (pt_cmpR (show OpR _ _ (rNeD K) from op_neD hr.units) (pe_call C_pairs_of.ok (hr.mono (by first | decide | omega)) rfl C_pairs_of.mg C_pairs_of.kp C_pairs_of.b .nil pass0 (pa_cons (pv 3) pa_nil)) (pe_callB (show CallR _ _ (rSortedPO K) from cr_sortedPO) (by rfl) T.sorted (by decide +kernel) (pa_cons (pv 2) pa_nil)) (nomark _)) (pw_or1 (pt_cmpR op_isnot_bl (pe_call C_is_map.ok (hr.mono (by first | decide | omega)) rfl C_is_map.mg C_is_map.kp C_is_map.b .nil pass0 (pa_cons (pv 3) pa_nil)) pe_bl (nomark _)))))
      (pss_one (ps_ret pe_bl))
      pss_nil) (pss_cons (ps_for PassesOwn.never rfl (pi_range1 rfl T.range (pa_cons pe_int pa_nil)) (pg_name (i := 7) sc_law.nd rfl (Or.inl rfl))
      (pss_one (ps_if (pt_cmpR (show OpR _ _ (rNeD K) from op_neD hr.units) (pe_call C_map_address.ok (hr.mono (by first | decide | omega)) rfl C_map_address.mg C_map_address.kp C_map_address.b .nil pass0 (pa_cons (pv 3) (pa_cons (pv 7) pa_nil))) (pe_call C_law_image.ok (hr.mono (by first | decide | omega)) rfl C_law_image.mg C_law_image.kp C_law_image.b .nil pass0 (pa_cons (pv 2) (pa_cons (pv 7) pa_nil))) (nomark _))
      (pss_one (ps_ret pe_bl))
      pss_nil))) (pss_cons (ps_set (i := 8) sc_law.nd rfl (Or.inr rfl) (show PE _ _ (tLc _ _ _ _ [9]) from pe_lc (own := [("piece", 9)]) (g := gName 9) (tt := tYes) rfl sc_law.nd (pi_list (pv 3)) (blkOk_by (own := [("piece", 9)]) (N := ["script", "box", "pairs", "due", "back", "k", "actual", "address", "spoilt", "piece", "kind", "at"]) (sc := defScope s_law) (by decide +kernel)) (fun _ _ _ _ _ => (pg_name (i := 9) sc_law.nd rfl (Or.inl rfl))) (fun _ _ _ _ _ => pts_nil) (fun _ _ _ _ _ => (pv 9)))) (pss_cons (ps_set (i := 10) sc_law.nd rfl (Or.inl rfl) (pe_call C_law_draw.ok (hr.mono (by first | decide | omega)) rfl C_law_draw.mg C_law_draw.kp C_law_draw.b .nil pass0 (pa_cons (pv 1) (pa_cons pe_int pa_nil)))) (pss_cons (ps_if (pt_cmpR op_gt (pe_callB (show CallR _ _ (fun xs H Q => ∃ p ys, xs = [V.ref p] ∧ (SqL K H p ys ∨ SqT K H p ys) ∧ Q (.int ys.length) H) from call_len_seq) (by rfl) T.len PySem.boot_len (pa_cons (pv 8) pa_nil)) pe_int (nomark _))
      (pss_cons (ps_set (i := 11) sc_law.nd rfl (Or.inl rfl) (pe_op op_mod (pe_callTy call_int1 (by rfl) T.int (by decide +kernel) (pa_cons (pe_call C_law_draw.ok (hr.mono (by first | decide | omega)) rfl C_law_draw.mg C_law_draw.kp C_law_draw.b .nil pass0 (pa_cons (pv 1) (pa_cons pe_int pa_nil))) pa_nil)) (pe_callB (show CallR _ _ (fun xs H Q => ∃ p ys, xs = [V.ref p] ∧ (SqL K H p ys ∨ SqT K H p ys) ∧ Q (.int ys.length) H) from call_len_seq) (by rfl) T.len PySem.boot_len (pa_cons (pv 8) pa_nil)))) (pss_cons (ps_set (i := 9) sc_law.nd rfl (Or.inl rfl) (pe_ix (show IxR _ (rIxL K) from ix_list) (pv 8) (pv 11) (fun _ _ => rfl))) (pss_one (ps_if (pt_cmpR op_eq (pv 10) pe_int (nomark _))
      (pss_one (ps_asg (pe_tup (pa_cons (pe_ix (show IxR _ (rIxT K) from ix_tup) (pv 9) pe_int (fun _ _ => rfl)) (pa_cons (pe_ix (show IxR _ (rIxT K) from ix_tup) (pv 9) pe_int (fun _ _ => rfl)) (pa_cons (pe_op op_add (pe_ix (show IxR _ (rIxT K) from ix_tup) (pv 9) pe_int (fun _ _ => rfl)) (pe_ix (show IxR _ (rIxL K) from ix_list) (pe_lst (pa_cons (pe_un un_neg pe_int) (pa_cons pe_int pa_nil))) (pe_call C_law_draw.ok (hr.mono (by first | decide | omega)) rfl C_law_draw.mg C_law_draw.kp C_law_draw.b .nil pass0 (pa_cons (pv 1) (pa_cons pe_int pa_nil))) (fun _ _ => rfl))) pa_nil)))) (pg_sub (pv 8) (pv 11) set_list)))
      (pss_one (ps_if (pt_cmpR op_eq (pv 10) pe_int (nomark _))
      (pss_one (ps_set (i := 8) sc_law.nd rfl (Or.inr rfl) (show PE _ _ (tLc _ _ _ _ [5]) from pe_lc (own := [("k", 5)]) (g := gName 5) (tt := tYes) rfl sc_law.nd (pi_range1 rfl T.range (pa_cons (pe_callB (show CallR _ _ (fun xs H Q => ∃ p ys, xs = [V.ref p] ∧ (SqL K H p ys ∨ SqT K H p ys) ∧ Q (.int ys.length) H) from call_len_seq) (by rfl) T.len PySem.boot_len (pa_cons (pv 8) pa_nil)) pa_nil)) (blkOk_by (own := [("k", 5)]) (N := ["script", "box", "pairs", "due", "back", "k", "actual", "address", "spoilt", "piece", "kind", "at"]) (sc := defScope s_law) (by decide +kernel)) (fun _ _ _ _ _ => (pg_name (i := 5) sc_law.nd rfl (Or.inl rfl))) (fun _ _ _ _ _ => pts_nil) (fun _ _ _ _ _ => (pe_ix (show IxR _ (rIxL K) from ix_list) (pv 8) (pe_op op_sub (pe_op op_sub (pe_callB (show CallR _ _ (fun xs H Q => ∃ p ys, xs = [V.ref p] ∧ (SqL K H p ys ∨ SqT K H p ys) ∧ Q (.int ys.length) H) from call_len_seq) (by rfl) T.len PySem.boot_len (pa_cons (pv 8) pa_nil)) pe_int) (pv 5)) (fun _ _ => rfl))))))
      (pss_one (ps_if (pt_cmpR op_eq (pv 10) pe_int (nomark _))
      (pss_one (ps_expr (pe_bm PySem.F.plainAttrs_list PySem.F.slot_list_insert PySem.F.type_list_insert mt_insert (pv 8) (pa_cons (pv 11) (pa_cons (pe_tup (pa_cons (pe_ix (show IxR _ (rIxT K) from ix_tup) (pv 9) pe_int (fun _ _ => rfl)) (pa_cons (pe_ix (show IxR _ (rIxT K) from ix_tup) (pv 9) pe_int (fun _ _ => rfl)) (pa_cons pe_int pa_nil)))) pa_nil)))))
      (pss_one (ps_asg (pe_tup (pa_cons (pe_ix (show IxR _ (rIxT K) from ix_tup) (pv 9) pe_int (fun _ _ => rfl)) (pa_cons (pe_op op_add pe_int (pe_ix (show IxR _ (rIxT K) from ix_tup) (pv 9) pe_int (fun _ _ => rfl))) (pa_cons (pe_ix (show IxR _ (rIxT K) from ix_tup) (pv 9) pe_int (fun _ _ => rfl)) pa_nil)))) (pg_sub (pv 8) (pv 11) set_list)))))))))))
      pss_nil) (pss_one (ps_ret (pe_cmpR op_eq (pe_call C_is_map.ok (hr.mono (by first | decide | omega)) rfl C_is_map.mg C_is_map.kp C_is_map.b .nil pass0 (pa_cons (pv 8) pa_nil)) (pe_call C_law_good.ok (hr.mono (by first | decide | omega)) rfl C_law_good.mg C_law_good.kp C_law_good.b .nil pass0 (pa_cons (pv 8) pa_nil)) (nomark _))))))))))))))), ?_⟩
  try dsimp only [cxOf, Cx.nox, Cx.wish]
  rw [show start ["script", "box", "pairs", "due", "back", "k", "actual", "address", "spoilt", "piece", "kind", "at"] [V.ref a] = [some (V.ref a), none, none, none, none, none, none, none, none, none, none, none] from rfl]
  walk_at "rd"
  refine ⟨a, ns, 0, 63, rfl, hS, by decide, by decide, fun d ds H1 nd s1 hd hdl => ?_⟩
  walk_at "rd"
  refine ⟨by walk_at "sml", fun b nb => ?_⟩
  refine upd_new nb fun H2 hb s2 => ?_
  have ndb : d ≠ b := ne_of_none hd nb
  generalize hms : [b] = ms
  have hbm : b ∈ ms := by rw [← hms]; exact List.mem_cons_self
  have hq : Bxs b (ds, 0) ms H2 := ⟨d, hb, ndb, by rw [← hms]; simp [ndb], s2 _ _ hd⟩
  have hB0 : ∀ a ∈ [b], a ∈ ms := fun a h => by rw [List.mem_singleton.mp h]; exact hbm
  have W : Wd [b] ms H2 := ⟨hB0, fun c hc => by
    rw [← hms] at hc
    rw [List.mem_singleton.mp hc, hb]
    exact fun z => by cases z⟩
  obtain ⟨bx0, ebx⟩ : ∃ z : List Int × Nat, z = (ds, 0) := ⟨_, rfl⟩
  rw [← ebx] at hq
  have hm : lawM bx0 = some true := by rw [ebx]; exact law_true ds
  unfold lawM at hm
  refine r_name ?_
  dsimp only [List.set_cons_succ, List.set_cons_zero]
  obtain ⟨⟨t_313, bx_314⟩, e_t_313, hm⟩ := bind_inv hm
  dsimp only at hm
  obtain ⟨pairs_315, e_pairs_315, hm⟩ := bnd_inv hm
  refine r_seqA ?_
  refine Ex.go W (ex_callB (i := ((8 : Int), ())) W (v := 1) rfl (ea_cons W (ex_int 8) ea_nil) e_t_313) hq fun v_317 H_316 bb hq W M rv => ?_
  rw [← e_pairs_315] at rv
  have f_pairs_315 := rv
  refine (bnd_name : Bnd _ _ _ _ _) _ ?_
  dsimp only [List.set_cons_succ, List.set_cons_zero]
  obtain ⟨t_318, e_t_318, hm⟩ := bind_inv hm
  obtain ⟨due_319, e_due_319, hm⟩ := bnd_inv hm
  refine r_seqA ?_
  refine Ex.go W (ex_call (i := (pairs_315, ())) W sb_bxs (ea_cons W (ex_var W rfl f_pairs_315) ea_nil) e_t_318) hq fun v_321 H_320 bb hq W M rv => ?_
  rw [← e_due_319] at rv
  have f_pairs_315 := Rp.mv f_pairs_315 M
  have f_due_319 := rv
  refine (bnd_name : Bnd _ _ _ _ _) _ ?_
  dsimp only [List.set_cons_succ, List.set_cons_zero]
  obtain ⟨rg_322, e_rg_322, hm⟩ := bind_inv hm
  obtain ⟨cs_324, e_cs_324, hm⟩ := bind_inv hm
  obtain ⟨back_326, e_back_326, hm⟩ := bnd_inv hm
  refine r_seqA ?_
  refine Ex.go W (En.ex sb_bxs (en_lcL (f := fun (y_323 : Int) => (atI pairs_315 (((pairs_315.length : Int) - (1 : Int)) - y_323)).bind fun t_325 => some (some t_325)) W sb_bxs (Ei.ej (ei_rng1 (ea_cons W (ex_len (el_of W.hB (ex_var W rfl f_pairs_315))) ea_nil) e_rg_322)) e_cs_324 (fun ms' H' y_323 v r' L hq' rv hm => by
          have W := L.W
          have f_pairs_315 := Rp.mv f_pairs_315 L.M
          have f_due_319 := Rp.mv f_due_319 L.M
          obtain rfl : v = V.int y_323 := rv
          obtain ⟨t_325, e_t_325, hm⟩ := bind_inv hm
          cases hm
          exact ⟨_, bnd_name, rfl, true, et_yes, fun h => (by cases h), fun _ => ⟨_, rfl, (ex_ixL (el_of W.hB (ex_var W rfl f_pairs_315)) (ex_opI0 (z := (((pairs_315.length : Int) - (1 : Int)) - y_323)) (fun _ _ => rfl) (ex_opI0 (z := ((pairs_315.length : Int) - (1 : Int))) (fun _ _ => rfl) (ex_len (el_of W.hB (ex_var W rfl f_pairs_315))) (ex_int 1)) (ex_vi rfl)) W e_t_325)⟩⟩))) hq fun v_328 H_327 bb hq W M rv => ?_
  rw [← e_back_326] at rv
  have f_pairs_315 := Rp.mv f_pairs_315 M
  have f_due_319 := Rp.mv f_due_319 M
  have f_back_326 := rv
  refine (bnd_name : Bnd _ _ _ _ _) _ ?_
  dsimp only [List.set_cons_succ, List.set_cons_zero]
  obtain ⟨t_329, e_t_329, hm⟩ := bind_inv hm
  obtain ⟨actual_330, e_actual_330, hm⟩ := bnd_inv hm
  refine r_seqA ?_
  refine Ex.go W (ex_call (i := (pairs_315, ())) W sb_bxs (ea_cons W (ex_var W rfl f_pairs_315) ea_nil) e_t_329) hq fun v_332 H_331 bb hq W M rv => ?_
  rw [← e_actual_330] at rv
  have f_pairs_315 := Rp.mv f_pairs_315 M
  have f_due_319 := Rp.mv f_due_319 M
  have f_back_326 := Rp.mv f_back_326 M
  have f_actual_330 := rv
  refine (bnd_name : Bnd _ _ _ _ _) _ ?_
  dsimp only [List.set_cons_succ, List.set_cons_zero]
  obtain ⟨t_336, e_t_336, hm⟩ := bind_inv hm
  refine r_seq ?_
  refine r_ifS ?_
  refine Et.go W (et_or (d := t_336) (et_not (et_val (ex_isiL (el_of W.hB (ex_var W rfl f_actual_330))))) (fun c => by
          have hm := (if_pos c).symm.trans e_t_336
          obtain ⟨t_335, e_t_335, hm⟩ := bind_inv hm
          rw [← Option.some.inj hm]
          exact (et_or (d := t_335) (et_test (ex_neL W (by decide) (el_of W.hB (ex_var W rfl f_actual_330)) (el_of W.hB (ex_var W rfl f_due_319)))) (fun c => by
          have hm := (if_pos c).symm.trans e_t_335
          obtain ⟨t_334, e_t_334, hm⟩ := bind_inv hm
          rw [← Option.some.inj hm]
          exact (et_test (ex_neL W (by decide) (el_of W.hB (ex_call (i := (back_326, ())) W sb_bxs (ea_cons W (ex_var W rfl f_back_326) ea_nil) e_t_334)) (el_of W.hB (ex_var W rfl f_due_319)))))
          (fun c => by
          have hm := (if_neg (by rw [c]; decide)).symm.trans e_t_335
          cases hm
          exact ⟨rfl, fun _ h => h⟩)))
          (fun c => by
          have hm := (if_neg (by rw [c]; decide)).symm.trans e_t_336
          cases hm
          exact ⟨rfl, fun _ h => h⟩)) hq fun H_337 bb hq W M => ?_
  have f_pairs_315 := Rp.mv f_pairs_315 M
  have f_due_319 := Rp.mv f_due_319 M
  have f_back_326 := Rp.mv f_back_326 M
  have f_actual_330 := Rp.mv f_actual_330 M
  refine ite_by (fun hc => ?_) (fun hc => ?_)
  · have hm := (if_pos hc).symm.trans hm
    have hm := Option.some.inj hm
    refine r_ret' ?_
    refine Ex.go W (ex_bl false) hq fun v H_338 bb hq W M rv => ?_
    have rv : v = V.bl (false) := rv
    rw [show (false) = true from hm] at rv
    rw [rv]
    exact Q _
  · have hm := (if_neg hc).symm.trans hm
    refine r_next ?_
    try dsimp only
    obtain ⟨t_340, e_t_340, hm⟩ := bind_inv hm
    obtain ⟨t_343, e_t_343, hm⟩ := bind_inv hm
    refine r_seq ?_
    refine r_ifS ?_
    refine Et.go W (et_or (d := t_343) (et_test (ex_neL W (by decide) (el_of W.hB (ex_call (i := (due_319, ())) W sb_bxs (ea_cons W (ex_var W rfl f_due_319) ea_nil) e_t_340)) (el_of W.hB (En.ex sb_bxs (en_sortP W sb_bxs (el_of W.hB (ex_var W rfl f_pairs_315))))))) (fun c => by
            have hm := (if_pos c).symm.trans e_t_343
            obtain ⟨t_342, e_t_342, hm⟩ := bind_inv hm
            rw [← Option.some.inj hm]
            exact (et_test (ex_isnB (ex_call (i := (due_319, ())) W sb_bxs (ea_cons W (ex_var W rfl f_due_319) ea_nil) e_t_342) (ex_bl true))))
            (fun c => by
            have hm := (if_neg (by rw [c]; decide)).symm.trans e_t_343
            cases hm
            exact ⟨rfl, fun _ h => h⟩)) hq fun H_344 bb hq W M => ?_
    have f_pairs_315 := Rp.mv f_pairs_315 M
    have f_due_319 := Rp.mv f_due_319 M
    have f_back_326 := Rp.mv f_back_326 M
    have f_actual_330 := Rp.mv f_actual_330 M
    refine ite_by (fun hc => ?_) (fun hc => ?_)
    · have hm := (if_pos hc).symm.trans hm
      have hm := Option.some.inj hm
      refine r_ret' ?_
      refine Ex.go W (ex_bl false) hq fun v H_345 bb hq W M rv => ?_
      have rv : v = V.bl (false) := rv
      rw [show (false) = true from hm] at rv
      rw [rv]
      exact Q _
    · have hm := (if_neg hc).symm.trans hm
      refine r_next ?_
      try dsimp only
      obtain ⟨rg_346, e_rg_346, hm⟩ := bind_inv hm
      refine r_seqF' ?_
      refine r_for W (ei_rng1 (ea_cons W (ex_int 14) ea_nil) e_rg_346) hq fun J N_348 H_347 bb hq W M st_nN_348 nN_348 ok_N_348 => ?_
      have f_pairs_315 := Rp.mv f_pairs_315 M
      have f_due_319 := Rp.mv f_due_319 M
      have f_back_326 := Rp.mv f_back_326 M
      have f_actual_330 := Rp.mv f_actual_330 M
      obtain ⟨out_352, e_out_352, hm⟩ := bind_inv hm
      have hretN_348 : ∀ r', out_352 = .ret r' → some r' = some true := fun r' e => by
        rw [e] at hm
        exact hm
      have hgoN_348 := hm
      clear hm
      refine wk_loop (ms := ms) ok_N_348 e_out_352 (fun bx_349 σ H' => ∃ (xl_address : Option V), σ = [some (.ref a), some (.ref b), some v_317, some v_321, some v_328, none, some v_332, xl_address, none, none, none, none] ∧ (Bxs b bx_349) (ms) H' ∧ Wd [b] (ms) H' ∧ N_348 (ms) H' ∧ Rp.rp (ms) H' (v_317) pairs_315 ∧ Rp.rp (ms) H' (v_321) due_319 ∧ Rp.rp (ms) H' (v_328) back_326 ∧ Rp.rp (ms) H' (v_332) actual_330) ⟨_, rfl, hq, W, nN_348, f_pairs_315, f_due_319, f_back_326, f_actual_330⟩ ?_ ?_ ?_
      · intro bx_349 σ H' hI
        try dsimp only at hI
        obtain ⟨xl_address, rfl, hq, W, nN_348, f_pairs_315, f_due_319, f_back_326, f_actual_330⟩ := hI
        exact ⟨nN_348, W.al⟩
      · intro y_351 v bx_349 flN_348 σ H_353 H_354 hI s1 rv hf hret
        try dsimp only at hI
        obtain ⟨xl_address, rfl, hq, W, nN_348, f_pairs_315, f_due_319, f_back_326, f_actual_330⟩ := hI
        have hm := hf
        try dsimp only at hm
        have hretN_348' := hret
        have hretN_348 := fun r' e => hretN_348 r' (hretN_348' r' e)
        have bb : Bu [b] H_353 H_354 := Bu.same s1
        have M : Mv (ms) H_353 (ms) H_354 := Mv.same s1
        have hq := sb_bxs.same s1 hq
        have W := W.bu bb
        have f_pairs_315 := Rp.mv f_pairs_315 M
        have f_due_319 := Rp.mv f_due_319 M
        have f_back_326 := Rp.mv f_back_326 M
        have f_actual_330 := Rp.mv f_actual_330 M
        have nN_348 := st_nN_348.mv nN_348 M
        obtain rfl : v = V.int y_351 := rv
        refine (bnd_name : Bnd _ _ _ _ _) _ ?_
        dsimp only [List.set_cons_succ, List.set_cons_zero]
        obtain ⟨t_357, e_t_357, hm⟩ := bind_inv hm
        obtain ⟨t_358, e_t_358, hm⟩ := bind_inv hm
        refine r_ifS ?_
        refine Et.go W (et_test (ex_neO W (by decide) (ex_call (i := (due_319, y_351, ())) W sb_bxs (ea_cons W (ex_var W rfl f_due_319) (ea_cons W (ex_vi rfl) ea_nil)) e_t_357) (ex_call (i := (pairs_315, y_351, ())) W sb_bxs (ea_cons W (ex_var W rfl f_pairs_315) (ea_cons W (ex_vi rfl) ea_nil)) e_t_358))) hq fun H_359 bb hq W M => ?_
        have f_pairs_315 := Rp.mv f_pairs_315 M
        have f_due_319 := Rp.mv f_due_319 M
        have f_back_326 := Rp.mv f_back_326 M
        have f_actual_330 := Rp.mv f_actual_330 M
        have nN_348 := st_nN_348.mv nN_348 M
        refine ite_by (fun hc => ?_) (fun hc => ?_)
        · have hm := (if_pos hc).symm.trans hm
          have hm := hretN_348 _ (Option.some.inj hm).symm
          have hm := Option.some.inj hm
          refine r_ret' ?_
          refine Ex.go W (ex_bl false) hq fun v H_360 bb hq W M rv => ?_
          have rv : v = V.bl (false) := rv
          rw [show (false) = true from hm] at rv
          rw [rv]
          exact Q _
        · have hm := (if_neg hc).symm.trans hm
          refine r_next ?_
          try dsimp only
          try dsimp only
          cases hm
          exact ⟨_, rfl, ⟨_, rfl, hq, W, nN_348, f_pairs_315, f_due_319, f_back_326, f_actual_330⟩⟩
      · intro bx_349 σ H_350 eo hI
        try dsimp only at hI
        obtain ⟨xl_address, rfl, hq, W, nN_348, f_pairs_315, f_due_319, f_back_326, f_actual_330⟩ := hI
        have hm := hgoN_348
        rw [eo] at hm
        try dsimp only at hm
        try dsimp only
        unfold lawK1 at hm
        obtain ⟨cs_362, e_cs_362, hm⟩ := bind_inv hm
        obtain ⟨spoilt_363, e_spoilt_363, hm⟩ := bnd_inv hm
        refine r_seqA ?_
        refine En.mk W (en_lcL (f := fun (y_361 : (T3 Int Int Int)) => some (some y_361)) W sb_bxs (Ei.ej (ei_list (ex_var W rfl f_due_319))) e_cs_362 (fun ms' H' y_361 v r' L hq' rv hm => by
                have W := L.W
                have f_pairs_315 := Rp.mv f_pairs_315 L.M
                have f_due_319 := Rp.mv f_due_319 L.M
                have f_back_326 := Rp.mv f_back_326 L.M
                have f_actual_330 := Rp.mv f_actual_330 L.M
                have f_y_361 := rv
                cases hm
                exact ⟨_, bnd_name, rfl, true, et_yes, fun h => (by cases h), fun _ => ⟨_, rfl, (ex_var W rfl f_y_361)⟩⟩)) hq fun aspoilt_363 H_364 bb na hq' W' M l_aspoilt_363 => ?_
        rw [← e_spoilt_363] at l_aspoilt_363
        have o_aspoilt_363 := W.al.not na
        have n_aspoilt_363 : aspoilt_363 ∉ [b] := fun z => W.al.not na (W.hB _ z)
        have m_aspoilt_363 : aspoilt_363 ∈ aspoilt_363 :: ms := List.mem_cons_self
        have f_pairs_315 := Rp.mv f_pairs_315 M
        have f_due_319 := Rp.mv f_due_319 M
        have f_back_326 := Rp.mv f_back_326 M
        have f_actual_330 := Rp.mv f_actual_330 M
        have W := W'
        have hq := hq'
        refine r_name ?_
        dsimp only [List.set_cons_succ, List.set_cons_zero]
        obtain ⟨⟨t_365, bx_366⟩, e_t_365, hm⟩ := bind_inv hm
        dsimp only at hm
        obtain ⟨kind_367, e_kind_367, hm⟩ := bnd_inv hm
        refine r_seqA ?_
        refine Ex.go W (ex_callB (i := ((4 : Int), ())) W (v := 1) rfl (ea_cons W (ex_int 4) ea_nil) e_t_365) hq fun v_369 H_368 bb hq W M rv => ?_
        rw [← e_kind_367] at rv
        have f_pairs_315 := Rp.mv f_pairs_315 M
        have f_due_319 := Rp.mv f_due_319 M
        have f_back_326 := Rp.mv f_back_326 M
        have f_actual_330 := Rp.mv f_actual_330 M
        have l_aspoilt_363 := l_aspoilt_363.step M fun o e => bb.1 _ o n_aspoilt_363 e
        obtain rfl : v_369 = V.int kind_367 := rv
        refine (bnd_name : Bnd _ _ _ _ _) _ ?_
        dsimp only [List.set_cons_succ, List.set_cons_zero]
        obtain ⟨j_374, e_j_374, hm⟩ := bind_inv hm
        obtain ⟨spoilt_371, bx_372⟩ := j_374
        try dsimp only at hm
        refine r_seqG fun R hR => ?_
        have key : ∀ (vj_spoilt_371 : V), ∀ (xl_piece : Option V), ∀ (xl_at : Option V), ∀ H_373, (Bxs b bx_372) (ms) H_373 → Wd [b] (ms) H_373 → Rp.rp (ms) H_373 (v_317) pairs_315 → Rp.rp (ms) H_373 (v_321) due_319 → Rp.rp (ms) H_373 (v_328) back_326 → Rp.rp (ms) H_373 (v_332) actual_330 → Rp.rp (ms) H_373 (vj_spoilt_371) spoilt_371 → R [some (.ref a), some (.ref b), some v_317, some v_321, some v_328, none, some v_332, xl_address, some vj_spoilt_371, xl_piece, some (.int kind_367), xl_at] H_373 := by
          intro vj_spoilt_371 xl_piece xl_at H_373 hq W f_pairs_315 f_due_319 f_back_326 f_actual_330 f_spoilt_371
          refine hR _ _ ?_
          obtain ⟨t_408, e_t_408, hm⟩ := bind_inv hm
          obtain ⟨t_409, e_t_409, hm⟩ := bind_inv hm
          have hm := Option.some.inj hm
          refine r_ret' ?_
          refine Ex.go W (ex_eqB (ex_call (i := (spoilt_371, ())) W sb_bxs (ea_cons W (ex_var W rfl f_spoilt_371) ea_nil) e_t_408) (ex_call (i := (spoilt_371, ())) W sb_bxs (ea_cons W (ex_var W rfl f_spoilt_371) ea_nil) e_t_409)) hq fun v H_410 bb hq W M rv => ?_
          have rv : v = V.bl ((decide (t_408 = t_409))) := rv
          rw [show ((decide (t_408 = t_409))) = true from hm] at rv
          rw [rv]
          exact Q _
        clear hR
        have hm := e_j_374
        refine r_ifS ?_
        refine Et.go W (et_test (ex_opI0 (z := (decide ((0 : Int) < (spoilt_363.length : Int)))) (fun _ _ => rfl) (ex_len (el_var W rfl n_aspoilt_363 l_aspoilt_363)) (ex_int 0))) hq fun H_370 bb hq W M => ?_
        have f_pairs_315 := Rp.mv f_pairs_315 M
        have f_due_319 := Rp.mv f_due_319 M
        have f_back_326 := Rp.mv f_back_326 M
        have f_actual_330 := Rp.mv f_actual_330 M
        have l_aspoilt_363 := l_aspoilt_363.step M fun o e => bb.1 _ o n_aspoilt_363 e
        refine ite_by (fun hc => ?_) (fun hc => ?_)
        · have hm := (if_pos hc).symm.trans hm
          obtain ⟨⟨t_377, bx_378⟩, e_t_377, hm⟩ := bind_inv hm
          dsimp only at hm
          obtain ⟨t_379, e_t_379, hm⟩ := bind_inv hm
          obtain ⟨at_380, e_at_380, hm⟩ := bnd_inv hm
          refine r_seqA ?_
          refine Ex.go W (ex_opI (z := t_379) (modF_ok e_t_379).1 (fun _ _ => by rw [(modF_ok e_t_379).2]; rfl) (ex_intI (ea_cons W (ex_callB (i := ((60 : Int), ())) W (v := 1) rfl (ea_cons W (ex_int 60) ea_nil) e_t_377) ea_nil)) (ex_len (el_var W rfl n_aspoilt_363 l_aspoilt_363))) hq fun v_382 H_381 bb hq W M rv => ?_
          rw [← e_at_380] at rv
          have f_pairs_315 := Rp.mv f_pairs_315 M
          have f_due_319 := Rp.mv f_due_319 M
          have f_back_326 := Rp.mv f_back_326 M
          have f_actual_330 := Rp.mv f_actual_330 M
          have l_aspoilt_363 := l_aspoilt_363.step M fun o e => bb.1 _ o n_aspoilt_363 e
          obtain rfl : v_382 = V.int at_380 := rv
          refine (bnd_name : Bnd _ _ _ _ _) _ ?_
          dsimp only [List.set_cons_succ, List.set_cons_zero]
          obtain ⟨t_383, e_t_383, hm⟩ := bind_inv hm
          obtain ⟨piece_384, e_piece_384, hm⟩ := bnd_inv hm
          refine r_seqA ?_
          refine Ex.go W (ex_ixL (el_var W rfl n_aspoilt_363 l_aspoilt_363) (ex_vi rfl) W e_t_383) hq fun v_386 H_385 bb hq W M rv => ?_
          rw [← e_piece_384] at rv
          have f_pairs_315 := Rp.mv f_pairs_315 M
          have f_due_319 := Rp.mv f_due_319 M
          have f_back_326 := Rp.mv f_back_326 M
          have f_actual_330 := Rp.mv f_actual_330 M
          have l_aspoilt_363 := l_aspoilt_363.step M fun o e => bb.1 _ o n_aspoilt_363 e
          have f_piece_384 := rv
          refine (bnd_name : Bnd _ _ _ _ _) _ ?_
          dsimp only [List.set_cons_succ, List.set_cons_zero]
          refine r_ifS ?_
          refine Et.go W (et_test (ex_eqI (ex_vi rfl) (ex_int 0))) hq fun H_387 bb hq W M => ?_
          have f_pairs_315 := Rp.mv f_pairs_315 M
          have f_due_319 := Rp.mv f_due_319 M
          have f_back_326 := Rp.mv f_back_326 M
          have f_actual_330 := Rp.mv f_actual_330 M
          have l_aspoilt_363 := l_aspoilt_363.step M fun o e => bb.1 _ o n_aspoilt_363 e
          have f_piece_384 := Rp.mv f_piece_384 M
          refine ite_by (fun hc => ?_) (fun hc => ?_)
          · have hm := (if_pos hc).symm.trans hm
            obtain ⟨⟨t_388, bx_389⟩, e_t_388, hm⟩ := bind_inv hm
            dsimp only at hm
            obtain ⟨t_390, e_t_390, hm⟩ := bind_inv hm
            obtain ⟨spoilt_391, e_spoilt_391, hm⟩ := bind_inv hm
            refine r_asg ?_
            refine s_setix W rfl l_aspoilt_363 m_aspoilt_363 n_aspoilt_363 sb_bxs (ex_tup3 W sb_bxs (u := T3.mk piece_384.a piece_384.b (piece_384.c + t_390)) (ea_cons W (ex_t1 (u := piece_384) (ex_var W rfl f_piece_384)) (ea_cons W (ex_t2 (u := piece_384) (ex_var W rfl f_piece_384)) (ea_cons W (ex_opI0 (z := (piece_384.c + t_390)) (fun _ _ => rfl) (ex_t3 (u := piece_384) (ex_var W rfl f_piece_384)) (ex_ixL (el_of W.hB (En.ex sb_bxs (en_lst (xs := [(-1 : Int), (1 : Int)]) W sb_bxs (by simp) (es_cons W (ex_opU (z := (-1 : Int)) (fun _ _ => rfl) (ex_int 1)) (es_cons W (ex_int 1) es_nil))))) (ex_callB (i := ((2 : Int), ())) W (v := 1) rfl (ea_cons W (ex_int 2) ea_nil) e_t_388) W e_t_390)) ea_nil)))) (ex_vi rfl) hq e_spoilt_391 fun H_392 bb hq W M l_aspoilt_363 => ?_
            have f_pairs_315 := Rp.mv f_pairs_315 M
            have f_due_319 := Rp.mv f_due_319 M
            have f_back_326 := Rp.mv f_back_326 M
            have f_actual_330 := Rp.mv f_actual_330 M
            have f_piece_384 := Rp.mv f_piece_384 M
            try dsimp only
            try dsimp only
            try dsimp only
            have sub : ∀ a ∈ ms, a ∈ aspoilt_363 :: ms := ((.cons _ (.refl _)) : List.Sublist (ms) (aspoilt_363 :: ms)).subset
            have M : Mv (aspoilt_363 :: ms) H_392 (ms) H_392 := Mv.less sub
            have hq := sb_bxs _ _ _ _ hq M fun _ _ _ e => e
            have W : Wd [b] (ms) H_392 := ⟨fun a h => hB0 a h, W.al.less sub⟩
            have f_pairs_315 := Rp.mv f_pairs_315 M
            have f_due_319 := Rp.mv f_due_319 M
            have f_back_326 := Rp.mv f_back_326 M
            have f_actual_330 := Rp.mv f_actual_330 M
            have f_spoilt_391 : Rp.rp (ms) H_392 (.ref aspoilt_363) spoilt_391 := ⟨aspoilt_363, rfl, o_aspoilt_363, l_aspoilt_363.less sub⟩
            have f_piece_384 := Rp.mv f_piece_384 M
            cases hm
            exact key _ _ _ _ hq W f_pairs_315 f_due_319 f_back_326 f_actual_330 f_spoilt_391
          · have hm := (if_neg hc).symm.trans hm
            refine r_ifS ?_
            refine Et.go W (et_test (ex_eqI (ex_vi rfl) (ex_int 1))) hq fun H_393 bb hq W M => ?_
            have f_pairs_315 := Rp.mv f_pairs_315 M
            have f_due_319 := Rp.mv f_due_319 M
            have f_back_326 := Rp.mv f_back_326 M
            have f_actual_330 := Rp.mv f_actual_330 M
            have l_aspoilt_363 := l_aspoilt_363.step M fun o e => bb.1 _ o n_aspoilt_363 e
            have f_piece_384 := Rp.mv f_piece_384 M
            refine ite_by (fun hc => ?_) (fun hc => ?_)
            · have hm := (if_pos hc).symm.trans hm
              obtain ⟨rg_394, e_rg_394, hm⟩ := bind_inv hm
              obtain ⟨cs_396, e_cs_396, hm⟩ := bind_inv hm
              obtain ⟨spoilt_398, e_spoilt_398, hm⟩ := bnd_inv hm
              refine r_asg ?_
              refine Ex.go W (En.ex sb_bxs (en_lcL (f := fun (y_395 : Int) => (atI spoilt_363 (((spoilt_363.length : Int) - (1 : Int)) - y_395)).bind fun t_397 => some (some t_397)) W sb_bxs (Ei.ej (ei_rng1 (ea_cons W (ex_len (el_var W rfl n_aspoilt_363 l_aspoilt_363)) ea_nil) e_rg_394)) e_cs_396 (fun ms' H' y_395 v r' L hq' rv hm => by
                      have W := L.W
                      have f_pairs_315 := Rp.mv f_pairs_315 L.M
                      have f_due_319 := Rp.mv f_due_319 L.M
                      have f_back_326 := Rp.mv f_back_326 L.M
                      have f_actual_330 := Rp.mv f_actual_330 L.M
                      have l_aspoilt_363 := l_aspoilt_363.lt n_aspoilt_363 L
                      have f_piece_384 := Rp.mv f_piece_384 L.M
                      obtain rfl : v = V.int y_395 := rv
                      obtain ⟨t_397, e_t_397, hm⟩ := bind_inv hm
                      cases hm
                      exact ⟨_, bnd_name, rfl, true, et_yes, fun h => (by cases h), fun _ => ⟨_, rfl, (ex_ixL (el_var W rfl n_aspoilt_363 l_aspoilt_363) (ex_opI0 (z := (((spoilt_363.length : Int) - (1 : Int)) - y_395)) (fun _ _ => rfl) (ex_opI0 (z := ((spoilt_363.length : Int) - (1 : Int))) (fun _ _ => rfl) (ex_len (el_var W rfl n_aspoilt_363 l_aspoilt_363)) (ex_int 1)) (ex_vi rfl)) W e_t_397)⟩⟩))) hq fun v_400 H_399 bb hq W M rv => ?_
              rw [← e_spoilt_398] at rv
              have f_pairs_315 := Rp.mv f_pairs_315 M
              have f_due_319 := Rp.mv f_due_319 M
              have f_back_326 := Rp.mv f_back_326 M
              have f_actual_330 := Rp.mv f_actual_330 M
              have l_aspoilt_363 := l_aspoilt_363.step M fun o e => bb.1 _ o n_aspoilt_363 e
              have f_piece_384 := Rp.mv f_piece_384 M
              have f_spoilt_398 := rv
              refine (bnd_name : Bnd _ _ _ _ _) _ ?_
              dsimp only [List.set_cons_succ, List.set_cons_zero]
              try dsimp only
              try dsimp only
              try dsimp only
              try dsimp only
              have sub : ∀ a ∈ ms, a ∈ aspoilt_363 :: ms := ((.cons _ (.refl _)) : List.Sublist (ms) (aspoilt_363 :: ms)).subset
              have M : Mv (aspoilt_363 :: ms) H_399 (ms) H_399 := Mv.less sub
              have hq := sb_bxs _ _ _ _ hq M fun _ _ _ e => e
              have W : Wd [b] (ms) H_399 := ⟨fun a h => hB0 a h, W.al.less sub⟩
              have f_pairs_315 := Rp.mv f_pairs_315 M
              have f_due_319 := Rp.mv f_due_319 M
              have f_back_326 := Rp.mv f_back_326 M
              have f_actual_330 := Rp.mv f_actual_330 M
              have f_spoilt_398 := Rp.mv f_spoilt_398 M
              have f_piece_384 := Rp.mv f_piece_384 M
              cases hm
              exact key _ _ _ _ hq W f_pairs_315 f_due_319 f_back_326 f_actual_330 f_spoilt_398
            · have hm := (if_neg hc).symm.trans hm
              refine r_ifS ?_
              refine Et.go W (et_test (ex_eqI (ex_vi rfl) (ex_int 2))) hq fun H_401 bb hq W M => ?_
              have f_pairs_315 := Rp.mv f_pairs_315 M
              have f_due_319 := Rp.mv f_due_319 M
              have f_back_326 := Rp.mv f_back_326 M
              have f_actual_330 := Rp.mv f_actual_330 M
              have l_aspoilt_363 := l_aspoilt_363.step M fun o e => bb.1 _ o n_aspoilt_363 e
              have f_piece_384 := Rp.mv f_piece_384 M
              refine ite_by (fun hc => ?_) (fun hc => ?_)
              · have hm := (if_pos hc).symm.trans hm
                obtain ⟨spoilt_402, e_spoilt_402, hm⟩ := bind_inv hm
                refine r_drop ?_
                refine s_ins rfl W rfl l_aspoilt_363 m_aspoilt_363 n_aspoilt_363 sb_bxs (ea_cons W (ex_vi rfl) (ea_cons W (ex_tup3 W sb_bxs (u := T3.mk piece_384.a piece_384.b (1 : Int)) (ea_cons W (ex_t1 (u := piece_384) (ex_var W rfl f_piece_384)) (ea_cons W (ex_t2 (u := piece_384) (ex_var W rfl f_piece_384)) (ea_cons W (ex_int 1) ea_nil)))) ea_nil)) hq e_spoilt_402 fun H_403 bb hq W M l_aspoilt_363 => ?_
                have f_pairs_315 := Rp.mv f_pairs_315 M
                have f_due_319 := Rp.mv f_due_319 M
                have f_back_326 := Rp.mv f_back_326 M
                have f_actual_330 := Rp.mv f_actual_330 M
                have f_piece_384 := Rp.mv f_piece_384 M
                try dsimp only
                try dsimp only
                try dsimp only
                try dsimp only
                try dsimp only
                have sub : ∀ a ∈ ms, a ∈ aspoilt_363 :: ms := ((.cons _ (.refl _)) : List.Sublist (ms) (aspoilt_363 :: ms)).subset
                have M : Mv (aspoilt_363 :: ms) H_403 (ms) H_403 := Mv.less sub
                have hq := sb_bxs _ _ _ _ hq M fun _ _ _ e => e
                have W : Wd [b] (ms) H_403 := ⟨fun a h => hB0 a h, W.al.less sub⟩
                have f_pairs_315 := Rp.mv f_pairs_315 M
                have f_due_319 := Rp.mv f_due_319 M
                have f_back_326 := Rp.mv f_back_326 M
                have f_actual_330 := Rp.mv f_actual_330 M
                have f_spoilt_402 : Rp.rp (ms) H_403 (.ref aspoilt_363) spoilt_402 := ⟨aspoilt_363, rfl, o_aspoilt_363, l_aspoilt_363.less sub⟩
                have f_piece_384 := Rp.mv f_piece_384 M
                cases hm
                exact key _ _ _ _ hq W f_pairs_315 f_due_319 f_back_326 f_actual_330 f_spoilt_402
              · have hm := (if_neg hc).symm.trans hm
                obtain ⟨spoilt_404, e_spoilt_404, hm⟩ := bind_inv hm
                refine r_asg ?_
                refine s_setix W rfl l_aspoilt_363 m_aspoilt_363 n_aspoilt_363 sb_bxs (ex_tup3 W sb_bxs (u := T3.mk piece_384.a ((20 : Int) + piece_384.b) piece_384.c) (ea_cons W (ex_t1 (u := piece_384) (ex_var W rfl f_piece_384)) (ea_cons W (ex_opI0 (z := ((20 : Int) + piece_384.b)) (fun _ _ => rfl) (ex_int 20) (ex_t2 (u := piece_384) (ex_var W rfl f_piece_384))) (ea_cons W (ex_t3 (u := piece_384) (ex_var W rfl f_piece_384)) ea_nil)))) (ex_vi rfl) hq e_spoilt_404 fun H_405 bb hq W M l_aspoilt_363 => ?_
                have f_pairs_315 := Rp.mv f_pairs_315 M
                have f_due_319 := Rp.mv f_due_319 M
                have f_back_326 := Rp.mv f_back_326 M
                have f_actual_330 := Rp.mv f_actual_330 M
                have f_piece_384 := Rp.mv f_piece_384 M
                try dsimp only
                try dsimp only
                try dsimp only
                try dsimp only
                try dsimp only
                have sub : ∀ a ∈ ms, a ∈ aspoilt_363 :: ms := ((.cons _ (.refl _)) : List.Sublist (ms) (aspoilt_363 :: ms)).subset
                have M : Mv (aspoilt_363 :: ms) H_405 (ms) H_405 := Mv.less sub
                have hq := sb_bxs _ _ _ _ hq M fun _ _ _ e => e
                have W : Wd [b] (ms) H_405 := ⟨fun a h => hB0 a h, W.al.less sub⟩
                have f_pairs_315 := Rp.mv f_pairs_315 M
                have f_due_319 := Rp.mv f_due_319 M
                have f_back_326 := Rp.mv f_back_326 M
                have f_actual_330 := Rp.mv f_actual_330 M
                have f_spoilt_404 : Rp.rp (ms) H_405 (.ref aspoilt_363) spoilt_404 := ⟨aspoilt_363, rfl, o_aspoilt_363, l_aspoilt_363.less sub⟩
                have f_piece_384 := Rp.mv f_piece_384 M
                cases hm
                exact key _ _ _ _ hq W f_pairs_315 f_due_319 f_back_326 f_actual_330 f_spoilt_404
        · have hm := (if_neg hc).symm.trans hm
          refine r_next ?_
          try dsimp only
          have sub : ∀ a ∈ ms, a ∈ aspoilt_363 :: ms := ((.cons _ (.refl _)) : List.Sublist (ms) (aspoilt_363 :: ms)).subset
          have M : Mv (aspoilt_363 :: ms) H_370 (ms) H_370 := Mv.less sub
          have hq := sb_bxs _ _ _ _ hq M fun _ _ _ e => e
          have W : Wd [b] (ms) H_370 := ⟨fun a h => hB0 a h, W.al.less sub⟩
          have f_pairs_315 := Rp.mv f_pairs_315 M
          have f_due_319 := Rp.mv f_due_319 M
          have f_back_326 := Rp.mv f_back_326 M
          have f_actual_330 := Rp.mv f_actual_330 M
          have f_spoilt_363 : Rp.rp (ms) H_370 (.ref aspoilt_363) spoilt_363 := ⟨aspoilt_363, rfl, o_aspoilt_363, l_aspoilt_363.less sub⟩
          cases hm
          exact key _ _ _ _ hq W f_pairs_315 f_due_319 f_back_326 f_actual_330 f_spoilt_363
end
theorem all_mk {l : PySem.W.OpenLaw} {w : World} {K : PySem.W.Frag} {h : Heap} {mg : Str → Option Value} {fa f1 f2 f3 f4 f5 f6 f7 f8 f9 f10 f11 f12 f13 f14 : Addr} (X : K.In h) (G : h.Ns mainGlobals mg) (hfa : mg "law" = some (.ref fa))
    {od1 an1 od2 an2 od3 an3 od4 an4 od5 an5 od6 an6 od7 an7 od8 an8 od9 an9 od10 an10 od11 an11 od12 an12 od13 an13 od14 an14 : Option Addr} {sl1 sl2 sl3 sl4 sl5 sl6 sl7 sl8 sl9 sl10 sl11 sl12 sl13 sl14 : Array (Option Value)} {oc1 kV1 dc1 pm1 ct1 cd1 oc2 kV2 dc2 pm2 ct2 cd2 oc3 kV3 dc3 pm3 ct3 cd3 oc4 kV4 dc4 pm4 ct4 cd4 oc5 kV5 dc5 pm5 ct5 cd5 oc6 kV6 dc6 pm6 ct6 cd6 oc7 kV7 dc7 pm7 ct7 cd7 oc8 kV8 dc8 pm8 ct8 cd8 oc9 kV9 dc9 pm9 ct9 cd9 oc10 kV10 dc10 pm10 ct10 cd10 oc11 kV11 dc11 pm11 ct11 cd11 oc12 kV12 dc12 pm12 ct12 cd12 oc13 kV13 dc13 pm13 ct13 cd13 oc14 kV14 dc14 pm14 ct14 cd14 : Value}
    (a1 : PySem.W.nsIn K mainGlobals "_law_cell" = some (some (.ref f1))) (l1 : K.lookup f1 = some ⟨oc1, od1, .func (PySem.W.fnOf "_law_cell" "_law_cell" (defArgs s_law_cell) (defBody s_law_cell) (defScope s_law_cell) .none kV1 dc1 pm1 an1 cd1 ct1), sl1⟩) (c1 : PySem.W.codeIn K cd1 "_law_cell" = true) (k1 : PySem.W.keepIn K (.ref f1) = true)
    (a2 : PySem.W.nsIn K mainGlobals "_law_digits" = some (some (.ref f2))) (l2 : K.lookup f2 = some ⟨oc2, od2, .func (PySem.W.fnOf "_law_digits" "_law_digits" (defArgs s_law_digits) (defBody s_law_digits) (defScope s_law_digits) .none kV2 dc2 pm2 an2 cd2 ct2), sl2⟩) (c2 : PySem.W.codeIn K cd2 "_law_digits" = true) (k2 : PySem.W.keepIn K (.ref f2) = true)
    (a3 : PySem.W.nsIn K mainGlobals "_law_draw" = some (some (.ref f3))) (l3 : K.lookup f3 = some ⟨oc3, od3, .func (PySem.W.fnOf "_law_draw" "_law_draw" (defArgs s_law_draw) (defBody s_law_draw) (defScope s_law_draw) .none kV3 dc3 pm3 an3 cd3 ct3), sl3⟩) (c3 : PySem.W.codeIn K cd3 "_law_draw" = true) (k3 : PySem.W.keepIn K (.ref f3) = true)
    (a4 : PySem.W.nsIn K mainGlobals "_law_pieces" = some (some (.ref f4))) (l4 : K.lookup f4 = some ⟨oc4, od4, .func (PySem.W.fnOf "_law_pieces" "_law_pieces" (defArgs s_law_pieces) (defBody s_law_pieces) (defScope s_law_pieces) .none kV4 dc4 pm4 an4 cd4 ct4), sl4⟩) (c4 : PySem.W.codeIn K cd4 "_law_pieces" = true) (k4 : PySem.W.keepIn K (.ref f4) = true)
    (a5 : PySem.W.nsIn K mainGlobals "_law_canonical" = some (some (.ref f5))) (l5 : K.lookup f5 = some ⟨oc5, od5, .func (PySem.W.fnOf "_law_canonical" "_law_canonical" (defArgs s_law_canonical) (defBody s_law_canonical) (defScope s_law_canonical) .none kV5 dc5 pm5 an5 cd5 ct5), sl5⟩) (c5 : PySem.W.codeIn K cd5 "_law_canonical" = true) (k5 : PySem.W.keepIn K (.ref f5) = true)
    (a6 : PySem.W.nsIn K mainGlobals "_law_image" = some (some (.ref f6))) (l6 : K.lookup f6 = some ⟨oc6, od6, .func (PySem.W.fnOf "_law_image" "_law_image" (defArgs s_law_image) (defBody s_law_image) (defScope s_law_image) .none kV6 dc6 pm6 an6 cd6 ct6), sl6⟩) (c6 : PySem.W.codeIn K cd6 "_law_image" = true) (k6 : PySem.W.keepIn K (.ref f6) = true)
    (a7 : PySem.W.nsIn K mainGlobals "_law_good" = some (some (.ref f7))) (l7 : K.lookup f7 = some ⟨oc7, od7, .func (PySem.W.fnOf "_law_good" "_law_good" (defArgs s_law_good) (defBody s_law_good) (defScope s_law_good) .none kV7 dc7 pm7 an7 cd7 ct7), sl7⟩) (c7 : PySem.W.codeIn K cd7 "_law_good" = true) (k7 : PySem.W.keepIn K (.ref f7) = true)
    (a8 : PySem.W.nsIn K mainGlobals "_continues" = some (some (.ref f8))) (l8 : K.lookup f8 = some ⟨oc8, od8, .func (PySem.W.fnOf "_continues" "_continues" (defArgs s_continues) (defBody s_continues) (defScope s_continues) .none kV8 dc8 pm8 an8 cd8 ct8), sl8⟩) (c8 : PySem.W.codeIn K cd8 "_continues" = true) (k8 : PySem.W.keepIn K (.ref f8) = true)
    (a9 : PySem.W.nsIn K mainGlobals "_ascend" = some (some (.ref f9))) (l9 : K.lookup f9 = some ⟨oc9, od9, .func (PySem.W.fnOf "_ascend" "_ascend" (defArgs s_ascend) (defBody s_ascend) (defScope s_ascend) .none kV9 dc9 pm9 an9 cd9 ct9), sl9⟩) (c9 : PySem.W.codeIn K cd9 "_ascend" = true) (k9 : PySem.W.keepIn K (.ref f9) = true)
    (a10 : PySem.W.nsIn K mainGlobals "pairs_of" = some (some (.ref f10))) (l10 : K.lookup f10 = some ⟨oc10, od10, .func (PySem.W.fnOf "pairs_of" "pairs_of" (defArgs s_pairs_of) (defBody s_pairs_of) (defScope s_pairs_of) .none kV10 dc10 pm10 an10 cd10 ct10), sl10⟩) (c10 : PySem.W.codeIn K cd10 "pairs_of" = true) (k10 : PySem.W.keepIn K (.ref f10) = true)
    (a11 : PySem.W.nsIn K mainGlobals "canonical" = some (some (.ref f11))) (l11 : K.lookup f11 = some ⟨oc11, od11, .func (PySem.W.fnOf "canonical" "canonical" (defArgs s_canonical) (defBody s_canonical) (defScope s_canonical) .none kV11 dc11 pm11 an11 cd11 ct11), sl11⟩) (c11 : PySem.W.codeIn K cd11 "canonical" = true) (k11 : PySem.W.keepIn K (.ref f11) = true)
    (a12 : PySem.W.nsIn K mainGlobals "is_map" = some (some (.ref f12))) (l12 : K.lookup f12 = some ⟨oc12, od12, .func (PySem.W.fnOf "is_map" "is_map" (defArgs s_is_map) (defBody s_is_map) (defScope s_is_map) .none kV12 dc12 pm12 an12 cd12 ct12), sl12⟩) (c12 : PySem.W.codeIn K cd12 "is_map" = true) (k12 : PySem.W.keepIn K (.ref f12) = true)
    (a13 : PySem.W.nsIn K mainGlobals "map_address" = some (some (.ref f13))) (l13 : K.lookup f13 = some ⟨oc13, od13, .func (PySem.W.fnOf "map_address" "map_address" (defArgs s_map_address) (defBody s_map_address) (defScope s_map_address) .none kV13 dc13 pm13 an13 cd13 ct13), sl13⟩) (c13 : PySem.W.codeIn K cd13 "map_address" = true) (k13 : PySem.W.keepIn K (.ref f13) = true)
    (a14 : PySem.W.nsIn K mainGlobals "law" = some (some (.ref f14))) (l14 : K.lookup f14 = some ⟨oc14, od14, .func (PySem.W.fnOf "law" "law" (defArgs s_law) (defBody s_law) (defScope s_law) .none kV14 dc14 pm14 an14 cd14 ct14), sl14⟩) (c14 : PySem.W.codeIn K cd14 "law" = true) (k14 : PySem.W.keepIn K (.ref f14) = true)
    (z_all : PySem.W.nsIn K mainGlobals "all" = some none)
    (z_any : PySem.W.nsIn K mainGlobals "any" = some none)
    (z_int : PySem.W.nsIn K mainGlobals "int" = some none)
    (z_isinstance : PySem.W.nsIn K mainGlobals "isinstance" = some none)
    (z_len : PySem.W.nsIn K mainGlobals "len" = some none)
    (z_list : PySem.W.nsIn K mainGlobals "list" = some none)
    (z_range : PySem.W.nsIn K mainGlobals "range" = some none)
    (z_sorted : PySem.W.nsIn K mainGlobals "sorted" = some none)
    (z_zip : PySem.W.nsIn K mainGlobals "zip" = some none)
    : ∃ fd : FuncData, (∀ (s : Shared) (v : Value), BindsTo s fd ⟨[v], []⟩ [("script", v)]) ∧ ∀ base : Heap, K.In base → base.Ns mainGlobals mg → FnOk l.prog w K mg base CX0 3 fa fd ["script"] (sp_law K) := by
  have e := hfa.symm.trans (PySem.W.mg_of X G a14)
  cases e
  have T : Txt mg := ⟨PySem.W.mg_none_of X G z_all, PySem.W.mg_none_of X G z_any, PySem.W.mg_none_of X G z_int, PySem.W.mg_none_of X G z_isinstance, PySem.W.mg_none_of X G z_len, PySem.W.mg_none_of X G z_list, PySem.W.mg_none_of X G z_range, PySem.W.mg_none_of X G z_sorted, PySem.W.mg_none_of X G z_zip⟩
  have F_law_cell := fun_mk (st := s_law_cell) l1 c1 k1
  have B_law_cell := F_law_cell.binds (ps := ["script", "k"]) fun _ _ _ _ _ _ us hl => match us, hl with | [_, _], _ => rfl
  have F_law_digits := fun_mk (st := s_law_digits) l2 c2 k2
  have B_law_digits := F_law_digits.binds (ps := ["script", "first", "last"]) fun _ _ _ _ _ _ us hl => match us, hl with | [_, _, _], _ => rfl
  have F_law_draw := fun_mk (st := s_law_draw) l3 c3 k3
  have B_law_draw := F_law_draw.binds (ps := ["box", "many"]) fun _ _ _ _ _ _ us hl => match us, hl with | [_, _], _ => rfl
  have F_law_pieces := fun_mk (st := s_law_pieces) l4 c4 k4
  have B_law_pieces := F_law_pieces.binds (ps := ["box", "most"]) fun _ _ _ _ _ _ us hl => match us, hl with | [_, _], _ => rfl
  have F_law_canonical := fun_mk (st := s_law_canonical) l5 c5 k5
  have B_law_canonical := F_law_canonical.binds (ps := ["pairs"]) fun _ _ _ _ _ _ us hl => match us, hl with | [_], _ => rfl
  have F_law_image := fun_mk (st := s_law_image) l6 c6 k6
  have B_law_image := F_law_image.binds (ps := ["pairs", "address"]) fun _ _ _ _ _ _ us hl => match us, hl with | [_, _], _ => rfl
  have F_law_good := fun_mk (st := s_law_good) l7 c7 k7
  have B_law_good := F_law_good.binds (ps := ["pieces"]) fun _ _ _ _ _ _ us hl => match us, hl with | [_], _ => rfl
  have F_continues := fun_mk (st := s_continues) l8 c8 k8
  have B_continues := F_continues.binds (ps := ["piece", "source", "target"]) fun _ _ _ _ _ _ us hl => match us, hl with | [_, _, _], _ => rfl
  have F_ascend := fun_mk (st := s_ascend) l9 c9 k9
  have B_ascend := F_ascend.binds (ps := ["rows"]) fun _ _ _ _ _ _ us hl => match us, hl with | [_], _ => rfl
  have F_pairs_of := fun_mk (st := s_pairs_of) l10 c10 k10
  have B_pairs_of := F_pairs_of.binds (ps := ["pieces"]) fun _ _ _ _ _ _ us hl => match us, hl with | [_], _ => rfl
  have F_canonical := fun_mk (st := s_canonical) l11 c11 k11
  have B_canonical := F_canonical.binds (ps := ["pairs"]) fun _ _ _ _ _ _ us hl => match us, hl with | [_], _ => rfl
  have F_is_map := fun_mk (st := s_is_map) l12 c12 k12
  have B_is_map := F_is_map.binds (ps := ["pieces"]) fun _ _ _ _ _ _ us hl => match us, hl with | [_], _ => rfl
  have F_map_address := fun_mk (st := s_map_address) l13 c13 k13
  have B_map_address := F_map_address.binds (ps := ["pieces", "address"]) fun _ _ _ _ _ _ us hl => match us, hl with | [_, _], _ => rfl
  have F_law := fun_mk (st := s_law) l14 c14 k14
  refine ⟨PySem.W.fnOf "law" "law" (defArgs s_law) (defBody s_law) (defScope s_law) .none kV14 dc14 pm14 an14 cd14 ct14, fun s v => .of_eq rfl, fun base _ _ => ?_⟩
  have C_law_cell := mk_law_cell (P := l.prog) (w := w) (base := base) T F_law_cell (PySem.W.mg_of X G a1) B_law_cell
  have C_law_digits := mk_law_digits (P := l.prog) (w := w) (base := base) T F_law_digits (PySem.W.mg_of X G a2) B_law_digits C_law_cell
  have C_law_draw := mk_law_draw (P := l.prog) (w := w) (base := base) T F_law_draw (PySem.W.mg_of X G a3) B_law_draw
  have C_law_pieces := mk_law_pieces (P := l.prog) (w := w) (base := base) T F_law_pieces (PySem.W.mg_of X G a4) B_law_pieces C_law_draw
  have C_law_canonical := mk_law_canonical (P := l.prog) (w := w) (base := base) T F_law_canonical (PySem.W.mg_of X G a5) B_law_canonical
  have C_law_image := mk_law_image (P := l.prog) (w := w) (base := base) T F_law_image (PySem.W.mg_of X G a6) B_law_image
  have C_law_good := mk_law_good (P := l.prog) (w := w) (base := base) T F_law_good (PySem.W.mg_of X G a7) B_law_good C_law_canonical
  have C_continues := mk_continues (P := l.prog) (w := w) (base := base) T F_continues (PySem.W.mg_of X G a8) B_continues
  have C_ascend := mk_ascend (P := l.prog) (w := w) (base := base) T F_ascend (PySem.W.mg_of X G a9) B_ascend
  have C_pairs_of := mk_pairs_of (P := l.prog) (w := w) (base := base) T F_pairs_of (PySem.W.mg_of X G a10) B_pairs_of
  have C_canonical := mk_canonical (P := l.prog) (w := w) (base := base) T F_canonical (PySem.W.mg_of X G a11) B_canonical C_continues
  have C_is_map := mk_is_map (P := l.prog) (w := w) (base := base) T F_is_map (PySem.W.mg_of X G a12) B_is_map C_continues C_ascend
  have C_map_address := mk_map_address (P := l.prog) (w := w) (base := base) T F_map_address (PySem.W.mg_of X G a13) B_map_address
  exact mk_law T F_law C_law_digits C_law_draw C_law_pieces C_law_canonical C_law_image C_law_good C_pairs_of C_canonical C_is_map C_map_address
theorem walk {l : PySem.W.OpenLaw} {q : Program} {loose : List Str} {XP : (Str → Option Value) → Heap → Prop} {YP : World → Heap → Prop} {d : DefRec} {K : Params → PySem.W.Frag} (hn : l.most = some 63) (hdf : d.params.defaults = [])
    (hY : ∀ (w : World) (h : Heap), YP w h → (K w.params).In h)
    (F : ∀ (w : World) (mg : Str → Option Value) (fa : Addr) (h : Heap), (K w.params).In h → h.Ns mainGlobals mg → mg d.name = some (.ref fa) →
      ∃ fd : FuncData, (∀ (s : Shared) (u : Value), BindsTo s fd ⟨[u], []⟩ [("script", u)]) ∧ ∀ base : Heap, (K w.params).In base → base.Ns mainGlobals mg → FnOk l.prog w (K w.params) mg base CX0 3 fa fd ["script"] (sp_law (K w.params))) :
    PySem.W.WalkO q loose XP YP l.row.toRowW d [] (fun f vs => PySem.call f vs) :=
  L2.walk_of (n := 63) (k := 3) (x := "script") (CX := fun _ => CX0) (sp := fun w => sp_law (K w.params)) hn (by decide) hdf ⟨rfl, by decide, by decide⟩ hY F (fun _ _ a ns hl _ hS => ⟨a, ns, rfl, hS, hl, fun _ => rfl⟩) fun _ _ _ _ _ z => z
end Pf
open PySem PySem.W PyProof.Rows
set_option maxRecDepth 100000 in
set_option maxHeartbeats 0 in
theorem PySem.Challenge.cw_heapgame_k09_canonical_maps_holds : PySem.Challenge.rw_heapgame_k09_canonical_maps.Holds := by
  w_on; o_law; k_head; (case hw => w_witness2)
  k_fill
  refine Pf.walk (l := PySem.Challenge.rw_heapgame_k09_canonical_maps) rfl rfl (fun w h Y => PySem.W.kIn_of Y) ?F
  case F =>
    intro w mg fa h KX G hmg
    refine' Pf.all_mk KX G hmg ?a1 ?l1 ?c1 ?k1 ?a2 ?l2 ?c2 ?k2 ?a3 ?l3 ?c3 ?k3 ?a4 ?l4 ?c4 ?k4 ?a5 ?l5 ?c5 ?k5 ?a6 ?l6 ?c6 ?k6 ?a7 ?l7 ?c7 ?k7 ?a8 ?l8 ?c8 ?k8 ?a9 ?l9 ?c9 ?k9 ?a10 ?l10 ?c10 ?k10 ?a11 ?l11 ?c11 ?k11 ?a12 ?l12 ?c12 ?k12 ?a13 ?l13 ?c13 ?k13 ?a14 ?l14 ?c14 ?k14 ?z_all ?z_any ?z_int ?z_isinstance ?z_len ?z_list ?z_range ?z_sorted ?z_zip
    (case a1 => k_is)
    (case l1 => k_is)
    (case c1 => k_is)
    (case k1 => k_is)
    (case a2 => k_is)
    (case l2 => k_is)
    (case c2 => k_is)
    (case k2 => k_is)
    (case a3 => k_is)
    (case l3 => k_is)
    (case c3 => k_is)
    (case k3 => k_is)
    (case a4 => k_is)
    (case l4 => k_is)
    (case c4 => k_is)
    (case k4 => k_is)
    (case a5 => k_is)
    (case l5 => k_is)
    (case c5 => k_is)
    (case k5 => k_is)
    (case a6 => k_is)
    (case l6 => k_is)
    (case c6 => k_is)
    (case k6 => k_is)
    (case a7 => k_is)
    (case l7 => k_is)
    (case c7 => k_is)
    (case k7 => k_is)
    (case a8 => k_is)
    (case l8 => k_is)
    (case c8 => k_is)
    (case k8 => k_is)
    (case a9 => k_is)
    (case l9 => k_is)
    (case c9 => k_is)
    (case k9 => k_is)
    (case a10 => k_is)
    (case l10 => k_is)
    (case c10 => k_is)
    (case k10 => k_is)
    (case a11 => k_is)
    (case l11 => k_is)
    (case c11 => k_is)
    (case k11 => k_is)
    (case a12 => k_is)
    (case l12 => k_is)
    (case c12 => k_is)
    (case k12 => k_is)
    (case a13 => k_is)
    (case l13 => k_is)
    (case c13 => k_is)
    (case k13 => k_is)
    (case a14 => k_is)
    (case l14 => k_is)
    (case c14 => k_is)
    (case k14 => k_is)
    (case z_all => k_is)
    (case z_any => k_is)
    (case z_int => k_is)
    (case z_isinstance => k_is)
    (case z_len => k_is)
    (case z_list => k_is)
    (case z_range => k_is)
    (case z_sorted => k_is)
    (case z_zip => k_is)
