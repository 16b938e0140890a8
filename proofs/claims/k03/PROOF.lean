import PyProof.Rows.All
import Wide.All
import OpenK.AllK
import Wide.FinOn
import HandS.ForMost
import HandS.Evl
import HandS.Wide
import HandS.Walk
import HandS.Conv
import HandS.IsInst
import HandS.Zip
import HandS.Deep
import HandS.SetFor
import HandS.Strs
import HandS.TupSets
import HandS.TupAny
import HandS.SortOrd
import HandS.SortRule
import HandS.SortInts
import PySem.Challenge.RW_fullapart_k03_what_a_set_lacks
set_option Elab.async false
set_option linter.all false
set_option maxRecDepth 100000
set_option maxHeartbeats 5000000
namespace Fa
open PySem PySem.Spec PyProof.Rows L2
def rIsNone : R2 := fun x y H Q => y = .non ∧ Q (.bl (decide (x = .non))) H
def rNotNone : R2 := fun x y H Q => y = .non ∧ Q (.bl (!decide (x = .non))) H
def rMin2 : List V → Hp → VK → Prop := fun xs H Q => ∃ i j, xs = [.int i, .int j] ∧ Q (.int (if j < i then j else i)) H
section
variable {K : PySem.W.Frag} {D : Ends} {σ : L2.St} {H : Hp} {Q : VK} {ta tb tc te : TE} {t u : TS} {b c : TT} {x y v : V} {r : R2} {i : Nat} {QB : Bool → Hp → Prop} {QA : List V → Hp → Prop}
theorem r_seq (h : t { D with nx := u D } σ H) : tSeq t u D σ H := h
theorem r_asg (h : te σ H fun x H1 => D.nx (σ.set i (some x)) H1) : tAsg te (gName i) D σ H := h
theorem r_asgG {g : TG} (h : te σ H fun x H1 => g x σ H1 D.nx) : tAsg te g D σ H := h
theorem r_par {i j : Nat} {ta : TA} (h : ta σ H fun vs H1 => ∃ v w, vs = [v, w] ∧ D.nx ((σ.set i (some v)).set j (some w)) H1) : tPar i j ta D σ H := h
theorem r_if (h : c σ H fun b H1 => if b = true then t D σ H1 else u D σ H1) : tIfS c t u D σ H := h
theorem r_ret (h : te σ H D.rt) : tRet te D σ H := h
theorem r_drop (h : te σ H fun _ H1 => D.nx σ H1) : tDrop te D σ H := h
theorem r_next (h : D.nx σ H) : tNext D σ H := h
theorem r_var (h : σ[i]? = some (some v)) (q : Q v H) : tVar i σ H Q := ⟨v, h, q⟩
theorem r_c (q : Q v H) : tC v σ H Q := q
theorem r_op (h : ta σ H fun x H1 => tb σ H1 fun y H2 => r x y H2 Q) : tOp r ta tb σ H Q := h
theorem r_un {f : V → Hp → VK → Prop} (h : ta σ H fun x H1 => f x H1 Q) : tUn f ta σ H Q := h
theorem r_I0 {g : Int → Int → V} {i j : Int} (q : Q (g i j) H) : rI0 g (.int i) (.int j) H Q := ⟨i, j, rfl, rfl, q⟩
theorem r_I {C : Int → Int → Prop} {g : Int → Int → V} {i j : Int} (hc : C i j) (q : Q (g i j) H) : rI C g (.int i) (.int j) H Q := ⟨i, j, rfl, rfl, hc, q⟩
theorem r_U {g : Int → V} {i : Int} (q : Q (g i) H) : rU g (.int i) H Q := ⟨i, rfl, q⟩
theorem r_test (h : te σ H fun x H' => ∃ k, x = .bl k ∧ QB k H') : tTest te σ H QB := h
theorem r_B (h : te σ H fun x H' => ∃ k, x = .bl k ∧ QB k H') : tB te σ H QB := h
theorem r_bl {k : Bool} {B : Bool → Prop} (q : B k) : ∃ k', V.bl k = V.bl k' ∧ B k' := ⟨k, rfl, q⟩
theorem r_eq (hs : scal x y = true) (q : Q (.bl (decide (x = y))) H) : rEq x y H Q := ⟨hs, q⟩
theorem r_ne (hs : scal x y = true) (q : Q (.bl (!decide (x = y))) H) : rNe x y H Q := ⟨hs, q⟩
theorem r_eqI {i j : Int} (q : Q (.bl (decide (i = j))) H) : rEq (.int i) (.int j) H Q := ⟨rfl, by
  have e : decide (V.int i = V.int j) = decide (i = j) := by by_cases h : i = j <;> simp [h]
  rw [e]; exact q⟩
theorem r_neI {i j : Int} (q : Q (.bl (!decide (i = j))) H) : rNe (.int i) (.int j) H Q := ⟨rfl, by
  have e : decide (V.int i = V.int j) = decide (i = j) := by by_cases h : i = j <;> simp [h]
  rw [e]; exact q⟩
theorem r_nil (q : QA [] H) : tNil σ H QA := q
theorem r_cons {tr : TA} (h : ta σ H fun x H1 => tr σ H1 fun xs H2 => QA (x :: xs) H2) : tCons ta tr σ H QA := h
theorem r_tup {ta : TA} (h : ta σ H fun xs H1 => xs.length ≤ sizeLine ∧ ∀ p, H1 p = none → Q (.ref p) (upd H1 p (.tup xs))) : tTup ta σ H Q := h
theorem r_lst {ta : TA} (h : ta σ H fun xs H1 => xs.length ≤ sizeLine ∧ ∀ p, H1 p = none → Q (.ref p) (upd H1 p (.lst xs))) : tLst ta σ H Q := h
theorem r_call {sp : Sp} {dvs : List V} {E : XK} {ta : TA} (h : ta σ H fun vs H1 => sp (vs ++ dvs) H1 Q E) : tCall sp dvs E ta σ H Q := h
theorem r_cb {f : List V → Hp → VK → Prop} {ta : TA} (h : ta σ H fun vs H1 => f vs H1 Q) : tCB f ta σ H Q := h
theorem r_and {b c : TT} (h : b σ H fun k H1 => if k = true then c σ H1 QB else QB false H1) : tAnd b c σ H QB := h
theorem r_or {b c : TT} (h : b σ H fun k H1 => if k = true then QB true H1 else c σ H1 QB) : tOr b c σ H QB := h
theorem r_not {b : TT} (h : b σ H fun k H1 => QB (!k) H1) : tNot b σ H QB := h
theorem r_andV (h : ta σ H fun x H1 => ∃ c, x = .bl c ∧ if c = true then tb σ H1 Q else Q (.bl false) H1) : tAndV ta tb σ H Q := h
theorem r_orV (h : ta σ H fun x H1 => ∃ c, x = .bl c ∧ if c = true then Q (.bl true) H1 else tb σ H1 Q) : tOrV ta tb σ H Q := h
theorem r_notV (h : ta σ H fun x H1 => ∃ c, x = .bl c ∧ Q (.bl (!c)) H1) : tNotV ta σ H Q := h
theorem r_ifE (h : b σ H fun c H1 => if c = true then ta σ H1 Q else tb σ H1 Q) : tIf b ta tb σ H Q := h
theorem r_ixL {p : Addr} {xs : List V} {i : Int} (hl : SqL K H p xs) (ha : atI xs i = some v) (q : Q v H) : rIxL K (.ref p) (.int i) H Q := ⟨p, xs, i, v, rfl, rfl, hl, ha, q⟩
theorem r_ixT {p : Addr} {xs : List V} {i : Int} (hl : SqT K H p xs) (ha : atI xs i = some v) (q : Q v H) : rIxT K (.ref p) (.int i) H Q := ⟨p, xs, i, v, rfl, rfl, hl, ha, q⟩
theorem r_gSub {to ti : TE} {ts : TSet} {QS : L2.St → Hp → Prop} (h : to σ H fun o H1 => ti σ H1 fun i H2 => ts o i v H2 fun H3 => QS σ H3) : gSub to ti ts v σ H QS := h
theorem r_setL {p : Addr} {xs : List V} {k : Int} {j : Nat} {QH : Hp → Prop} (hl : H p = some (.lst xs)) (hj : ixN xs.length k = some j) (q : QH (upd H p (.lst (xs.set j v)))) : rSetL (.ref p) (.int k) v H QH := ⟨p, xs, k, j, rfl, rfl, hl, hj, q⟩
theorem r_sl {f : V → Option Int → Option Int → Hp → VK → Prop} {tl th : TO} (h : te σ H fun x H1 => tl σ H1 fun l H2 => th σ H2 fun u H3 => f x l u H3 Q) : tSl f te tl th σ H Q := h
theorem r_noPart {QO : Option Int → Hp → Prop} (h : QO none H) : tNoPart σ H QO := h
theorem r_part {QO : Option Int → Hp → Prop} (h : te σ H fun x H1 => ∃ i, x = .int i ∧ QO (some i) H1) : tPart te σ H QO := h
theorem r_partI {i : Int} {B : Int → Prop} (q : B i) : ∃ i', V.int i = V.int i' ∧ B i' := ⟨i, rfl, q⟩
theorem r_slL {a : Addr} {xs : List V} {lo hi : Option Int} (h : SqL K H a xs) (k : ∀ p, H p = none → Q (.ref p) (upd H p (.lst (cutV xs lo hi)))) : rSlL K (.ref a) lo hi H Q := ⟨a, xs, rfl, h, k⟩
theorem r_for {wi : TI} {g : TG} (h : wi σ H fun J H1 => ∃ W : Nat → Nat → L2.St → Hp → Prop, (∃ m, W 0 m σ H1) ∧ ∀ i m σ H, W i m σ H →
  (J.stop i H ∧ D.nx σ H) ∨ (J.go i H ∧ ∃ N : L2.St → Hp → Prop, (∀ σ' H', N σ' H' → ∃ m', m' < m ∧ W (i + 1) m' σ' H') ∧ ∀ x H', J.yld i H x H' → g x σ H' fun σ2 H2 => t { D with nx := N, ct := N, bk := D.nx } σ2 H2)) : tFor wi g t D σ H := h
theorem r_iList {R : It → Hp → Prop} (h : te σ H fun x H1 => ∃ a, x = .ref a ∧ (∃ xs, SqL K H1 a xs) ∧ R (Itl K a) H1) : iList K te σ H R := h
theorem r_iTup {R : It → Hp → Prop} (h : te σ H fun x H1 => ∃ a, x = .ref a ∧ (∃ xs, SqT K H1 a xs) ∧ R (Itt K a) H1) : iTup K te σ H R := h
theorem r_iRng1 {ta : TA} {R : It → Hp → Prop} (h : ta σ H fun vs H1 => ∃ j : Int, vs = [.int j] ∧ -(2 ^ 62) ≤ j ∧ j < 2 ^ 62 ∧ R (Itr 0 j.toNat) H1) : iRng1 ta σ H R := h
theorem r_iRng2 {ta : TA} {R : It → Hp → Prop} (h : ta σ H fun vs H1 => ∃ i j : Int, vs = [.int i, .int j] ∧ (-(2 ^ 62) ≤ i ∧ i < 2 ^ 62 ∧ -(2 ^ 62) ≤ j ∧ j < 2 ^ 62) ∧ R (Itr i (j - i).toNat) H1) : iRng2 ta σ H R := h
theorem r_iEnum {ta : TA} {R : It → Hp → Prop} (h : ta σ H fun vs H1 => ∃ a xs, vs = [.ref a] ∧ SqL K H1 a xs ∧ R (Ite K a) H1) : iEnum K ta σ H R := h
theorem r_iZip {ta : TA} {R : It → Hp → Prop} (h : ta σ H fun vs H1 => ∃ a b xs ys, vs = [.ref a, .ref b] ∧ SqL K H1 a xs ∧ SqL K H1 b ys ∧ R (Itz K a b) H1) : iZip K ta σ H R := h
theorem r_gName {i : Nat} {QS : L2.St → Hp → Prop} (q : QS (σ.set i (some v)) H) : gName i v σ H QS := q
theorem r_gTup2 {i j n : Nat} {a : Addr} {QS : L2.St → Hp → Prop} (hn : 2 = n) (hs : SqT K H a [x, y]) (q : QS ((σ.set i (some x)).set j (some y)) H) : gTup K n (gCons (gName i) (gCons (gName j) gNil)) (.ref a) σ H QS :=
  ⟨a, [x, y], rfl, hs, hn, x, [y], rfl, y, [], rfl, rfl, q⟩
theorem r_bm {T : String} {f : V → List V → Hp → VK → Prop} {ta : TA} (h : te σ H fun x H1 => tyV K T x H1 ∧ ta σ H1 fun xs H2 => f x xs H2 Q) : tBM K T f te ta σ H Q := h
theorem r_bm0 {T : String} {f : V → List V → Hp → VK → Prop} (h : te σ H fun x H1 => tyV K T x H1 ∧ f x [] H1 Q) : tBM0 K T f te σ H Q := h
theorem r_app {l : Addr} {xs : List V} (h : H l = some (.lst xs)) (hz : xs.length < 100000) (q : Q .non (upd H l (.lst (xs ++ [y])))) : rAppend (.ref l) [y] H Q := ⟨l, xs, y, rfl, rfl, h, Evl.sz_lt hz, q⟩
theorem tyL {a : Addr} {xs : List V} (h : SqL K H a xs) : tyV K "list" (.ref a) H := .inl ⟨rfl, xs, h⟩
theorem r_isN {A : Prop} (q : A) : V.non = V.non ∧ A := ⟨rfl, q⟩
theorem iteRT {c : Bool} {A B : Prop} (h : c = true) (q : A) : if c = true then A else B := by rw [if_pos h]; exact q
theorem iteRF {c : Bool} {A B : Prop} (h : c = false) (q : B) : if c = true then A else B := by rw [if_neg (by rw [h]; decide)]; exact q
theorem iteB {c : Bool} {A B : Prop} (h1 : c = true → A) (h2 : c = false → B) : if c = true then A else B := by
  cases c
  · exact iteF (h2 rfl)
  · exact iteT (h1 rfl)
theorem r_isi {t' : String} {T : String} {b : Bool} (ty : TyX K H x (.type t')) (h : kitB t' T = some b) (q : Q (.bl b) H) : rIsi K [x, .ty T] H Q := ⟨x, .ty T, .type t', .type T, b, rfl, .ty T, ty, kit_ty h, q⟩
theorem r_isiT {t' : String} {T : String} (ty : TyX K H x (.type t')) (h : kitB t' T = some true) (q : Q (.bl true) H) : rIsi K [x, .ty T] H Q := r_isi ty h q
theorem r_isiF {t' : String} {T : String} (ty : TyX K H x (.type t')) (h : kitB t' T = some false) (q : Q (.bl false) H) : rIsi K [x, .ty T] H Q := r_isi ty h q
theorem tyx_L {a : Addr} {xs : List V} (h : SqL K H a xs) : TyX K H (.ref a) (.type "list") := by
  rcases h with (h | ⟨o, h⟩) | ⟨o, its, n, h, c, _⟩
  · exact .base (.lst h)
  · exact .base (.frz h)
  · exact .kList h c
theorem tyx_T {a : Addr} {xs : List V} (h : SqT K H a xs) : TyX K H (.ref a) (.type "tuple") := by
  rcases h with (h | ⟨o, h⟩) | ⟨o, its, n, h, c, _⟩
  · exact .base (.tup h)
  · exact .fTuple h
  · exact .kTuple h c
theorem walk_zipT {a b : Addr} {xs ys : List V} {n : Nat} (hn : n = min xs.length ys.length) : Walk (RZ.ItzT K a b) n (fun H => SqT K H a xs ∧ SqT K H b ys) (YPair (fun i => xs[i]?) (fun i => ys[i]?)) := by
  subst hn
  refine ⟨fun i _ hi q => ?_, fun _ q => ⟨xs, ys, q.1, q.2, by omega⟩, fun i H v H' _ q y => ?_⟩
  · have h1 : i < xs.length := by omega
    have h2 : i < ys.length := by omega
    exact ⟨xs, ys, xs[i], ys[i], q.1, q.2, by simp [h1], by simp [h2]⟩
  · obtain ⟨T', x', z, h1, h2, h3, h4, h5⟩ := y
    exact ⟨T', x', z, h1, h2, h3, h4 xs q.1, h5 ys q.2⟩
theorem r_lc {wi : TI} {g : TG} {tt : TT} {vs : List Nat} (h : wi σ H fun J H1 => ∀ D, H1 D = none → ∃ W : Nat → Nat → Hp → Prop, (∃ m, W 0 m (upd H1 D (.lst []))) ∧ ∀ i m H, W i m H →
  (J.stop i H ∧ Q (.ref D) H) ∨ (J.go i H ∧ ∃ Nx : Hp → Prop, (∀ H', Nx H' → ∃ m', m' < m ∧ W (i + 1) m' H') ∧ ∀ x H', J.yld i H x H' → g x (wipe σ vs) H' fun σ2 H2 => wipe σ2 vs = wipe σ vs ∧ tt σ2 H2 fun b H3 =>
    if b = true then te σ2 H3 fun y H4 => ∃ acc, H4 D = some (.lst acc) ∧ acc.length < sizeLine ∧ Nx (upd H4 D (.lst (acc ++ [y]))) else Nx H3)) : tLc wi g tt te vs σ H Q := h
theorem r_yes (q : QB true H) : tYes σ H QB := q
theorem r_iZipA {ta : TA} {R : It → Hp → Prop} (h : ta σ H fun vs H1 => ∃ a b xs ys, vs = [.ref a, .ref b] ∧ ((SqL K H1 a xs ∧ SqL K H1 b ys ∧ R (Itz K a b) H1) ∨ (SqT K H1 a xs ∧ SqT K H1 b ys ∧ R (RZ.ItzT K a b) H1))) : RZ.iZipA K ta σ H R := h
theorem r_lstRg {f : L2.St → Hp → (Int → Int → Hp → Prop) → Prop} (h : f σ H fun a b H1 => RgOk a b ∧ ∀ q, H1 q = none → Q (.ref q) (upd H1 q (.lst (rgV a b)))) : tLstRg f σ H Q := h
theorem r_rg1 {QR : Int → Int → Hp → Prop} (h : ta σ H fun x H1 => ∃ n, x = .int n ∧ QR 0 n H1) : tRg1 ta σ H QR := h
theorem r_min2 {i j : Int} {B : Int → Int → Prop} (q : B i j) : ∃ i' j', [V.int i, V.int j] = [V.int i', V.int j'] ∧ B i' j' := ⟨i, j, rfl, q⟩
theorem r_par2 {x y : V} {B : V → V → Prop} (q : B x y) : ∃ v w, [x, y] = [v, w] ∧ B v w := ⟨x, y, rfl, q⟩
theorem r_popAt {l : Addr} {xs : List V} {i : Int} {y : V} (h : H l = some (.lst xs)) (h0 : 0 ≤ i) (h1 : i < (xs.length : Int)) (hs : xs.length ≤ 1000000) (hy : xs[i.toNat]? = some y) (q : Q y (upd H l (.lst (xs.eraseIdx i.toNat)))) : rPopAt (.ref l) [.int i] H Q :=
  ⟨l, xs, i, i.toNat, y, rfl, rfl, h, by omega, by omega, seqIndex_of h0 h1, hy, q⟩
theorem r_len {p : Addr} {xs : List V} (hl : SqL K H p xs ∨ SqT K H p xs) (q : Q (.int (xs.length : Int)) H) : (fun xs H Q => ∃ p ys, xs = [.ref p] ∧ (SqL K H p ys ∨ SqT K H p ys) ∧ Q (.int (List.length ys : Int)) H : List V → Hp → VK → Prop) [.ref p] H Q := ⟨p, xs, rfl, hl, q⟩
end
/-- all but what stands at p is as it was -/
def ExB (p : Addr) (H H' : Hp) : Prop := ∀ a o, a ≠ p → H a = some o → H' a = some o
theorem ExB.refl (p : Addr) (H : Hp) : ExB p H H := fun _ _ _ h => h
theorem ExB.trans {p : Addr} {H H1 H2 : Hp} (a : ExB p H H1) (b : ExB p H1 H2) : ExB p H H2 := fun c o n h => b c o n (a c o n h)
theorem ExB.of {p : Addr} {H H' : Hp} (e : Evl.Ex H H') : ExB p H H' := fun a o _ h => e a o h
theorem ExB.upd {p : Addr} {H : Hp} {o : HO} : ExB p H (upd H p o) := fun a u n h => by rw [upd_ne n]; exact h
theorem ExB.new {p q : Addr} {H : Hp} {o : HO} (h : H q = none) : ExB p H (L2.upd H q o) := ExB.of (Evl.Ex.new h)
theorem ExB.mut {p q : Addr} {H H' : Hp} {o : HO} (e : ExB p H H') (h : H q = none) : ExB p H (L2.upd H' q o) := fun a u n ha => by
  rw [upd_ne (ne_of_none ha h)]
  exact e a u n ha
/-- tuples stay -/
def ExT (H H' : Hp) : Prop := ∀ a xs, H a = some (.tup xs) → H' a = some (.tup xs)
/-- the law's pot: its cells at c, a place, a rest -/
def PotC (H : Hp) (p c : Addr) : Prop := ∃ (cs : List Int) (at' r : Int), H p = some (.lst [.ref c, .int at', .int r]) ∧ H c = some (.lst (cs.map V.int)) ∧ c ≠ p ∧ 0 ≤ at' ∧ 0 ≤ r ∧ cs.length ≤ 100
theorem PotC.np {H : Hp} {p c q : Addr} (h : PotC H p c) (n : H q = none) : q ≠ p := by
  obtain ⟨cs, a, r, h1, _⟩ := h
  exact (ne_of_none h1 n).symm
theorem PotC.nc {H : Hp} {p c q : Addr} (h : PotC H p c) (n : H q = none) : q ≠ c := by
  obtain ⟨cs, a, r, h1, h2, _⟩ := h
  exact (ne_of_none h2 n).symm
theorem PotC.upd {H : Hp} {p c q : Addr} {o : HO} (h : PotC H p c) (n1 : q ≠ p) (n2 : q ≠ c) : PotC (L2.upd H q o) p c := by
  obtain ⟨cs, a, r, h1, h2, h3⟩ := h
  exact ⟨cs, a, r, by rw [upd_ne n1.symm]; exact h1, by rw [upd_ne n2.symm]; exact h2, h3⟩
theorem PotC.new {H : Hp} {p c q : Addr} {o : HO} (h : PotC H p c) (n : H q = none) : PotC (L2.upd H q o) p c := h.upd (h.np n) (h.nc n)
theorem PotC.ex {H H' : Hp} {p c : Addr} (h : PotC H p c) (e : Evl.Ex H H') : PotC H' p c := by
  obtain ⟨cs, a, r, h1, h2, h3⟩ := h
  exact ⟨cs, a, r, e _ _ h1, e _ _ h2, h3⟩
theorem PotC.t {H H' : Hp} {p c : Addr} (h : PotC H p c) (e : ExB p H H') : ExT H H' := fun a xs ha => by
  obtain ⟨cs, at', r, h1, _⟩ := h
  exact e a _ (ne_of ha h1 (by intro z; cases z)) ha
theorem ExT.trans {H H1 H2 : Hp} (a : ExT H H1) (b : ExT H1 H2) : ExT H H2 := fun x o h => b x o (a x o h)
theorem ExT.of {H H' : Hp} (e : Evl.Ex H H') : ExT H H' := fun a xs h => e a _ h
theorem ExT.lst {H : Hp} {q : Addr} {xs : List V} {o : HO} (h : H q = some (.lst xs)) : ExT H (L2.upd H q o) := fun a ys ha => by
  rw [upd_ne (ne_of ha h (by intro z; cases z))]
  exact ha
theorem small_up {u : Int} (h0 : 0 < u) (h : u ≤ 100000) : u.natAbs < 2 ^ 1000 := Nat.lt_of_lt_of_le (show u.natAbs < 100001 by omega) (by decide)
theorem atI_of {α : Type} {xs : List α} {i : Int} {v : α} (h0 : 0 ≤ i) (h : xs[i.toNat]? = some v) : atI xs i = some v := by
  have e : ((i.toNat : Nat) : Int) = i := by omega
  rw [← e]
  exact atI_nat h
theorem atI_int {cs : List Int} {i : Int} (h0 : 0 ≤ i) (h1 : i < (cs.length : Int)) : atI (cs.map V.int) i = some (.int (cs.getD i.toNat 0)) := by
  refine atI_of h0 ?_
  have hi : i.toNat < cs.length := by omega
  rw [List.getElem?_map, List.getElem?_eq_getElem hi, List.getD_eq_getElem?_getD, List.getElem?_eq_getElem hi]
  rfl
def cutG {α : Type} (xs : List α) (lo hi : Option Int) : List α := (xs.drop (HT.sIx xs.length 0 lo)).take (HT.sIx xs.length xs.length hi - HT.sIx xs.length 0 lo)
theorem cutV_map {α : Type} (f : α → V) (xs : List α) (lo hi : Option Int) : cutV (xs.map f) lo hi = (cutG xs lo hi).map f := by
  unfold cutV cutG
  rw [List.length_map, List.map_take, List.map_drop]
theorem cutG_take {α : Type} (xs : List α) (k : Nat) : cutG xs none (some (k : Int)) = xs.take k := by
  unfold cutG
  rw [HT.sIx_none, HT.sIx_nat, List.drop_zero, Nat.sub_zero]
  by_cases h : k ≤ xs.length
  · rw [Nat.min_eq_left h]
  · rw [Nat.min_eq_right (by omega), List.take_length, List.take_of_length_le (by omega)]
theorem cutG_drop {α : Type} (xs : List α) (k : Nat) : cutG xs (some (k : Int)) none = xs.drop k := by
  unfold cutG
  rw [HT.sIx_none, HT.sIx_nat]
  by_cases h : k ≤ xs.length
  · rw [Nat.min_eq_left h, List.take_of_length_le (by rw [List.length_drop]; exact Nat.le_refl _)]
  · rw [Nat.min_eq_right (by omega), List.drop_length, List.drop_of_length_le (by omega), List.take_nil]
theorem cutG_len {α : Type} (xs : List α) (i j : Nat) : (cutG xs (some (i : Int)) (some (j : Int))).length ≤ j - i ∧ (xs.length ≤ i → (cutG xs (some (i : Int)) (some (j : Int))).length = 0) := by
  unfold cutG
  rw [HT.sIx_nat, HT.sIx_nat, List.length_take, List.length_drop]
  omega
theorem dpAll_get {K : PySem.W.Frag} {H : Hp} : ∀ {xs : List V} {ds : List PyData}, DpAll K H xs ds → xs.length = ds.length ∧ ∀ (i : Nat) (x : V), xs[i]? = some x → ∃ d, ds[i]? = some d ∧ Dp K H x d
  | _, _, .nil => ⟨rfl, fun i x h => by simp at h⟩
  | _, _, .cons h t => by
    obtain ⟨e, f⟩ := dpAll_get t
    refine ⟨by simp [e], fun i x hx => ?_⟩
    cases i with
    | zero => exact ⟨_, rfl, (Option.some.inj hx) ▸ h⟩
    | succ i => exact f i x hx
mutual
theorem Dp.ex {K : PySem.W.Frag} {H H' : Hp} (e : Evl.Ex H H') : ∀ (d : PyData) (v : V), Dp K H v d → Dp K H' v d
  | .none, _, h => by cases h; exact .non
  | .bool _, _, h => by cases h; exact .bl _
  | .int _, _, h => by cases h; exact .int _
  | .str _, _, h => by cases h; exact .str _
  | .list ds, _, h => by
    cases h with
    | lst h1 h2 => exact .lst (Evl.ex_l e h1) (DpAll.ex e ds _ h2)
  | .tuple ds, _, h => by
    cases h with
    | tup h1 h2 => exact .tup (Evl.ex_t e h1) (DpAll.ex e ds _ h2)
  | .dict _, _, h => by cases h
theorem DpAll.ex {K : PySem.W.Frag} {H H' : Hp} (e : Evl.Ex H H') : ∀ (ds : List PyData) (vs : List V), DpAll K H vs ds → DpAll K H' vs ds
  | [], _, h => by cases h; exact .nil
  | d :: ds, _, h => by
    cases h with
    | cons h1 h2 => exact .cons (Dp.ex e d _ h1) (DpAll.ex e ds _ h2)
end
theorem depthAll_mem : ∀ {ds : List PyData} {d : PyData}, d ∈ ds → d.depth ≤ PyData.depthAll ds
  | x :: r, d, h => by
    rw [PyData.depthAll]
    rcases List.mem_cons.mp h with rfl | h
    · omega
    · have := depthAll_mem h
      omega
theorem inV_rep (n : Nat) : inV (.bl false) (List.replicate n (V.bl true)) = false := by
  induction n with
  | zero => rfl
  | succ n ih => rw [List.replicate_succ]; simp [inV, eqV] at ih ⊢
theorem flat_rep (n : Nat) : (List.replicate n (V.bl true)).all flatV = true := by
  induction n with
  | zero => rfl
  | succ n ih => rw [List.replicate_succ, List.all_cons, ih]; rfl
mutual
def wd : PyData → Bool
  | .list ds => decide (ds.length ≤ 100000) && wdAll ds
  | .tuple ds => decide (ds.length ≤ 100000) && wdAll ds
  | .dict _ => false
  | _ => true
def wdAll : List PyData → Bool
  | [] => true
  | d :: r => wd d && wdAll r
end
theorem wdAll_mem : ∀ {ds : List PyData} {d : PyData}, wdAll ds = true → d ∈ ds → wd d = true
  | x :: r, d, h, hd => by
    rw [wdAll, Bool.and_eq_true] at h
    rcases List.mem_cons.mp hd with rfl | hd
    · exact h.1
    · exact wdAll_mem h.2 hd
/-! ### data -/
theorem shaped_ints (cs : List Int) : SeqAt.shaped (.list (cs.map PyData.int)) = true := by
  have h1 : PyData.canLayAll0 (cs.map PyData.int) = true := by
    induction cs with
    | nil => rfl
    | cons x r ih => simp [PyData.canLayAll0, PyData.canLay0, ih]
  have h2 : PyData.depthAll (cs.map PyData.int) ≤ 1 := by
    induction cs with
    | nil => simp [PyData.depthAll]
    | cons x r ih =>
      have := ih (by rw [List.map_cons, PyData.canLayAll0, Bool.and_eq_true] at h1; exact h1.2)
      simp [PyData.depthAll, PyData.depth]
      omega
  unfold SeqAt.shaped
  rw [Bool.and_eq_true]
  refine ⟨by rw [PyData.canLay0]; exact h1, decide_eq_true ?_⟩
  rw [PyData.depth]
  omega
theorem dpAll_ints {K : PySem.W.Frag} {H : Hp} : ∀ cs : List Int, DpAll K H (cs.map V.int) (cs.map PyData.int)
  | [] => .nil
  | x :: r => .cons (.int x) (dpAll_ints r)
theorem dp_ints {K : PySem.W.Frag} {H : Hp} {c : Addr} {cs : List Int} (h : SqL K H c (cs.map V.int)) : Dp K H (.ref c) (.list (cs.map PyData.int)) := .lst h (dpAll_ints cs)
/-! ### numbers from 0 on -/
def rgI (n : Int) : List Int := (List.range n.toNat).map fun i => ((i : Nat) : Int)
theorem rgI_len (n : Int) : (rgI n).length = n.toNat := by unfold rgI; rw [List.length_map, List.length_range]
theorem rgI_mem {n x : Int} : x ∈ rgI n ↔ 0 ≤ x ∧ x < n := by
  unfold rgI
  rw [List.mem_map]
  constructor
  · rintro ⟨i, hi, rfl⟩
    rw [List.mem_range] at hi
    omega
  · rintro ⟨h0, h1⟩
    exact ⟨x.toNat, List.mem_range.mpr (by omega), by omega⟩
theorem rgI_nd (n : Int) : (rgI n).Nodup := by
  unfold rgI
  refine List.Pairwise.map _ ?_ List.nodup_range
  intro a b h e
  exact h (by omega)
theorem rgV_eq (n : Int) : rgV 0 n = (rgI n).map V.int := by
  unfold rgV rgI
  rw [List.map_map, show n - 0 = n by omega]
  congr 1
  funext i
  show V.int (0 + (i : Nat)) = V.int ((i : Nat) : Int)
  rw [Int.zero_add]
/-! ### webs -/
def Lx (a b : Int × Int) : Prop := a.1 < b.1 ∨ (a.1 = b.1 ∧ a.2 < b.2)
structure WebOk (many : Int) (ties : List (Int × Int)) : Prop where
  lo : 1 ≤ many
  hi : many ≤ 60
  ok : ∀ t ∈ ties, 0 ≤ t.1 ∧ t.1 < t.2 ∧ t.2 < many
  up : ties.Pairwise Lx
def tieD (t : Int × Int) : PyData := .tuple [.int t.1, .int t.2]
def webD (many : Int) (ties : List (Int × Int)) : PyData := .tuple [.int many, .tuple (ties.map tieD)]
/-- the pair of two houses' places, the lesser ahead, as the law's min and max tell it -/
def fP (pl : List Int) (i j : Nat) : Int × Int :=
  (if pl.getD j 0 < pl.getD i 0 then pl.getD j 0 else pl.getD i 0, if pl.getD j 0 > pl.getD i 0 then pl.getD j 0 else pl.getD i 0)
theorem nd_ix {pl : List Int} (h : pl.Nodup) {i j : Nat} (hi : i < pl.length) (hj : j < pl.length) (e : pl.getD i 0 = pl.getD j 0) : i = j := by
  rw [List.getD_eq_getElem?_getD, List.getD_eq_getElem?_getD, List.getElem?_eq_getElem hi, List.getElem?_eq_getElem hj] at e
  have e : pl[i] = pl[j] := e
  have hp := List.pairwise_iff_getElem.mp h
  rcases Nat.lt_trichotomy i j with q | q | q
  · exact absurd e (hp i j hi hj q)
  · exact q
  · exact absurd e.symm (hp j i hj hi q)
theorem fP_inj {pl : List Int} (h : pl.Nodup) {i j i' j' : Nat} (h1 : i < j) (h2 : j < pl.length) (h3 : i' < j') (h4 : j' < pl.length) (e : fP pl i j = fP pl i' j') : i = i' ∧ j = j' := by
  have e1 := congrArg Prod.fst e
  have e2 := congrArg Prod.snd e
  unfold fP at e1 e2
  simp only at e1 e2
  have ne1 : pl.getD i 0 ≠ pl.getD j 0 := fun q => by have := nd_ix h (by omega) h2 q; omega
  have ne2 : pl.getD i' 0 ≠ pl.getD j' 0 := fun q => by have := nd_ix h (by omega) h4 q; omega
  have alt : (pl.getD i 0 = pl.getD i' 0 ∧ pl.getD j 0 = pl.getD j' 0) ∨ (pl.getD i 0 = pl.getD j' 0 ∧ pl.getD j 0 = pl.getD i' 0) := by
    generalize pl.getD i 0 = a at *
    generalize pl.getD j 0 = b at *
    generalize pl.getD i' 0 = c at *
    generalize pl.getD j' 0 = d at *
    split at e1 <;> split at e2 <;> split at e1 <;> split at e2 <;> omega
  rcases alt with ⟨q1, q2⟩ | ⟨q1, q2⟩
  · exact ⟨nd_ix h (by omega) (by omega) q1, nd_ix h (by omega) (by omega) q2⟩
  · have a := nd_ix h (by omega) (by omega) q1
    have b := nd_ix h (by omega) (by omega) q2
    omega
/-- the pairs so far: unlike, each of two indexes ahead of (one, other) -/
structure PsOk (pl : List Int) (ps : List (Int × Int)) (one other : Nat) : Prop where
  nd : ps.Nodup
  of : ∀ t ∈ ps, ∃ i j : Nat, i < j ∧ j < pl.length ∧ (i < one ∨ (i = one ∧ j < other)) ∧ t = fP pl i j
theorem PsOk.mono {pl : List Int} {ps : List (Int × Int)} {a b c d : Nat} (h : PsOk pl ps a b) (hle : ∀ i j : Nat, i < j → j < pl.length → (i < a ∨ (i = a ∧ j < b)) → (i < c ∨ (i = c ∧ j < d))) : PsOk pl ps c d :=
  ⟨h.nd, fun t ht => by
    obtain ⟨i, j, h1, h2, h3, h4⟩ := h.of t ht
    exact ⟨i, j, h1, h2, hle i j h1 h2 h3, h4⟩⟩
theorem PsOk.snoc {pl : List Int} {ps : List (Int × Int)} {a b : Nat} (hn : pl.Nodup) (h : PsOk pl ps a b) (hab : a < b) (hb : b < pl.length) : PsOk pl (ps ++ [fP pl a b]) a (b + 1) := by
  refine ⟨?_, fun t ht => ?_⟩
  · refine List.nodup_append.mpr ⟨h.nd, by simp, fun x hx y hy e => ?_⟩
    rw [List.mem_singleton] at hy
    subst hy
    obtain ⟨i, j, h1, h2, h3, h4⟩ := h.of x hx
    rw [e] at h4
    have := fP_inj hn hab hb h1 h2 h4
    omega
  · rcases List.mem_append.mp ht with ht | ht
    · obtain ⟨i, j, h1, h2, h3, h4⟩ := h.of t ht
      exact ⟨i, j, h1, h2, by omega, h4⟩
    · rw [List.mem_singleton] at ht
      exact ⟨a, b, hab, hb, by omega, ht⟩
theorem PsOk.valid {pl : List Int} {ps : List (Int × Int)} {a b : Nat} {many : Int} (hp : pl.Perm (rgI many)) (h : PsOk pl ps a b) : ∀ t ∈ ps, 0 ≤ t.1 ∧ t.1 < t.2 ∧ t.2 < many := fun t ht => by
  obtain ⟨i, j, h1, h2, h3, rfl⟩ := h.of t ht
  have hn : pl.Nodup := hp.nodup_iff.mpr (rgI_nd many)
  have mem : ∀ k, k < pl.length → 0 ≤ pl.getD k 0 ∧ pl.getD k 0 < many := fun k hk => by
    rw [List.getD_eq_getElem?_getD, List.getElem?_eq_getElem hk]
    exact rgI_mem.mp (hp.mem_iff.mp (List.getElem_mem hk))
  have m1 := mem i (by omega)
  have m2 := mem j h2
  have ne : pl.getD i 0 ≠ pl.getD j 0 := fun q => by have := nd_ix hn (by omega) h2 q; omega
  unfold fP
  simp only
  generalize pl.getD i 0 = x at *
  generalize pl.getD j 0 = y at *
  split <;> split <;> omega
theorem sorted_up {ps ps' : List (Int × Int)} (hn : ps.Nodup) (hp : ps'.Perm ps) (hs : ps'.Pairwise fun a b => SrtO.lexB b a = false) : ps'.Pairwise Lx := by
  have hn' : ps'.Nodup := hp.nodup_iff.mpr hn
  refine List.Pairwise.imp₂ ?_ hs hn'
  intro a b h ne
  have := SrtO.lexB_no.mp h
  obtain ⟨a1, a2⟩ := a
  obtain ⟨b1, b2⟩ := b
  have : ¬ (a1 = b1 ∧ a2 = b2) := fun q => ne (by rw [q.1, q.2])
  unfold Lx
  simp only at *
  omega
/-! ### tuples of two on the heap -/
def TupsAt (H : Hp) (rs : List V) (ps : List (Int × Int)) : Prop := Paired (fun r (p : Int × Int) => ∃ t, r = V.ref t ∧ H t = some (.tup [.int p.1, .int p.2])) rs ps
theorem TupsAt.mono {H H' : Hp} (e : ExT H H') : ∀ {rs : List V} {ps : List (Int × Int)}, TupsAt H rs ps → TupsAt H' rs ps
  | _, _, .nil => .nil
  | _, _, .cons ⟨t, h1, h2⟩ r => .cons ⟨t, h1, e t _ h2⟩ (TupsAt.mono e r)
theorem TupsAt.snoc {H : Hp} {t : Addr} {p : Int × Int} (ht : H t = some (.tup [.int p.1, .int p.2])) : ∀ {rs : List V} {ps : List (Int × Int)}, TupsAt H rs ps → TupsAt H (rs ++ [.ref t]) (ps ++ [p])
  | _, _, .nil => .cons ⟨t, rfl, ht⟩ .nil
  | _, _, .cons h r => .cons h (TupsAt.snoc ht r)
def pairOf (H : Hp) : V → Int × Int
  | .ref t => match H t with
    | some (.tup [.int a, .int b]) => (a, b)
    | _ => (0, 0)
  | _ => (0, 0)
theorem pairOf_at {H : Hp} {t : Addr} {p : Int × Int} (h : H t = some (.tup [.int p.1, .int p.2])) : pairOf H (.ref t) = p := by
  unfold pairOf
  simp only [h]
theorem TupsAt.map : ∀ {H : Hp} {rs : List V} {ps : List (Int × Int)}, TupsAt H rs ps → rs.map (pairOf H) = ps
  | _, _, _, .nil => rfl
  | H, _, _, .cons ⟨t, h1, h2⟩ r => by
    rw [List.map_cons, TupsAt.map r, h1, pairOf_at h2]
theorem TupsAt.all : ∀ {H : Hp} {rs : List V} {ps : List (Int × Int)}, TupsAt H rs ps → ∀ x ∈ rs, ∃ t, x = V.ref t ∧ H t = some (.tup [.int (pairOf H x).1, .int (pairOf H x).2])
  | _, _, _, .cons ⟨t, h1, h2⟩ r, x, hx => by
    rcases List.mem_cons.mp hx with e | hx
    · rw [e, h1]
      exact ⟨t, rfl, by rw [pairOf_at h2]; exact h2⟩
    · exact TupsAt.all r x hx
theorem tupsAt_of {H : Hp} : ∀ rs : List V, (∀ x ∈ rs, ∃ t, x = V.ref t ∧ H t = some (.tup [.int (pairOf H x).1, .int (pairOf H x).2])) → TupsAt H rs (rs.map (pairOf H))
  | [], _ => .nil
  | x :: r, h => .cons (h x List.mem_cons_self) (tupsAt_of r fun y hy => h y (List.mem_cons_of_mem _ hy))
theorem TupsAt.dp {K : PySem.W.Frag} {H : Hp} : ∀ {rs : List V} {ps : List (Int × Int)}, TupsAt H rs ps → DpAll K H rs (ps.map tieD)
  | _, _, .nil => .nil
  | _, _, .cons ⟨t, h1, h2⟩ r => by
    rw [h1]
    exact .cons (.tup (SqT.of h2) (.cons (.int _) (.cons (.int _) .nil))) (TupsAt.dp r)
/-- what is handed back: a web at a new tuple -/
theorem web_dp {K : PySem.W.Frag} {H : Hp} {q t : Addr} {many : Int} {rs : List V} {ps : List (Int × Int)} (h1 : SqT K H q [.int many, .ref t]) (h2 : SqT K H t rs) (h3 : DpAll K H rs (ps.map tieD)) : Dp K H (.ref q) (webD many ps) :=
  .tup h1 (.cons (.int _) (.cons (.tup h2 h3) .nil))
theorem eraseIdx_perm {α : Type} : ∀ (l : List α) (k : Nat) (y : α), l[k]? = some y → (y :: l.eraseIdx k).Perm l
  | [], _, _, h => by simp at h
  | x :: r, 0, y, h => by
    have e : x = y := Option.some.inj h
    rw [e]
    exact List.Perm.refl _
  | x :: r, k + 1, y, h => by
    have ih := eraseIdx_perm r k y (by simpa using h)
    rw [List.eraseIdx_cons_succ]
    exact (List.Perm.swap x y _).trans (ih.cons x)
theorem map_eraseIdx {α β : Type} (f : α → β) : ∀ (l : List α) (k : Nat), (l.map f).eraseIdx k = (l.eraseIdx k).map f
  | [], _ => rfl
  | _ :: _, 0 => rfl
  | x :: r, k + 1 => by rw [List.map_cons, List.eraseIdx_cons_succ, List.eraseIdx_cons_succ, List.map_cons, map_eraseIdx f r k]
theorem sort_same {a b : List Int} (hp : a.Perm b) (ha : a.Pairwise (· ≤ ·)) (hb : b.Pairwise (· ≤ ·)) : a = b :=
  hp.eq_of_pairwise (fun x y _ _ h1 h2 => Int.le_antisymm h1 h2) ha hb
theorem sort_of_lt {a : List Int} (h : a.Pairwise (· < ·)) : a.Pairwise (· ≤ ·) := h.imp fun q => Int.le_of_lt q
theorem len_le_of_sub {α : Type} [DecidableEq α] : ∀ {l m : List α}, l.Nodup → (∀ x ∈ l, x ∈ m) → l.length ≤ m.length
  | [], m, _, _ => Nat.zero_le _
  | x :: r, m, hn, hs => by
    have hx : x ∈ m := hs x List.mem_cons_self
    have h1 : r.length ≤ (m.erase x).length := len_le_of_sub (List.pairwise_cons.mp hn).2 fun y hy => (List.mem_erase_of_ne fun e => (List.pairwise_cons.mp hn).1 y hy e.symm).mpr (hs y (List.mem_cons_of_mem _ hy))
    rw [List.length_erase_of_mem hx] at h1
    have := List.length_pos_of_mem hx
    rw [List.length_cons]
    omega
/-- the other house of a tie that has h -/
def oth (h : Int) (t : Int × Int) : Option Int := if t.1 = h then some t.2 else if t.2 = h then some t.1 else none
/-- the houses that h is tied to -/
def nbr (ties : List (Int × Int)) (h : Int) : List Int := ties.filterMap (oth h)
theorem nbr_snoc (ties : List (Int × Int)) (t : Int × Int) (h : Int) : nbr (ties ++ [t]) h = nbr ties h ++ (oth h t).toList := by
  unfold nbr
  rw [List.filterMap_append]
  cases e : oth h t <;> simp [e]
theorem nbr_up {many : Int} {ties : List (Int × Int)} (W : WebOk many ties) (h : Int) : (nbr ties h).Pairwise (· < ·) := by
  unfold nbr
  rw [List.pairwise_filterMap]
  have hok := W.ok
  refine List.Pairwise.imp_of_mem ?_ W.up
  intro a b ma mb hab x hx y hy
  have ha := hok a ma
  have hb := hok b mb
  unfold oth at hx hy
  unfold Lx at hab
  split at hx <;> split at hy <;> (try split at hx) <;> (try split at hy) <;> simp at hx hy <;> omega
theorem nbr_mem {ties : List (Int × Int)} {h x : Int} : x ∈ nbr ties h ↔ ∃ t ∈ ties, oth h t = some x := by
  unfold nbr
  rw [List.mem_filterMap]
theorem nbr_iff {many : Int} {ties : List (Int × Int)} (W : WebOk many ties) {h x : Int} : x ∈ nbr ties h ↔ (h, x) ∈ ties ∨ (x, h) ∈ ties := by
  rw [nbr_mem]
  constructor
  · rintro ⟨⟨a, b⟩, ht, he⟩
    unfold oth at he
    simp only at he
    split at he
    · rename_i e
      cases he
      cases e
      exact .inl ht
    · split at he
      · rename_i e
        cases he
        cases e
        exact .inr ht
      · cases he
  · rintro (ht | ht)
    · exact ⟨_, ht, by unfold oth; rw [if_pos rfl]⟩
    · have := W.ok _ ht
      exact ⟨_, ht, by unfold oth; rw [if_neg (by simp only at this ⊢; omega), if_pos rfl]⟩
theorem nbr_range {many : Int} {ties : List (Int × Int)} (W : WebOk many ties) {h x : Int} (hx : x ∈ nbr ties h) : 0 ≤ x ∧ x < many := by
  rcases (nbr_iff W).mp hx with q | q
  · have := W.ok _ q; simp only at this; omega
  · have := W.ok _ q; simp only at this; omega
theorem nbr_len {many : Int} {ties : List (Int × Int)} (W : WebOk many ties) (h : Int) : (nbr ties h).length ≤ 60 := by
  have := len_le_of_sub (l := nbr ties h) (m := rgI many) ((nbr_up W h).imp fun q => Int.ne_of_lt q) fun x hx => rgI_mem.mpr (nbr_range W hx)
  rw [rgI_len] at this
  have := W.hi
  omega
theorem ties_len {many : Int} {ties : List (Int × Int)} (W : WebOk many ties) : ties.length ≤ 3600 := by
  have hn : ties.Nodup := W.up.imp fun {a b} h => by
    rintro rfl
    unfold Lx at h
    omega
  have s : ties.length ≤ ((List.range 60).flatMap fun i => (List.range 60).map fun j => (((i : Nat) : Int), ((j : Nat) : Int))).length := by
    refine len_le_of_sub hn fun t ht => ?_
    have := W.ok t ht
    have := W.hi
    rw [List.mem_flatMap]
    refine ⟨t.1.toNat, List.mem_range.mpr (by omega), List.mem_map.mpr ⟨t.2.toNat, List.mem_range.mpr (by omega), ?_⟩⟩
    obtain ⟨a, b⟩ := t
    simp only at *
    congr 1 <;> omega
  have e : ((List.range 60).flatMap fun i => (List.range 60).map fun j => (((i : Nat) : Int), ((j : Nat) : Int))).length = 3600 := by decide +kernel
  omega
def intsD (ns : List Int) : PyData := .list (ns.map PyData.int)
/-- for each house the houses that it is tied to -/
def besD (many : Int) (ties : List (Int × Int)) : PyData := .list ((rgI many).map fun h => intsD (nbr ties h))
theorem dp_intsD {K : PySem.W.Frag} {H : Hp} {a : Addr} {ns : List Int} (h : SqL K H a (ns.map V.int)) : Dp K H (.ref a) (intsD ns) := dp_ints h
/-- what stands behind a datum that is a list of ints -/
theorem intsD_at {K : PySem.W.Frag} {H : Hp} {v : V} {ns : List Int} (h : Dp K H v (intsD ns)) : ∃ a, v = .ref a ∧ SqL K H a (ns.map V.int) := by
  unfold intsD at h
  cases h with
  | lst hs ha =>
    rename_i a xs
    have e : xs = ns.map V.int := by
      clear hs
      induction ns generalizing xs with
      | nil => cases ha; rfl
      | cons n r ih =>
        cases ha with
        | cons h1 h2 =>
          cases h1
          rw [List.map_cons, ih h2]
    subst e
    exact ⟨a, rfl, hs⟩
theorem tieD_at {K : PySem.W.Frag} {H : Hp} {v : V} {t : Int × Int} (h : Dp K H v (tieD t)) : ∃ a, v = .ref a ∧ SqT K H a [.int t.1, .int t.2] := by
  unfold tieD at h
  cases h with
  | tup hs ha =>
    cases ha with
    | cons h1 h2 =>
      cases h1
      cases h2 with
      | cons h3 h4 =>
        cases h3
        cases h4
        exact ⟨_, rfl, hs⟩
theorem webD_at {K : PySem.W.Frag} {H : Hp} {v : V} {many : Int} {ties : List (Int × Int)} (h : Dp K H v (webD many ties)) : ∃ a b xs, v = .ref a ∧ SqT K H a [.int many, .ref b] ∧ SqT K H b xs ∧ DpAll K H xs (ties.map tieD) := by
  unfold webD at h
  cases h with
  | tup hs ha =>
    cases ha with
    | cons h1 h2 =>
      cases h1
      cases h2 with
      | cons h3 h4 =>
        cases h4
        cases h3 with
        | tup h5 h6 => exact ⟨_, _, _, rfl, hs, h5, h6⟩
theorem listD_at {K : PySem.W.Frag} {H : Hp} {v : V} {ds : List PyData} (h : Dp K H v (.list ds)) : ∃ a xs, v = .ref a ∧ SqL K H a xs ∧ DpAll K H xs ds := by
  cases h with
  | lst hs ha => exact ⟨_, _, rfl, hs, ha⟩
theorem besD_at {K : PySem.W.Frag} {H : Hp} {v : V} {many : Int} {ties : List (Int × Int)} (h : Dp K H v (besD many ties)) : ∃ a xs, v = .ref a ∧ SqL K H a xs ∧ xs.length = many.toNat ∧
    ∀ i : Int, 0 ≤ i → i < many → ∃ b, atI xs i = some (.ref b) ∧ SqL K H b ((nbr ties i).map V.int) := by
  obtain ⟨a, xs, rfl, hs, ha⟩ := listD_at h
  obtain ⟨hl, hg⟩ := dpAll_get ha
  rw [List.length_map, rgI_len] at hl
  refine ⟨a, xs, rfl, hs, hl, fun i h0 h1 => ?_⟩
  have hi : i.toNat < xs.length := by omega
  obtain ⟨d, e1, e2⟩ := hg i.toNat xs[i.toNat] (List.getElem?_eq_getElem hi)
  have e3 : d = intsD (nbr ties i) := by
    rw [List.getElem?_map] at e1
    unfold rgI at e1
    rw [List.getElem?_map, List.getElem?_range (by omega)] at e1
    have := Option.some.inj e1
    rw [← this]
    simp only
    rw [show ((i.toNat : Nat) : Int) = i by omega]
  subst e3
  obtain ⟨b, e4, e5⟩ := intsD_at e2
  exact ⟨b, atI_of h0 (by rw [List.getElem?_eq_getElem hi, e4]), e5⟩
theorem dpAll_ix {K : PySem.W.Frag} {H : Hp} : ∀ {xs : List V} {ds : List PyData}, xs.length = ds.length → (∀ (i : Nat) (x : V) (d : PyData), xs[i]? = some x → ds[i]? = some d → Dp K H x d) → DpAll K H xs ds
  | [], [], _, _ => .nil
  | [], _ :: _, h, _ => by simp at h
  | _ :: _, [], h, _ => by simp at h
  | x :: xs, d :: ds, h, f => .cons (f 0 x d rfl rfl) (dpAll_ix (by simpa using h) fun i y e h1 h2 => f (i + 1) y e (by simpa using h1) (by simpa using h2))
theorem rgI_get {n : Int} {i : Nat} (h : (i : Int) < n) : (rgI n)[i]? = some (i : Int) := by
  unfold rgI
  rw [List.getElem?_map, List.getElem?_range (by omega)]
  rfl
theorem bes_dp {K : PySem.W.Frag} {H : Hp} {q : Addr} {bs : List Addr} {many : Int} {ties : List (Int × Int)} (h : SqL K H q (bs.map V.ref)) (hl : bs.length = many.toNat)
    (hb : ∀ (k : Nat) (b : Addr), bs[k]? = some b → SqL K H b ((nbr ties (k : Int)).map V.int)) : Dp K H (.ref q) (besD many ties) := by
  refine .lst h (dpAll_ix (by rw [List.length_map, List.length_map, rgI_len, hl]) fun i x d h1 h2 => ?_)
  rw [List.getElem?_map] at h1 h2
  cases e : bs[i]? with
  | none => rw [e] at h1; cases h1
  | some b =>
    rw [e] at h1
    cases h1
    have hi : i < bs.length := (List.getElem?_eq_some_iff.mp e).1
    rw [rgI_get (by omega)] at h2
    cases h2
    exact dp_intsD (hb i b e)
theorem nd_ix' {α : Type} {l : List α} (h : l.Nodup) {i j : Nat} {a : α} (hi : l[i]? = some a) (hj : l[j]? = some a) : i = j := by
  have hp := List.pairwise_iff_getElem.mp h
  obtain ⟨h1, e1⟩ := List.getElem?_eq_some_iff.mp hi
  obtain ⟨h2, e2⟩ := List.getElem?_eq_some_iff.mp hj
  rcases Nat.lt_trichotomy i j with q | q | q
  · exact absurd (e1.trans e2.symm) (hp i j h1 h2 q)
  · exact q
  · exact absurd (e2.trans e1.symm) (hp j i h2 h1 q)
/-- a list of lists: for each house the houses that it is tied to -/
def BesAt (H : Hp) (v : V) (many : Int) (ties : List (Int × Int)) : Prop := ∃ (q : Addr) (bs : List Addr), v = .ref q ∧ H q = some (.lst (bs.map V.ref)) ∧ bs.length = many.toNat ∧ ∀ (k : Nat) (b : Addr), bs[k]? = some b → H b = some (.lst ((nbr ties (k : Int)).map V.int))
theorem BesAt.dp {K : PySem.W.Frag} {H : Hp} {v : V} {many : Int} {ties : List (Int × Int)} (h : BesAt H v many ties) : Dp K H v (besD many ties) := by
  obtain ⟨q, bs, rfl, h1, h2, h3⟩ := h
  exact bes_dp (SqL.of h1) h2 fun k b hb => SqL.of (h3 k b hb)
theorem BesAt.ex {H H' : Hp} {v : V} {many : Int} {ties : List (Int × Int)} (h : BesAt H v many ties) (e : Evl.Ex H H') : BesAt H' v many ties := by
  obtain ⟨q, bs, rfl, h1, h2, h3⟩ := h
  exact ⟨q, bs, rfl, e _ _ h1, h2, fun k b hb => e _ _ (h3 k b hb)⟩
theorem BesAt.at {H : Hp} {v : V} {many : Int} {ties : List (Int × Int)} (h : BesAt H v many ties) : ∃ (q : Addr) (xs : List V), v = .ref q ∧ H q = some (.lst xs) ∧ ∀ i : Int, 0 ≤ i → i < many → ∃ b, atI xs i = some (.ref b) ∧ H b = some (.lst ((nbr ties i).map V.int)) := by
  obtain ⟨q, bs, rfl, h1, h2, h3⟩ := h
  refine ⟨q, _, rfl, h1, fun i h0 hi => ?_⟩
  have lt : i.toNat < bs.length := by omega
  refine ⟨bs[i.toNat], atI_of h0 (by rw [List.getElem?_map, List.getElem?_eq_getElem lt]; rfl), ?_⟩
  have := h3 i.toNat _ (List.getElem?_eq_getElem lt)
  rw [show ((i.toNat : Nat) : Int) = i by omega] at this
  exact this
/-! ### set(xs) of a list of ints: a set, told as the layer tells those of its own -/
abbrev emptyS (w : World) : Obj := { cls := .type "set", dict := none, data := .set #[] 0 (.fresh 0 0 (!w.params.followText "set-order")) }
section
variable {P : Program} {w : World} {A : Around} {E : Value → Shared → Prop} {s : Shared}
set_option maxHeartbeats 9000000 in
theorem call_set_ofList {a : Addr} {its : Array Value} (ks : List Int) {Q : Value → Shared → Prop} (calm : A.handled = none) (isl : s.heap.IsList a its) (are : IntsAre its.toList ks) (few : ks.length + 1 < scanBound)
    (out : ∀ (g : Heap) (tk n : Nat), SetR w g s.heap.objs.size (fun j => decide (j ∈ ks)) n → n ≤ ks.length → (∀ b o, s.heap.get? b = some o → g.get? b = some o) → Q (.ref s.heap.objs.size) { s with heap := g, toks := tk }) :
    wpAny (model P w) A (call (.type "set") [.ref a]) Q E s := by
  have size_is : its.size = ks.length := by
    have z := IntsAre.length are
    rwa [Array.length_toList] at z
  have cs := F.called_set
  obtain ⟨m1, m2, m3⟩ := cs.mro
  have made := cs.made
  have subs := cs.sub
  have nty := cs.notType
  have can := cs.canCreate
  have tcall := F.typeCall_set_1 (.ref a)
  refine wpAny_call (codeAny_of_tree ?_)
  show wpAny _ _ (callAny (Value.type "set") _) _ _ _
  refine wpAny_pure ⟨Code.quiet_builtin _ (by decide +kernel), codeAny_builtin F.entry_type_call ?_⟩
  rw [Around.under_plain (weight_type_call_type "set" [.ref a] []) rfl]
  repeat (any_goals (first | wp_step | assumption))
  refine codeAny_mono (code_set_led1 (.ref a) (E := E) (Q₁ := fun v s1 => v = .ref s.heap.objs.size ∧ s1 = { s with heap := s.heap.push (emptyS w) }) ⟨rfl, rfl⟩) fun res s1 got => ?_
  cases res with
  | error _ => exact got
  | ok flow =>
    cases flow with
    | ret v =>
      obtain ⟨rfl, rfl⟩ := got
      have at0 : (s.heap.push (emptyS w)).get? s.heap.objs.size = some (emptyS w) := Heap.get?_push_size _ rfl
      have ty0 : Shared.TypeIs { s with heap := s.heap.push (emptyS w) } (.ref s.heap.objs.size) "set" := ⟨_, at0, rfl⟩
      have ini1 := cs.init.lookup
      have ini2 := cs.init.bind (.ref s.heap.objs.size)
      repeat (any_goals (first | wp_step | assumption))
      refine codeAny_mono (codeAny_call_builtin (R := wants (fun r s2 => r = .none ∧ ∃ g tk n, s2 = { s with heap := g, toks := tk } ∧ SetR w g s.heap.objs.size (fun j => decide (j ∈ ks)) n ∧ n ≤ ks.length ∧ (∀ b o, s.heap.get? b = some o → g.get? b = some o)) E) cs.init.plain F.entry_set_init (check_set_init_1 ty0 ?_)) fun res2 s2 got2 => ?_
      · obtain ⟨ob, hob, hcl, n0, hdt⟩ := isl
        obtain ⟨k1, k2, k3, k4⟩ := ob
        simp only at hcl hdt
        subst hcl hdt
        have under : a < s.heap.objs.size := Heap.lt_size hob
        have hob2 : (s.heap.push (emptyS w)).get? a = some { cls := .type "list", dict := k2, data := .seq its n0, slots := k4 } := Heap.get?_push_of_some _ hob
        have t1 := F.sub_list_set
        have t2 := F.sub_list_frozenset
        have t3 : (Value.type "list" == Value.type "dict") = false := by decide
        have isl2 : (s.heap.push (emptyS w)).IsList a its := ⟨_, hob2, rfl, n0, rfl⟩
        unfold Builtin.«set.__init__» noKeywords Builtin.Frozenset.updateFrom
        generalize hit : pyIter = iter
        wp_walk
        subst hit
        refine wpAny_pyIter_list isl2 (wpAny_bind (wpAny_runValue ?_))
        have calm3 : A.in1.in1.in1.handled = none := by simp [calm]
        have apart : a ≠ (s.heap.push (emptyS w)).objs.size := by
          rw [Heap.size_push]
          exact Nat.ne_of_lt (Nat.lt_succ_of_lt under)
        have notin : s.heap.objs.size ∉ [(s.heap.push (emptyS w)).objs.size, a] := by
          intro m
          rw [Heap.size_push] at m
          rcases List.mem_cons.mp m with m | m
          · exact absurd m (Nat.ne_of_lt (Nat.lt_succ_self _))
          · exact absurd (List.mem_singleton.mp m) (Nat.ne_of_gt under)
        have vals : ∀ (i : Nat) (v : Value), its[i]? = some v → ∃ k t, ks[i]? = some k ∧ v = .int k t := fun i v hv => by
          have lt : i < ks.length := size_is ▸ (Array.getElem?_eq_some_iff.mp hv).1
          obtain ⟨t, e⟩ := IntsAre.int_at are i v (by rw [Array.getElem?_toList]; exact hv)
          rw [List.getD_eq_getElem?_getD, List.getElem?_eq_getElem lt] at e
          exact ⟨ks[i], t, List.getElem?_eq_getElem lt, e⟩
        refine set_update_ints (Walks.list calm3 _ a apart its).toS s.heap.objs.size notin ks size_is few vals (its.size - 0) 0 _ (by omega) (Nat.zero_le _) ⟨⟨_, Heap.get?_push_size _ rfl, rfl, rfl⟩, isl2.push _⟩ ?first ?last
        case first => exact ⟨0, Nat.le_refl 0, setR_new_at (Heap.get?_push_of_some _ at0)⟩
        case last =>
          intro s3 n3 moved le3 set3
          obtain ⟨g3, e1, e2, tk3, e3⟩ := s3
          have q1 : e1 = s.gens := moved.gens
          have q2 : e2 = s.drawn := moved.drawn
          have q3 : e3 = s.os := moved.os
          subst q1 q2 q3
          rw [size_is] at le3
          refine wpAny_pure (wpAny_pure ⟨rfl, g3, tk3, n3, rfl, set3, le3, fun b o e => ?_⟩)
          have under2 : b < s.heap.objs.size := Heap.lt_size e
          refine moved.heap b o (fun m => ?_) (Heap.get?_push_of_some _ (Heap.get?_push_of_some _ e))
          rcases List.mem_cons.mp m with m | m
          · exact absurd m (Nat.ne_of_lt under2)
          · have m := List.mem_singleton.mp m
            rw [Heap.size_push] at m
            exact absurd m (Nat.ne_of_lt (Nat.lt_succ_of_lt under2))
      · cases res2 with
        | error _ => exact got2
        | ok flow2 =>
          cases flow2 with
          | ret _ =>
            obtain ⟨rfl, g, tk, n, rfl, y1, y2, y3⟩ := got2
            repeat (any_goals (first | wp_step | assumption))
            exact out _ _ _ y1 y2 y3
          | _ => exact got2.elim
    | _ => exact got.elim
end
section
variable {X : Cx}
/-- set(xs), xs a list of ints -/
def rSetOfL (K : PySem.W.Frag) (w : World) : List V → Hp → VK → Prop := fun vs H Q => ∃ (a : Addr) (ns : List Int), vs = [.ref a] ∧ SqL K H a (ns.map V.int) ∧ ns.length ≤ 1000 ∧
  ∀ (q : Addr) (n : Nat), H q = none → n ≤ ns.length → Q (.ref q) (upd H q (SetO w q (fun j => decide (j ∈ ns)) n))
theorem cr_setL (hc : X.calm = true) : CallR X (.type "set") (rSetOfL X.K X.w) := by
  intro pins s σ H vs us Q I r h
  obtain ⟨a, ns, rfl, hs, hl, q⟩ := h
  obtain ⟨its, rv, pl, hz⟩ := I.list hs
  rw [Vals.ref1 r]
  refine call_set_ofList ns (I.ok.hd hc) pl.isList (by simpa using rv.ints) (Nat.lt_of_le_of_lt (Nat.add_le_add_right hl 1) (by decide)) fun g tk n S hn kp => ?_
  exact ⟨.ref _, _, I.laid (t' := tk) kp (Nat.le_refl _) (setO_new S), rfl, q _ n I.fresh hn⟩
end
/-! ### what a set lacks -/
def tieIn (some' : List Int) (t : Int × Int) : Bool := decide (t.1 ∈ some') && decide (t.2 ∈ some')
def firstTie (ties : List (Int × Int)) (some' : List Int) : Option (Int × Int) := ties.find? (tieIn some')
/-- a house in the set, or tied to one in it -/
def cov (ties : List (Int × Int)) (some' : List Int) (h : Int) : Bool := decide (h ∈ some') || (nbr ties h).any fun x => decide (x ∈ some')
def firstBare (many : Int) (ties : List (Int × Int)) (some' : List Int) : Option Int := (rgI many).find? fun h => !cov ties some' h
def tieO : Option (Int × Int) → PyData
  | none => .none
  | some t => tieD t
def intO : Option Int → PyData
  | none => .none
  | some i => .int i
def lacksD (many : Int) (ties : List (Int × Int)) (some' : List Int) : PyData :=
  match firstTie ties some' with
  | some t => .tuple [.str "tied", .int t.1, .int t.2]
  | none => match firstBare many ties some' with
    | some h => .tuple [.str "bare", .int h]
    | none => .none
/-- a set of houses: rising -/
structure SetOk (many : Int) (some' : List Int) : Prop where
  up : some'.Pairwise (· < ·)
  ok : ∀ h ∈ some', 0 ≤ h ∧ h < many
theorem SetOk.len {many : Int} {some' : List Int} (h : SetOk many some') (h60 : many ≤ 60) : some'.length ≤ 60 := by
  have := len_le_of_sub (l := some') (m := rgI many) (h.up.imp fun q => Int.ne_of_lt q) fun x hx => rgI_mem.mpr (h.ok x hx)
  rw [rgI_len] at this
  omega
theorem SetOk.nd {many : Int} {some' : List Int} (h : SetOk many some') : some'.Nodup := h.up.imp fun q => Int.ne_of_lt q
/-- find?, turn by turn -/
theorem find_take {α : Type} (f : α → Bool) : ∀ (l : List α) (i : Nat), (∀ x ∈ l.take i, f x = false) → ∀ x, l[i]? = some x → f x = true → l.find? f = some x
  | [], _, _, _, h, _ => by simp at h
  | y :: r, 0, _, x, h, hf => by
    have e : y = x := Option.some.inj h
    subst e
    rw [List.find?_cons, hf]
  | y :: r, i + 1, ha, x, h, hf => by
    have hy : f y = false := ha y (by simp)
    rw [List.find?_cons, hy]
    exact find_take f r i (fun z hz => ha z (by simp [hz])) x (by simpa using h) hf
theorem find_none {α : Type} (f : α → Bool) (l : List α) (h : ∀ x ∈ l, f x = false) : l.find? f = none := by
  rw [List.find?_eq_none]
  intro x hx
  rw [h x hx]
  decide
theorem take_snoc {α : Type} {l : List α} {i : Nat} {x : α} (h : l[i]? = some x) : l.take (i + 1) = l.take i ++ [x] := by rw [List.take_add_one, h]; rfl
theorem cov_iff {many : Int} {ties : List (Int × Int)} (W : WebOk many ties) {s : List Int} {h : Int} : cov ties s h = true ↔ h ∈ s ∨ ∃ t ∈ ties, (t.1 ∈ s ∧ h = t.2) ∨ (t.2 ∈ s ∧ h = t.1) := by
  unfold cov
  rw [Bool.or_eq_true, decide_eq_true_eq, List.any_eq_true]
  constructor
  · rintro (q | ⟨x, hx, q⟩)
    · exact .inl q
    · have q := of_decide_eq_true q
      rcases (nbr_iff W).mp hx with z | z
      · exact .inr ⟨_, z, .inr ⟨q, rfl⟩⟩
      · exact .inr ⟨_, z, .inl ⟨q, rfl⟩⟩
  · rintro (q | ⟨⟨a, b⟩, ht, q⟩)
    · exact .inl q
    · rcases q with ⟨q1, q2⟩ | ⟨q1, q2⟩
      · simp only at q1 q2
        subst q2
        exact .inr ⟨a, (nbr_iff W).mpr (.inr ht), decide_eq_true q1⟩
      · simp only at q1 q2
        subst q2
        exact .inr ⟨b, (nbr_iff W).mpr (.inl ht), decide_eq_true q1⟩
section
variable {K : PySem.W.Frag} {w : World} {H : Hp} {Q : VK}
theorem r_sIn {k : Int} {a : Addr} {S : Int → Bool} {n : Nat} (h : H a = some (SetO w a S n)) (q : Q (.bl (S k)) H) : rSIn w (.int k) (.ref a) H Q := ⟨k, a, S, n, rfl, rfl, h, q⟩
theorem r_sNotIn {k : Int} {a : Addr} {S : Int → Bool} {n : Nat} (h : H a = some (SetO w a S n)) (q : Q (.bl (!S k)) H) : rSNotIn w (.int k) (.ref a) H Q := ⟨k, a, S, n, rfl, rfl, h, q⟩
theorem r_sadd {σ : L2.St} {to : TE} {t : TA} (h : to σ H fun x H1 => (∃ a S n, x = V.ref a ∧ H1 a = some (SetO w a S n)) ∧ t σ H1 fun xs H2 => rSAdd w x xs H2 Q) : tSAdd w to t σ H Q := h
theorem r_setLst {a : Addr} {ns : List Int} (h : SqL K H a (ns.map V.int)) (hl : ns.length ≤ 1000) (k : ∀ (q : Addr) (n : Nat), H q = none → n ≤ ns.length → Q (.ref q) (upd H q (SetO w q (fun j => decide (j ∈ ns)) n))) : rSetOfL K w [.ref a] H Q := ⟨a, ns, rfl, h, hl, k⟩
end
theorem inV_int (a : Int) (ns : List Int) : inV (.int a) (ns.map V.int) = decide (a ∈ ns) := by
  unfold inV
  rw [List.any_map]
  induction ns with
  | nil => simp
  | cons x r ih =>
    rw [List.any_cons, ih]
    simp only [Function.comp, eqV]
    by_cases h : x = a
    · subst h; simp
    · have h' : ¬ a = x := fun e => h e.symm
      simp [h, h']
theorem flat_int (ns : List Int) : (ns.map V.int).all flatV = true := by
  rw [List.all_map]
  induction ns with
  | nil => rfl
  | cons x r ih => rw [List.all_cons, ih]; rfl
theorem eqv_nil (ns : List Int) : PyData.eqv (.list (ns.map PyData.int)) (.list []) = ns.isEmpty := by
  cases ns with
  | nil => rfl
  | cons x r => simp [PyData.eqv, PyData.eqvAll]
mutual
theorem eqv_of_eq : ∀ d : PyData, d.canLay0 = true → PyData.eqv d d = true
  | d, h => SeqAt.eqv_refl d h
end
section
variable {K : PySem.W.Frag} {H : Hp} {Q : VK}
theorem r_inI {p : Addr} {ns : List Int} {a : Int} (h : SqL K H p (ns.map V.int)) (q : Q (.bl (decide (a ∈ ns))) H) : rIn K false (.int a) (.ref p) H Q :=
  ⟨p, _, rfl, .inl h, rfl, flat_int ns, by rw [if_neg (by decide), inV_int]; exact q⟩
theorem r_notInI {p : Addr} {ns : List Int} {a : Int} (h : SqL K H p (ns.map V.int)) (q : Q (.bl (!decide (a ∈ ns))) H) : rIn K true (.int a) (.ref p) H Q :=
  ⟨p, _, rfl, .inl h, rfl, flat_int ns, by rw [if_pos rfl, inV_int]; exact q⟩
theorem r_eqNil {p q : Addr} {ns : List Int} (h : SqL K H p (ns.map V.int)) (g : SqL K H q []) (z : Q (.bl ns.isEmpty) H) : rEqD K (.ref p) (.ref q) H Q :=
  ⟨_, _, dp_ints h, dp_ints (cs := []) g, shaped_ints ns, shaped_ints [], by rw [show ([] : List Int).map PyData.int = [] from rfl, eqv_nil]; exact z⟩
theorem r_neNil {p q : Addr} {ns : List Int} (h : SqL K H p (ns.map V.int)) (g : SqL K H q []) (z : Q (.bl (!ns.isEmpty)) H) : rNeD K (.ref p) (.ref q) H Q :=
  ⟨_, _, dp_ints h, dp_ints (cs := []) g, shaped_ints ns, shaped_ints [], by rw [show ([] : List Int).map PyData.int = [] from rfl, eqv_nil]; exact z⟩
/-- [g x for x in ns if f x], ns ints, f and g changing nothing -/
theorem lc_pure {a D : Addr} {ns : List Int} {f : Int → Bool} {g : Int → V} {tt : TT} {te : TE} {vs : List Nat} {σ : L2.St} {j : Nat} {Qd : Hp → Prop} (hs : SqL K H a (ns.map V.int)) (hl : ns.length ≤ 10000) (hD : H D = none)
    (hw : ∀ x, wipe ((wipe σ vs).set j (some x)) vs = wipe σ vs) (ht : ∀ x ∈ ns, ∀ H1, Evl.Ex H H1 → ∀ QB : Bool → Hp → Prop, QB (f x) H1 → tt ((wipe σ vs).set j (some (.int x))) H1 QB)
    (he : ∀ x ∈ ns, f x = true → ∀ H1, Evl.Ex H H1 → ∀ Q : VK, Q (g x) H1 → te ((wipe σ vs).set j (some (.int x))) H1 Q) (k : ∀ H', Evl.Ex H H' → H' D = some (.lst ((ns.filter f).map g)) → Qd H') :
    ∃ W : Nat → Nat → Hp → Prop, (∃ m, W 0 m (upd H D (.lst []))) ∧ ∀ i m H, W i m H →
      ((Itl K a).stop i H ∧ Qd H) ∨ ((Itl K a).go i H ∧ ∃ Nx : Hp → Prop, (∀ H', Nx H' → ∃ m', m' < m ∧ W (i + 1) m' H') ∧ ∀ x H', (Itl K a).yld i H x H' → gName j x (wipe σ vs) H' fun σ2 H2 => wipe σ2 vs = wipe σ vs ∧ tt σ2 H2 fun b H3 =>
        if b = true then te σ2 H3 fun y H4 => ∃ acc, H4 D = some (.lst acc) ∧ acc.length < sizeLine ∧ Nx (upd H4 D (.lst (acc ++ [y]))) else Nx H3) := by
  refine lc_it (walk_list (xs := ns.map V.int)) (fun i H' => H' D = some (.lst (((ns.take i).filter f).map g)) ∧ Evl.Ex H H') ⟨upd_same, Evl.Ex.new hD⟩ (fun i H' _ h => Evl.ex_l h.2 hs) ?_ ?_
  · rintro i v H1 H2 hi ⟨h1, e1⟩ ⟨rfl, ey⟩
    rw [List.getElem?_map] at ey
    cases et : ns[i]? with
    | none => rw [et] at ey; cases ey
    | some x =>
      rw [et] at ey
      cases ey
      have hx := List.mem_of_getElem? et
      refine ⟨hw _, ht x hx H2 e1 _ ?_⟩
      have tk : ns.take (i + 1) = ns.take i ++ [x] := take_snoc et
      cases hf : f x with
      | true =>
        refine iteT (he x hx hf H2 e1 _ ⟨_, h1, Evl.sz_lt ?_, ?_, e1.mut hD⟩)
        · rw [List.length_map]
          have := List.length_filter_le f (ns.take i)
          rw [List.length_take] at this
          omega
        · rw [upd_same, tk, List.filter_append, List.filter_cons, if_pos hf, List.map_append]
          rfl
      | false =>
        refine iteF ⟨?_, e1⟩
        rw [tk, List.filter_append, List.filter_cons, if_neg (by rw [hf]; decide), List.filter_nil, List.append_nil]
        exact h1
  · rintro H' ⟨h1, e1⟩
    rw [List.length_map, List.take_length] at h1
    exact k H' e1 h1
end
theorem cov_not (ties : List (Int × Int)) (s : List Int) (h : Int) : (!cov ties s h) = ((!decide (h ∈ s)) && ((nbr ties h).filter fun x => decide (x ∈ s)).isEmpty) := by
  unfold cov
  rw [Bool.not_or]
  congr 1
  induction nbr ties h with
  | nil => rfl
  | cons x r ih =>
    rw [List.any_cons, List.filter_cons]
    by_cases q : x ∈ s
    · simp [q]
    · simp only [q, decide_false, Bool.false_or, Bool.false_eq_true, if_false]
      exact ih
/-! ### what a draw leaves as it was -/
theorem SqT.exB {K : PySem.W.Frag} {H H' : Hp} {p c a : Addr} {xs : List V} (hP : PotC H p c) (e : ExB p H H') (h : SqT K H a xs) : SqT K H' a xs := by
  obtain ⟨cs, at', r, h1, _⟩ := hP
  rcases h with (h | ⟨o, h⟩) | h
  · exact .inl (.inl (e a _ (ne_of h h1 (by intro z; cases z)) h))
  · exact .inl (.inr ⟨o, e a _ (ne_of h h1 (by intro z; cases z)) h⟩)
  · exact .inr h
theorem SqL.exB {K : PySem.W.Frag} {H H' : Hp} {p c a : Addr} {xs : List V} (hP : PotC H p c) (e : ExB p H H') (hx : ∀ q i j, xs ≠ [.ref q, .int i, .int j]) (h : SqL K H a xs) : SqL K H' a xs := by
  obtain ⟨cs, at', r, h1, _⟩ := hP
  rcases h with (h | ⟨o, h⟩) | h
  · exact .inl (.inl (e a _ (ne_of h h1 (fun z => hx _ _ _ (HO.lst.inj z))) h))
  · exact .inl (.inr ⟨o, e a _ (ne_of h h1 (by intro z; cases z)) h⟩)
  · exact .inr h
theorem ints_np {ns : List Int} : ∀ q i j, ns.map V.int ≠ [.ref q, .int i, .int j] := fun q i j h => by
  cases ns with
  | nil => cases h
  | cons x r => cases h
def potLike : List PyData → Bool
  | [.list _, .int _, .int _] => true
  | [.tuple _, .int _, .int _] => true
  | _ => false
mutual
/-- no list in it that could be the pot -/
def npD : PyData → Bool
  | .list ds => !potLike ds && npAll ds
  | .tuple ds => npAll ds
  | .dict _ => false
  | _ => true
def npAll : List PyData → Bool
  | [] => true
  | d :: r => npD d && npAll r
end
mutual
theorem Dp.exB {K : PySem.W.Frag} {H H' : Hp} {p c : Addr} (hP : PotC H p c) (e : ExB p H H') : ∀ (d : PyData) (v : V), npD d = true → Dp K H v d → Dp K H' v d
  | .none, _, _, h => by cases h; exact .non
  | .bool _, _, _, h => by cases h; exact .bl _
  | .int _, _, _, h => by cases h; exact .int _
  | .str _, _, _, h => by cases h; exact .str _
  | .list ds, _, hn, h => by
    rw [npD, Bool.and_eq_true] at hn
    cases h with
    | lst h1 h2 =>
      refine .lst (SqL.exB hP e (fun q i j z => ?_) h1) (DpAll.exB hP e ds _ hn.2 h2)
      subst z
      cases h2 with
      | cons g1 g2 =>
        cases g2 with
        | cons g3 g4 =>
          cases g4 with
          | cons g5 g6 =>
            cases g6
            cases g3
            cases g5
            cases g1 <;> exact absurd hn.1 (by simp [potLike])
  | .tuple ds, _, hn, h => by
    rw [npD] at hn
    cases h with
    | tup h1 h2 => exact .tup (SqT.exB hP e h1) (DpAll.exB hP e ds _ hn h2)
  | .dict _, _, _, h => by cases h
theorem DpAll.exB {K : PySem.W.Frag} {H H' : Hp} {p c : Addr} (hP : PotC H p c) (e : ExB p H H') : ∀ (ds : List PyData) (vs : List V), npAll ds = true → DpAll K H vs ds → DpAll K H' vs ds
  | [], _, _, h => by cases h; exact .nil
  | d :: ds, _, hn, h => by
    rw [npAll, Bool.and_eq_true] at hn
    cases h with
    | cons h1 h2 => exact .cons (Dp.exB hP e d _ hn.1 h1) (DpAll.exB hP e ds _ hn.2 h2)
end
theorem npAll_of : ∀ {ds : List PyData}, (∀ d ∈ ds, npD d = true) → npAll ds = true
  | [], _ => rfl
  | d :: r, h => by rw [npAll, h d List.mem_cons_self, npAll_of fun x hx => h x (List.mem_cons_of_mem _ hx)]; rfl
theorem np_ints (ns : List Int) : npD (intsD ns) = true := by
  unfold intsD
  rw [npD, Bool.and_eq_true]
  refine ⟨?_, npAll_of fun d hd => ?_⟩
  · cases ns with
    | nil => rfl
    | cons x r => rfl
  · obtain ⟨x, _, rfl⟩ := List.mem_map.mp hd
    rfl
theorem np_web (many : Int) (ties : List (Int × Int)) : npD (webD many ties) = true := by
  unfold webD
  simp only [npD, npAll, Bool.true_and, Bool.and_true]
  refine npAll_of fun d hd => ?_
  obtain ⟨x, _, rfl⟩ := List.mem_map.mp hd
  rfl
theorem np_bes (many : Int) (ties : List (Int × Int)) : npD (besD many ties) = true := by
  unfold besD
  rw [npD, Bool.and_eq_true]
  refine ⟨?_, npAll_of fun d hd => ?_⟩
  · cases rgI many with
    | nil => rfl
    | cons x r =>
      cases r with
      | nil => rfl
      | cons y r => rfl
  · obtain ⟨x, _, rfl⟩ := List.mem_map.mp hd
    exact np_ints _
theorem BesAt.exB {H H' : Hp} {p c : Addr} {v : V} {many : Int} {ties : List (Int × Int)} (h : BesAt H v many ties) (hP : PotC H p c) (e : ExB p H H') : BesAt H' v many ties := by
  obtain ⟨q, bs, rfl, h1, h2, h3⟩ := h
  obtain ⟨cs, a, r, g1, _⟩ := hP
  refine ⟨q, bs, rfl, e _ _ (ne_of h1 g1 fun w => ?_) h1, h2, fun k b hb => e _ _ (ne_of (h3 k b hb) g1 fun w => ints_np _ _ _ (HO.lst.inj w)) (h3 k b hb)⟩
  have w := HO.lst.inj w
  match bs, w with
  | x :: y :: r, w => injection w with _ w; injection w with w _; cases w
theorem fresh_B {H H' : Hp} {p c q : Addr} (e : ExB p H H') (hP : PotC H' p c) (h : H' q = none) : H q = none := by
  cases z : H q with
  | none => rfl
  | some u => rw [e q u (hP.np h) z] at h; cases h
/-- lists of ints at the addresses -/
def LstsAt (H : Hp) (qs : List Addr) (ss : List (List Int)) : Prop := Paired (fun q (s : List Int) => H q = some (.lst (s.map V.int))) qs ss
theorem LstsAt.mono {H H' : Hp} (e : ∀ q (s : List Int), H q = some (.lst (s.map V.int)) → H' q = some (.lst (s.map V.int))) : ∀ {qs : List Addr} {ss : List (List Int)}, LstsAt H qs ss → LstsAt H' qs ss
  | _, _, .nil => .nil
  | _, _, .cons h r => .cons (e _ _ h) (LstsAt.mono e r)
theorem LstsAt.ex {H H' : Hp} {qs : List Addr} {ss : List (List Int)} (h : LstsAt H qs ss) (e : Evl.Ex H H') : LstsAt H' qs ss := h.mono fun q s z => e q _ z
theorem LstsAt.exB {H H' : Hp} {p c : Addr} {qs : List Addr} {ss : List (List Int)} (h : LstsAt H qs ss) (hP : PotC H p c) (e : ExB p H H') : LstsAt H' qs ss := h.mono fun q s z => by
  obtain ⟨cs, a, r, h1, _⟩ := hP
  exact e q _ (ne_of z h1 fun w => ints_np _ _ _ (HO.lst.inj w)) z
theorem LstsAt.upd {H : Hp} {f x : Addr} {r : List V} {o : HO} {qs : List Addr} {ss : List (List Int)} (h : LstsAt H qs ss) (hf : H f = some (.lst (.ref x :: r))) : LstsAt (L2.upd H f o) qs ss := h.mono fun q s z => by
  rw [upd_ne (ne_of z hf fun w => by have := HO.lst.inj w; cases s <;> cases this)]
  exact z
theorem LstsAt.snoc {H : Hp} {q : Addr} {s : List Int} (hq : H q = some (.lst (s.map V.int))) : ∀ {qs : List Addr} {ss : List (List Int)}, LstsAt H qs ss → LstsAt H (qs ++ [q]) (ss ++ [s])
  | _, _, .nil => .cons hq .nil
  | _, _, .cons h r => .cons h (LstsAt.snoc hq r)
theorem LstsAt.dp {K : PySem.W.Frag} {H : Hp} : ∀ {qs : List Addr} {ss : List (List Int)}, LstsAt H qs ss → DpAll K H (qs.map V.ref) (ss.map intsD)
  | _, _, .nil => .nil
  | _, _, .cons h r => .cons (dp_intsD (SqL.of h)) (LstsAt.dp r)
theorem LstsAt.len {H : Hp} : ∀ {qs : List Addr} {ss : List (List Int)}, LstsAt H qs ss → qs.length = ss.length
  | _, _, .nil => rfl
  | _, _, .cons h r => by rw [List.length_cons, List.length_cons, LstsAt.len r]
theorem rgI_up (n : Int) : (rgI n).Pairwise (· < ·) := by
  unfold rgI
  refine List.Pairwise.map _ ?_ List.pairwise_lt_range
  intro a b h
  show (a : Int) < (b : Int)
  omega
theorem rgI_ok (n : Int) : SetOk n (rgI n) := ⟨rgI_up n, fun h hh => rgI_mem.mp hh⟩
/-- a set without the one at a place -/
def without (s : List Int) (k : Nat) : List Int := s.take k ++ s.drop (k + 1)
theorem without_sub (s : List Int) (k : Nat) : (without s k).Sublist s := by
  unfold without
  have h1 : (s.drop (k + 1)).Sublist (s.drop k) := by
    rw [show k + 1 = k + 1 from rfl, ← List.drop_drop]
    exact List.drop_sublist 1 (s.drop k)
  have h2 := List.Sublist.append_left h1 (s.take k)
  rw [List.take_append_drop] at h2
  exact h2
theorem without_ok {many : Int} {s : List Int} (h : SetOk many s) (k : Nat) : SetOk many (without s k) := ⟨h.up.sublist (without_sub s k), fun x hx => h.ok x ((without_sub s k).mem hx)⟩
theorem cut_to {s : List Int} {i : Int} (h0 : 0 ≤ i) : cutV (s.map V.int) none (some i) = (s.take i.toNat).map V.int := by
  rw [cutV_map]
  congr 1
  have e : i = ((i.toNat : Nat) : Int) := by omega
  conv => lhs; rw [e]
  exact cutG_take s i.toNat
theorem cut_from {s : List Int} {i : Int} (h0 : 0 ≤ i) : cutV (s.map V.int) (some i) none = (s.drop i.toNat).map V.int := by
  rw [cutV_map]
  congr 1
  have e : i = ((i.toNat : Nat) : Int) := by omega
  conv => lhs; rw [e]
  exact cutG_drop s i.toNat
section
variable {K : PySem.W.Frag} {w : World} {H : Hp} {Q : VK}
theorem r_cat {a b : Addr} {xs ys : List Int} (h : H a = some (.lst (xs.map V.int))) (g : H b = some (.lst (ys.map V.int))) (hl : xs.length + ys.length ≤ 100000) (k : ∀ p, H p = none → Q (.ref p) (upd H p (.lst ((xs ++ ys).map V.int)))) : rCat (.ref a) (.ref b) H Q :=
  ⟨a, b, _, _, rfl, rfl, h, g, Evl.sz_of (by rw [List.length_map, List.length_map]; exact hl), fun p hp => by rw [← List.map_append]; exact k p hp⟩
theorem r_sortSet {a : Addr} {L : List Int} {n : Nat} (h : H a = some (SetO w a (fun j => decide (j ∈ L)) n)) (hn : n < 64) (k : ∀ (ns : List Int) (p : Addr), ns.Pairwise (· < ·) → (∀ x, x ∈ ns ↔ x ∈ L) → H p = none → Q (.ref p) (upd H p (.lst (ns.map V.int)))) : rSortedSet w [.ref a] H Q :=
  ⟨a, _, n, rfl, h, hn, fun ns p h1 h2 _ hp => k ns p h1 (fun x => by rw [h2]; exact decide_eq_true_iff) hp⟩
end
theorem cut_fromG {α : Type} {f : α → V} {s : List α} {i : Int} (h0 : 0 ≤ i) : cutV (s.map f) (some i) none = (s.drop i.toNat).map f := by
  rw [cutV_map]
  congr 1
  have e : i = ((i.toNat : Nat) : Int) := by omega
  conv => lhs; rw [e]
  exact cutG_drop s i.toNat
theorem LstsAt.drop {H : Hp} : ∀ {qs : List Addr} {ss : List (List Int)} (n : Nat), LstsAt H qs ss → LstsAt H (qs.drop n) (ss.drop n)
  | _, _, 0, h => h
  | _, _, _ + 1, .nil => .nil
  | _, _, n + 1, .cons _ r => LstsAt.drop n r
theorem LstsAt.get {H : Hp} : ∀ {qs : List Addr} {ss : List (List Int)} {i : Nat} {q : Addr}, LstsAt H qs ss → qs[i]? = some q → ∃ s ∈ ss, H q = some (.lst (s.map V.int))
  | _, _, i, q, .nil, h => by simp at h
  | _, _, 0, q, .cons h r, e => by
    have e := Option.some.inj e
    rw [← e]
    exact ⟨_, List.mem_cons_self, h⟩
  | _, _, i + 1, q, .cons h r, e => by
    obtain ⟨s, h1, h2⟩ := LstsAt.get r (show _ from (by simpa using e))
    exact ⟨s, List.mem_cons_of_mem _ h1, h2⟩
theorem find_filter {α : Type} (f : α → Bool) (l : List α) : (l.find? f).isNone = (l.filter f).isEmpty := by
  induction l with
  | nil => rfl
  | cons x r ih =>
    rw [List.find?_cons, List.filter_cons]
    cases f x with
    | true => rfl
    | false => simpa using ih
theorem cov_all (ties : List (Int × Int)) (s : List Int) (h : Int) : ((nbr ties h ++ [h]).filter fun x => decide (x ∈ s)).isEmpty = !cov ties s h := by
  rw [cov_not, List.filter_append]
  generalize (nbr ties h).filter (fun x => decide (x ∈ s)) = l
  by_cases q : h ∈ s
  · cases l <;> simp [q]
  · cases l <;> simp [q]
theorem nine (i : Nat) (h : i < 5) : ∃ m : Int, atI ([.int 9, .int 9, .int 9, .int 9, .int 60] : List V) (0 + (i : Int)) = some (.int m) ∧ 1 ≤ m ∧ m ≤ 60 := by
  match i, h with
  | 0, _ => exact ⟨9, rfl, by decide, by decide⟩
  | 1, _ => exact ⟨9, rfl, by decide, by decide⟩
  | 2, _ => exact ⟨9, rfl, by decide, by decide⟩
  | 3, _ => exact ⟨9, rfl, by decide, by decide⟩
  | 4, _ => exact ⟨60, rfl, by decide, by decide⟩
theorem lacks_small (many : Int) (ties : List (Int × Int)) (s : List Int) : (lacksD many ties s).depth < 2 ∧ wd (lacksD many ties s) = true := by
  unfold lacksD
  split
  · exact ⟨by simp [PyData.depth, PyData.depthAll], by simp [wd, wdAll]⟩
  · split
    · exact ⟨by simp [PyData.depth, PyData.depthAll], by simp [wd, wdAll]⟩
    · exact ⟨by simp [PyData.depth], rfl⟩
theorem r_neSame {K : PySem.W.Frag} {H : Hp} {Q : VK} {p q : Addr} {ns : List Int} (h : SqL K H p (ns.map V.int)) (g : SqL K H q (ns.map V.int)) (z : Q (.bl false) H) : rNeD K (.ref p) (.ref q) H Q := by
  refine ⟨_, _, dp_ints h, dp_ints g, shaped_ints ns, shaped_ints ns, ?_⟩
  rw [SeqAt.eqv_refl _ (SeqAt.canLay_of_shaped (shaped_ints ns))]
  exact z
def topS (i : Nat) : Stmt := PySem.Challenge.pw_fullapart_k03_what_a_set_lacks.main.body.getD i (.Pass ⟨0, 0, 0, 0⟩)
abbrev s_tie_within : Stmt := topS 1
abbrev s_first_bare : Stmt := topS 2
abbrev s_is_apart : Stmt := topS 3
abbrev s_is_full : Stmt := topS 4
abbrev s_lacks_of : Stmt := topS 5
abbrev s__law_blend : Stmt := topS 7
abbrev s__law_pot : Stmt := topS 8
abbrev s__law_pick : Stmt := topS 9
abbrev s__law_same : Stmt := topS 10
abbrev s__law_web : Stmt := topS 11
abbrev s__law_beside : Stmt := topS 12
abbrev s__law_lacks : Stmt := topS 13
abbrev s__law_filled : Stmt := topS 14
abbrev s__law_sets : Stmt := topS 15
abbrev s_law : Stmt := topS 16
theorem sc_tie_within : FnScope ["web", "some", "inside", "one", "other"] ["web", "some"] (defScope s_tie_within) := ⟨rfl, rfl, rfl, by decide +kernel, rfl, by decide +kernel, by decide +kernel⟩
theorem sc_first_bare : FnScope ["web", "some", "inside", "covered", "one", "other", "house"] ["web", "some"] (defScope s_first_bare) := ⟨rfl, rfl, rfl, by decide +kernel, rfl, by decide +kernel, by decide +kernel⟩
theorem sc_is_apart : FnScope ["web", "some"] ["web", "some"] (defScope s_is_apart) := ⟨rfl, rfl, rfl, by decide +kernel, rfl, by decide +kernel, by decide +kernel⟩
theorem sc_is_full : FnScope ["web", "some"] ["web", "some"] (defScope s_is_full) := ⟨rfl, rfl, rfl, by decide +kernel, rfl, by decide +kernel, by decide +kernel⟩
theorem sc_lacks_of : FnScope ["web", "some", "tie", "house"] ["web", "some"] (defScope s_lacks_of) := ⟨rfl, rfl, rfl, by decide +kernel, rfl, by decide +kernel, by decide +kernel⟩
theorem sc__law_blend : FnScope ["cell", "at", "one", "two", "three"] ["cell", "at"] (defScope s__law_blend) := ⟨rfl, rfl, rfl, by decide +kernel, rfl, by decide +kernel, by decide +kernel⟩
theorem sc__law_pot : FnScope ["script", "cells", "k", "cell"] ["script"] (defScope s__law_pot) := ⟨rfl, rfl, rfl, by decide +kernel, rfl, by decide +kernel, by decide +kernel⟩
theorem sc__law_pick : FnScope ["pot", "upto", "at", "cell", "found"] ["pot", "upto"] (defScope s__law_pick) := ⟨rfl, rfl, rfl, by decide +kernel, rfl, by decide +kernel, by decide +kernel⟩
theorem sc__law_same : FnScope ["found", "due", "one", "other"] ["found", "due"] (defScope s__law_same) := ⟨rfl, rfl, rfl, by decide +kernel, rfl, by decide +kernel, by decide +kernel⟩
theorem sc__law_web : FnScope ["pot", "most", "many", "way", "share", "order", "places", "ties", "one", "other", "here", "there", "drawn", "k"] ["pot", "most"] (defScope s__law_web) := ⟨rfl, rfl, rfl, by decide +kernel, rfl, by decide +kernel, by decide +kernel⟩
theorem sc__law_beside : FnScope ["web", "found", "one", "other", "house", "some"] ["web"] (defScope s__law_beside) := ⟨rfl, rfl, rfl, by decide +kernel, rfl, by decide +kernel, by decide +kernel⟩
theorem sc__law_lacks : FnScope ["web", "beside", "some", "tie", "house", "other"] ["web", "beside", "some"] (defScope s__law_lacks) := ⟨rfl, rfl, rfl, by decide +kernel, rfl, by decide +kernel, by decide +kernel⟩
theorem sc__law_filled : FnScope ["pot", "web", "beside", "order", "found", "house", "other"] ["pot", "web"] (defScope s__law_filled) := ⟨rfl, rfl, rfl, by decide +kernel, rfl, by decide +kernel, by decide +kernel⟩
theorem sc__law_sets : FnScope ["pot", "web", "full", "house", "at", "found", "other"] ["pot", "web"] (defScope s__law_sets) := ⟨rfl, rfl, rfl, by decide +kernel, rfl, by decide +kernel, by decide +kernel⟩
theorem sc_law : FnScope ["script", "pot", "turn", "web", "beside", "some", "due", "apart", "bare", "handed", "house", "one"] ["script"] (defScope s_law) := ⟨rfl, rfl, rfl, by decide +kernel, rfl, by decide +kernel, by decide +kernel⟩
structure Env (K : PySem.W.Frag) (mg : Str → Option Value) where
  a_tie_within : Addr
  fd_tie_within : FuncData
  F_tie_within : Fun K "tie_within" "tie_within" s_tie_within a_tie_within fd_tie_within
  b_tie_within : Binds K fd_tie_within ["web", "some"] []
  g_tie_within : mg "tie_within" = some (.ref a_tie_within)
  a_first_bare : Addr
  fd_first_bare : FuncData
  F_first_bare : Fun K "first_bare" "first_bare" s_first_bare a_first_bare fd_first_bare
  b_first_bare : Binds K fd_first_bare ["web", "some"] []
  g_first_bare : mg "first_bare" = some (.ref a_first_bare)
  a_is_apart : Addr
  fd_is_apart : FuncData
  F_is_apart : Fun K "is_apart" "is_apart" s_is_apart a_is_apart fd_is_apart
  b_is_apart : Binds K fd_is_apart ["web", "some"] []
  g_is_apart : mg "is_apart" = some (.ref a_is_apart)
  a_is_full : Addr
  fd_is_full : FuncData
  F_is_full : Fun K "is_full" "is_full" s_is_full a_is_full fd_is_full
  b_is_full : Binds K fd_is_full ["web", "some"] []
  g_is_full : mg "is_full" = some (.ref a_is_full)
  a_lacks_of : Addr
  fd_lacks_of : FuncData
  F_lacks_of : Fun K "lacks_of" "lacks_of" s_lacks_of a_lacks_of fd_lacks_of
  b_lacks_of : Binds K fd_lacks_of ["web", "some"] []
  g_lacks_of : mg "lacks_of" = some (.ref a_lacks_of)
  a__law_blend : Addr
  fd__law_blend : FuncData
  F__law_blend : Fun K "_law_blend" "_law_blend" s__law_blend a__law_blend fd__law_blend
  b__law_blend : Binds K fd__law_blend ["cell", "at"] []
  g__law_blend : mg "_law_blend" = some (.ref a__law_blend)
  a__law_pot : Addr
  fd__law_pot : FuncData
  F__law_pot : Fun K "_law_pot" "_law_pot" s__law_pot a__law_pot fd__law_pot
  b__law_pot : Binds K fd__law_pot ["script"] []
  g__law_pot : mg "_law_pot" = some (.ref a__law_pot)
  a__law_pick : Addr
  fd__law_pick : FuncData
  F__law_pick : Fun K "_law_pick" "_law_pick" s__law_pick a__law_pick fd__law_pick
  b__law_pick : Binds K fd__law_pick ["pot", "upto"] []
  g__law_pick : mg "_law_pick" = some (.ref a__law_pick)
  a__law_same : Addr
  fd__law_same : FuncData
  F__law_same : Fun K "_law_same" "_law_same" s__law_same a__law_same fd__law_same
  b__law_same : Binds K fd__law_same ["found", "due"] []
  g__law_same : mg "_law_same" = some (.ref a__law_same)
  a__law_web : Addr
  fd__law_web : FuncData
  F__law_web : Fun K "_law_web" "_law_web" s__law_web a__law_web fd__law_web
  b__law_web : Binds K fd__law_web ["pot", "most"] []
  g__law_web : mg "_law_web" = some (.ref a__law_web)
  a__law_beside : Addr
  fd__law_beside : FuncData
  F__law_beside : Fun K "_law_beside" "_law_beside" s__law_beside a__law_beside fd__law_beside
  b__law_beside : Binds K fd__law_beside ["web"] []
  g__law_beside : mg "_law_beside" = some (.ref a__law_beside)
  a__law_lacks : Addr
  fd__law_lacks : FuncData
  F__law_lacks : Fun K "_law_lacks" "_law_lacks" s__law_lacks a__law_lacks fd__law_lacks
  b__law_lacks : Binds K fd__law_lacks ["web", "beside", "some"] []
  g__law_lacks : mg "_law_lacks" = some (.ref a__law_lacks)
  a__law_filled : Addr
  fd__law_filled : FuncData
  F__law_filled : Fun K "_law_filled" "_law_filled" s__law_filled a__law_filled fd__law_filled
  b__law_filled : Binds K fd__law_filled ["pot", "web"] []
  g__law_filled : mg "_law_filled" = some (.ref a__law_filled)
  a__law_sets : Addr
  fd__law_sets : FuncData
  F__law_sets : Fun K "_law_sets" "_law_sets" s__law_sets a__law_sets fd__law_sets
  b__law_sets : Binds K fd__law_sets ["pot", "web"] []
  g__law_sets : mg "_law_sets" = some (.ref a__law_sets)
  n_set : mg "set" = none
  n_range : mg "range" = none
  n_list : mg "list" = none
  n_enumerate : mg "enumerate" = none
  n_sorted : mg "sorted" = none
  n_isinstance : mg "isinstance" = none
  n_bool : mg "bool" = none
  n_int : mg "int" = none
  n_str : mg "str" = none
  n_len : mg "len" = none
  n_tuple : mg "tuple" = none
  n_zip : mg "zip" = none
  n_min : mg "min" = none
  n_max : mg "max" = none
local macro_rules | `(tactic| walk_at "rd1") => `(tactic| (first
  | (with_reducible refine r_seq ?_) | (with_reducible refine r_asg ?_) | (with_reducible refine r_asgG ?_) | (with_reducible refine r_par ?_) | (with_reducible refine r_if ?_) | (with_reducible refine r_ret ?_) | (with_reducible refine r_drop ?_) | (with_reducible refine r_next ?_)
  | ((with_reducible refine' r_var ?hx ?_); (case hx => exact rfl)) | (with_reducible refine r_c ?_) | (with_reducible refine r_op ?_) | (with_reducible refine r_un ?_) | (with_reducible refine r_I0 ?_) | ((with_reducible refine r_I ?_ ?_); (· first | (show (0 : Int) < _; omega) | exact Or.inr ⟨by omega, by omega⟩ | exact Or.inl ⟨by omega, by omega⟩ | exact ⟨by omega, by omega, by decide⟩)) | (with_reducible refine r_U ?_)
  | (with_reducible refine r_test ?_) | (with_reducible refine r_B ?_) | (with_reducible refine r_bl ?_) | (with_reducible refine r_eqI ?_) | (with_reducible refine r_neI ?_)
  | ((with_reducible refine r_eq ?_ ?_); (· exact rfl)) | ((with_reducible refine r_ne ?_ ?_); (· exact rfl))
  | (with_reducible refine r_nil ?_) | (with_reducible refine r_cons ?_) | (with_reducible refine r_tup ?_) | (with_reducible refine r_lst ?_) | (with_reducible refine r_call ?_) | (with_reducible refine r_cb ?_)
  | (with_reducible refine r_and ?_) | (with_reducible refine r_or ?_) | (with_reducible refine r_not ?_) | (with_reducible refine r_andV ?_) | (with_reducible refine r_orV ?_) | (with_reducible refine r_notV ?_) | (with_reducible refine r_ifE ?_) | (with_reducible refine r_gSub ?_) | ((with_reducible refine' r_sIn ?h ?_); (case h => assumption)) | ((with_reducible refine' r_sNotIn ?h ?_); (case h => assumption)) | (with_reducible refine r_sadd ?_) | ((with_reducible refine' r_inI ?h ?_); (case h => assumption)) | ((with_reducible refine' r_notInI ?h ?_); (case h => assumption)) | ((with_reducible refine' r_eqNil ?h ?g ?_); (case h => assumption); (case g => assumption)) | ((with_reducible refine' r_neNil ?h ?g ?_); (case h => assumption); (case g => assumption)) | (with_reducible refine r_lstRg ?_) | (with_reducible refine r_rg1 ?_) | (with_reducible refine r_min2 ?_) | (with_reducible refine r_par2 ?_) | (with_reducible refine r_partI ?_) | (with_reducible refine r_lc ?_) | (with_reducible refine r_yes ?_) | (with_reducible refine r_iZipA ?_) | (with_reducible refine r_isN ?_) | ((with_reducible refine' iteRT ?hh ?_); (case hh => exact rfl)) | ((with_reducible refine' iteRF ?hh ?_); (case hh => exact rfl)) | ((with_reducible refine' r_isiT ?ty ?hk ?_); (case ty => first | assumption | exact tyx_L (by assumption) | exact tyx_T (by assumption) | exact .base (.non) | exact .base (.bl _) | exact .base (.int _) | exact .base (.str _)); (case hk => decide +kernel)) | ((with_reducible refine' r_isiF ?ty ?hk ?_); (case ty => first | assumption | exact tyx_L (by assumption) | exact tyx_T (by assumption) | exact .base (.non) | exact .base (.bl _) | exact .base (.int _) | exact .base (.str _)); (case hk => decide +kernel)) | (with_reducible refine r_for ?_) | (with_reducible refine r_iList ?_) | (with_reducible refine r_iTup ?_) | (with_reducible refine r_iRng1 ?_) | (with_reducible refine r_iRng2 ?_) | (with_reducible refine r_iEnum ?_) | (with_reducible refine r_iZip ?_) | (with_reducible refine r_gName ?_) | ((with_reducible refine' r_gTup2 ?hn ?hs ?_); (case hn => exact rfl); (case hs => first | assumption | exact SqT.of upd_same)) | (with_reducible refine r_bm ?_) | (with_reducible refine r_bm0 ?_) | (with_reducible refine r_sl ?_) | (with_reducible refine r_noPart ?_) | (with_reducible refine r_part ?_) | (with_reducible refine r_partI ?_) | ((refine' ⟨_, _, rfl, ?hl, ?_⟩); (case hl => first | exact Or.inl (by assumption) | exact Or.inr (by assumption)))
  | ((with_reducible refine' r_ixL ?hl ?ha ?_); (case hl => assumption); (case ha => first | exact rfl | assumption)) | ((with_reducible refine' r_ixT ?hl ?ha ?_); (case hl => assumption); (case ha => first | exact rfl | assumption))
  | ((with_reducible refine' r_setL ?hl ?hj ?_); (case hl => assumption); (case hj => first | exact rfl | assumption))))
local macro_rules | `(tactic| walk_at "rd") => `(tactic| repeat (walk_at "rd1"))




section
variable {P : Program} {w : World} {K : PySem.W.Frag} {mg : Str → Option Value} {base : Heap}

def sp_blend : Sp := fun vs H Q _ => ∃ cell at' : Int, vs = [.int cell, .int at'] ∧ 0 ≤ at' ∧ ∀ r : Int, 0 ≤ r → Q (.int r) H
theorem ok_blend (T : Env K mg) : FnOk P w K mg base CX0 1 T.a__law_blend T.fd__law_blend ["cell", "at"] sp_blend := by
  have nd := sc__law_blend.nd
  refine T.F__law_blend.ok sc__law_blend (fun vs H Q E h => ?_) (fun cdv A outer s H vs Q E hr h => ?_)
  · obtain ⟨c, a, rfl, _⟩ := h
    rfl
  · obtain ⟨cell, at', rfl, h0, k⟩ := h
    refine ⟨_, (pss_cons (ps_if (pt_cmpR op_ge (pv 0) (pe_op op_pow pe_int pe_int) (nomark _)) (pss_one (ps_ret (pv 0))) pss_nil)
      (pss_cons (ps_set (i := 2) nd rfl (.inl rfl) (pe_op op_mod (pe_op op_add (pe_op op_add (pe_op op_mul (pe_op op_mod (pv 0) pe_int) pe_int) (pe_op op_mul (pv 1) pe_int)) pe_int) pe_int))
      (pss_cons (ps_set (i := 3) nd rfl (.inl rfl) (pe_op op_mod (pe_op op_add (pe_op op_add (pe_op op_mul (pv 2) (pv 2)) (pe_op op_mul (pv 1) pe_int)) (pe_op op_mod (pv 0) pe_int)) pe_int))
      (pss_cons (ps_set (i := 4) nd rfl (.inl rfl) (pe_op op_mod (pe_op op_add (pe_op op_add (pe_op op_mul (pv 3) (pv 3)) (pe_op op_mul (pv 2) pe_int)) pe_int) pe_int))
      (pss_one (ps_ret (pe_op op_add (pe_op op_mul (pe_op op_add (pe_op op_mul (pv 2) pe_int) (pv 3)) pe_int) (pv 4)))))))), ?_⟩
    walk_at "rd"
    refine ite2 (fun hc => ?_) (fun hc => ?_)
    · walk_at "rd"
      refine k _ ?_
      have e : (10 : Int) ^ Int.toNat 18 = 1000000000000000000 := rfl
      have := of_decide_eq_true hc
      omega
    · walk_at "rd"
      exact k _ (by omega)

end



section
variable {P : Program} {w : World} {K : PySem.W.Frag} {mg : Str → Option Value} {base : Heap}

def sp_pot (K : PySem.W.Frag) : Sp := fun vs H Q _ => ∃ (a : Addr) (ns : List Int), vs = [.ref a] ∧ SqL K H a (ns.map V.int) ∧ ns.length ≤ 63 ∧ ∀ (p c : Addr) (H' : Hp), H p = none → Evl.Ex H H' → PotC H' p c → Q (.ref p) H'
theorem ok_pot (T : Env K mg) : FnOk P w K mg base CX0 1 T.a__law_pot T.fd__law_pot ["script"] (sp_pot K) := by
  have nd := sc__law_pot.nd
  refine T.F__law_pot.ok sc__law_pot (fun vs H Q E h => ?_) (fun cdv A outer s H vs Q E hr h => ?_)
  · obtain ⟨c, a, rfl, _⟩ := h
    rfl
  · obtain ⟨a, ns, rfl, hS, hl, k⟩ := h
    refine ⟨_, (pss_cons (ps_set (i := 1) nd rfl (.inl rfl) (pe_callTy call_list_of (by rfl) T.n_list (by decide +kernel) (pa_cons (pe_slice sl_list (pv 0) po_none (po_some pe_int)) pa_nil)))
      (pss_cons (ps_for PassesOwn.never rfl (pi_enum (by rfl) T.n_enumerate (pa_cons (pe_slice sl_list (pv 0) (po_some pe_int) (po_some pe_int)) pa_nil)) (pg_tup rfl (pgs_cons (pg_name (i := 2) nd rfl (.inl rfl)) (pgs_cons (pg_name (i := 3) nd rfl (.inl rfl)) pgs_nil))) (pss_one (ps_asg (pe_op op_add (pe_ix ix_list (pv 1) (pe_op op_mod (pv 2) pe_int) (fun _ _ => rfl)) (pv 3)) (pg_sub (pv 1) (pe_op op_mod (pv 2) pe_int) set_list))))
      (pss_one (ps_ret (pe_lst (pa_cons (pv 1) (pa_cons pe_int (pa_cons pe_int pa_nil)))))))), ?_⟩
    walk_at "rd"
    refine r_slL hS fun q hq => ?_
    refine ⟨q, _, rfl, .inl (SqL.of upd_same), fun c hc => ?_⟩
    have ex1 : Evl.Ex H (upd H q (.lst (cutV (ns.map V.int) none (some 12)))) := Evl.Ex.new hq
    have ex2 := ex1.trans (Evl.Ex.new (o := .lst (cutV (ns.map V.int) none (some 12))) hc)
    have hcH : H c = none := Evl.fresh_back ex1 hc
    walk_at "rd"
    refine r_slL (Evl.ex_l ex2 hS) fun q2 hq2 => ?_
    have ex3 := ex2.trans (Evl.Ex.new (o := .lst (cutV (ns.map V.int) (some 12) (some 63))) hq2)
    have ne : c ≠ q2 := ne_of_none upd_same hq2
    have hq2H : H q2 = none := Evl.fresh_back ex2 hq2
    refine ⟨q2, _, rfl, SqL.of upd_same, ?_⟩
    have e12 : cutV (ns.map V.int) none (some 12) = (ns.take 12).map V.int := by
      rw [cutV_map, show ((12 : Int)) = ((12 : Nat) : Int) from rfl, cutG_take]
    have e63 : cutV (ns.map V.int) (some 12) (some 63) = (cutG ns (some 12) (some 63)).map V.int := cutV_map ..
    have l63 := (cutG_len ns 12 63).2
    rw [e12, e63]
    refine for_it (walk_enum (xs := (cutG ns (some 12) (some 63)).map V.int)) (fun i σ' H' => ∃ (x2 x3 : Option V) (cs : List Int), σ' = [some (.ref a), some (.ref c), x2, x3] ∧ H' c = some (.lst (cs.map V.int)) ∧ cs.length = (ns.take 12).length ∧ Evl.Ex H H' ∧ H' q2 = some (.lst ((cutG ns (some 12) (some 63)).map V.int))) ?_ ?_ ?_ ?_
    · exact ⟨none, none, ns.take 12, rfl, (by rw [upd_ne ne, upd_same]), rfl, (by rw [e12, e63] at ex3; exact ex3), upd_same⟩
    · rintro i σ' H' _ ⟨x2, x3, cs, rfl, h1, h2, h3, h4⟩
      exact SqL.of h4
    · rintro i v σ' H1 H2 hi ⟨x2, x3, cs, rfl, h1, h2, h3, h4⟩ ⟨t, x, y, rfl, ht, rfl, ex, ey⟩
      cases ex
      have hy : ∃ z, y = .int z := by
        have ey : ((cutG ns (some 12) (some 63)).map V.int)[i]? = some y := ey
        rw [List.getElem?_map] at ey
        cases e : (cutG ns (some 12) (some 63))[i]? with
        | none => rw [e] at ey; cases ey
        | some z => rw [e] at ey; exact ⟨z, (Option.some.inj ey).symm⟩
      obtain ⟨z, rfl⟩ := hy
      have hlen : cs.length = 12 := by
        rw [h2, List.length_take]
        rw [List.length_map] at hi
        have : ¬ ns.length ≤ 12 := fun q => by
          have l := l63 q
          have e1 : ((12 : Nat) : Int) = 12 := rfl
          have e2 : ((63 : Nat) : Int) = 63 := rfl
          rw [e1, e2] at l
          omega
        omega
      have ct : c ≠ t := ne_of_none h1 ht
      have q2t : q2 ≠ t := ne_of_none h4 ht
      have h1' : (upd H1 t (.tup [.int (i : Nat), .int z])) c = some (.lst (cs.map V.int)) := by rw [upd_ne ct]; exact h1
      have s1' : SqL K (upd H1 t (.tup [.int (i : Nat), .int z])) c (cs.map V.int) := SqL.of h1'
      have ha : atI (cs.map V.int) ((i : Int) % 12) = some (.int (cs.getD ((i : Int) % 12).toNat 0)) := atI_int (by omega) (by omega)
      have hx : ixN (cs.map V.int).length ((i : Int) % 12) = some ((i : Int) % 12).toNat := by
        unfold ixN
        rw [if_pos (by omega), if_pos (by rw [List.length_map]; omega)]
      walk_at "rd"
      refine ⟨_, _, cs.set ((i : Int) % 12).toNat (cs.getD ((i : Int) % 12).toNat 0 + z), rfl, ?_, (by rw [List.length_set]; exact h2), (h3.trans (Evl.Ex.new ht)).mut hcH, (by rw [upd_ne ne.symm, upd_ne q2t]; exact h4)⟩
      rw [upd_same, List.map_set]
    · rintro σ' H' ⟨x2, x3, cs, rfl, h1, h2, h3, h4⟩
      walk_at "rd"
      refine ⟨(by show 3 ≤ sizeLine; decide), fun p hp => ?_⟩
      have cp : c ≠ p := ne_of_none h1 hp
      refine k p c _ (Evl.fresh_back h3 hp) (h3.trans (Evl.Ex.new hp)) ⟨cs, 0, 0, upd_same, ?_, cp, Int.le_refl _, Int.le_refl _, ?_⟩
      · rw [upd_ne cp]
        exact h1
      · rw [h2, List.length_take]
        omega

end



section
variable {P : Program} {w : World} {K : PySem.W.Frag} {mg : Str → Option Value} {base : Heap}

def sp_pick : Sp := fun vs H Q _ => ∃ (p c : Addr) (upto : Int), vs = [.ref p, .int upto] ∧ PotC H p c ∧ 0 < upto ∧ upto.natAbs < 2 ^ 1000 ∧ ∀ (r : Int) (H' : Hp), 0 ≤ r → r < upto → PotC H' p c → ExB p H H' → Q (.int r) H'
theorem ok_pick (T : Env K mg) : FnOk P w K mg base CX0 2 T.a__law_pick T.fd__law_pick ["pot", "upto"] sp_pick := by
  have nd := sc__law_pick.nd
  have G__law_blend : FnOk P w K mg base CX0 1 T.a__law_blend T.fd__law_blend ["cell", "at"] sp_blend := ok_blend T
  refine T.F__law_pick.ok sc__law_pick (fun vs H Q E h => ?_) (fun cdv A outer s H vs Q E hr h => ?_)
  · obtain ⟨p, c, a, rfl, _⟩ := h
    rfl
  · obtain ⟨p, c, upto, rfl, hP, hu0, hu1, k⟩ := h
    obtain ⟨cs, at', r, hp, hc, hcp, h0, hr0, hl⟩ := hP
    have sp : SqL K H p [.ref c, .int at', .int r] := SqL.of hp
    have sc : SqL K H c (cs.map V.int) := SqL.of hc
    refine ⟨_, (Evl.pss_cut (ps_if (pt_cmpR op_lt (pe_ix ix_list (pv 0) pe_int (fun _ _ => rfl)) (pv 1) (nomark _)) (pss_cons (ps_set (i := 2) nd rfl (.inl rfl) (pe_ix ix_list (pv 0) pe_int (fun _ _ => rfl)))
      (pss_cons (ps_set (i := 3) nd rfl (.inl rfl) (pe_op op_mul pe_int (pv 2)))
      (Evl.pss_cut (ps_if (pt_cmpR op_lt (pv 2) (pe_callB call_len_seq (by rfl) T.n_len PySem.boot_len (pa_cons (pe_ix ix_list (pv 0) pe_int (fun _ _ => rfl)) pa_nil)) (nomark _)) (pss_one (ps_set (i := 3) nd rfl (.inl rfl) (pe_ix ix_list (pe_ix ix_list (pv 0) pe_int (fun _ _ => rfl)) (pv 2) (fun _ _ => rfl)))) (pss_one (ps_if (pt_cmpR (op_neD hr.units) (pe_ix ix_list (pv 0) pe_int (fun _ _ => rfl)) (pe_lst pa_nil) (nomark _)) (pss_one (ps_set (i := 3) nd rfl (.inl rfl) (pe_op op_mod (pe_ix ix_list (pe_ix ix_list (pv 0) pe_int (fun _ _ => rfl)) (pe_op op_mod (pe_op op_add (pe_op op_mul (pv 2) pe_int) pe_int) (pe_callB call_len_seq (by rfl) T.n_len PySem.boot_len (pa_cons (pe_ix ix_list (pv 0) pe_int (fun _ _ => rfl)) pa_nil))) (fun _ _ => rfl)) (pe_op op_add (pe_op op_pow pe_int pe_int) (pe_op op_mul pe_int (pv 2)))))) pss_nil)))
      (pss_cons (ps_asg (pe_op op_add (pv 2) pe_int) (pg_sub (pv 0) pe_int set_list))
      (pss_one (ps_asg (pe_call G__law_blend (hr.mono (by decide)) (by rfl) T.g__law_blend T.F__law_blend.kp T.b__law_blend .nil pass0 (pa_cons (pv 3) (pa_cons (pv 2) pa_nil))) (pg_sub (pv 0) pe_int set_list))))))) pss_nil)
      (pss_cons (ps_set (i := 4) nd rfl (.inl rfl) (pe_op op_mod (pe_ix ix_list (pv 0) pe_int (fun _ _ => rfl)) (pv 1)))
      (pss_cons (ps_asg (pe_op op_fdivW (pe_ix ix_list (pv 0) pe_int (fun _ _ => rfl)) (pv 1)) (pg_sub (pv 0) pe_int set_list))
      (pss_one (ps_ret (pv 4)))))), ?_⟩
    refine ⟨fun σ' H' => ∃ x2 x3 x4, σ' = [some (.ref p), some (.int upto), x2, x3, x4] ∧ ExB p H H' ∧ ∃ at2 r2 : Int, 0 ≤ at2 ∧ 0 ≤ r2 ∧ H' p = some (.lst [.ref c, .int at2, .int r2]) ∧ H' c = some (.lst (cs.map V.int)), ?_, ?_⟩
    · walk_at "rd"
      refine ite2 (fun hc1 => ?_) (fun hc1 => ?_)
      · walk_at "rd"
        refine ⟨fun σ' H' => ∃ cell : Int, σ' = [some (.ref p), some (.int upto), some (.int at'), some (.int cell), none] ∧ Evl.Ex H H', ?_, ?_⟩
        · walk_at "rd"
          refine ite2 (fun hc2 => ?_) (fun hc2 => ?_)
          · have ha : atI (cs.map V.int) at' = some (.int (cs.getD at'.toNat 0)) := atI_int h0 (by
              have := of_decide_eq_true hc2
              rw [List.length_map] at this
              omega)
            walk_at "rd"
            exact ⟨_, rfl, Evl.Ex.refl _⟩
          · walk_at "rd"
            refine ⟨Nat.zero_le _, fun q hq => ?_⟩
            have ex : Evl.Ex H (upd H q (.lst [])) := Evl.Ex.new hq
            have sp1 := Evl.ex_l ex sp
            have sc1 := Evl.ex_l ex sc
            refine ⟨_, _, dp_ints sc1, dp_ints (cs := []) (SqL.of upd_same), shaped_ints cs, shaped_ints [], ?_⟩
            walk_at "rd"
            refine ite2 (fun hc3 => ?_) (fun hc3 => ?_)
            · have hn : cs ≠ [] := by
                rintro rfl
                exact absurd hc3 (by decide)
              have hlen : 0 < cs.length := List.length_pos_iff.mpr hn
              walk_at "rd"
              refine ⟨_, _, rfl, rfl, (by rw [List.length_map]; omega), ?_⟩
              have hm0 := Int.emod_nonneg (at' * 7 + 1) (b := ((cs.map V.int).length : Int)) (by rw [List.length_map]; omega)
              have hm1 := Int.emod_lt_of_pos (at' * 7 + 1) (b := ((cs.map V.int).length : Int)) (by rw [List.length_map]; omega)
              have ha : atI (cs.map V.int) ((at' * 7 + 1) % ((cs.map V.int).length : Int)) = some (.int (cs.getD ((at' * 7 + 1) % ((cs.map V.int).length : Int)).toNat 0)) := atI_int hm0 (by
                rw [List.length_map] at hm1 ⊢
                omega)
              walk_at "rd"
              refine ⟨_, _, rfl, rfl, (by have e : (10 : Int) ^ Int.toNat 17 = 100000000000000000 := rfl; omega), ?_⟩
              exact ⟨_, rfl, ex⟩
            · walk_at "rd"
              exact ⟨_, rfl, ex⟩
        · rintro σ' H' ⟨cell, rfl, ex⟩
          have hp1 := ex p _ hp
          have sp1 := Evl.ex_l ex sp
          walk_at "rd"
          refine ⟨cell, at', rfl, h0, fun r2 hr2 => ?_⟩
          walk_at "rd"
          refine r_setL upd_same (by exact rfl) ?_
          refine ⟨_, _, _, rfl, ?_, at' + 1, r2, by omega, hr2, ?_, ?_⟩
          · exact (ExB.of ex).trans (ExB.upd.trans ExB.upd)
          · exact upd_same
          · rw [upd_ne hcp, upd_ne hcp]
            exact ex c _ hc
      · walk_at "rd"
        exact ⟨_, _, _, rfl, ExB.refl _ _, at', r, h0, hr0, hp, hc⟩
    · rintro σ' H' ⟨x2, x3, x4, rfl, ex, at2, r2, ha2, hr2, hp2, hc2⟩
      have sp2 : SqL K H' p [.ref c, .int at2, .int r2] := SqL.of hp2
      walk_at "rd"
      refine r_I (wide_div hu0 hu1 (by decide) (by decide)) ?_
      walk_at "rd"
      refine k _ _ (Int.emod_nonneg _ (by omega)) (Int.emod_lt_of_pos _ hu0) ⟨cs, at2, r2 / upto, upd_same, ?_, hcp, ha2, Int.ediv_nonneg hr2 (by omega), hl⟩ (ex.trans ExB.upd)
      rw [upd_ne hcp]
      exact hc2

end



section
variable {P : Program} {w : World} {K : PySem.W.Frag} {mg : Str → Option Value} {base : Heap}

/-- the two represent one datum of depth below n -/
def sp_same (K : PySem.W.Frag) (n : Nat) : Sp := fun vs H Q _ => ∃ (v u : V) (d : PyData), vs = [v, u] ∧ Dp K H v d ∧ Dp K H u d ∧ d.depth < n ∧ wd d = true ∧ ∀ H', Evl.Ex H H' → Q (.bl true) H'
theorem ok_same0 (T : Env K mg) : FnOk P w K mg base CX0 1 T.a__law_same T.fd__law_same ["found", "due"] (sp_same K 0) := by
  refine T.F__law_same.ok sc__law_same (fun vs H Q E h => ?_) (fun cdv A outer s H vs Q E hr h => ?_)
  · obtain ⟨v, u, d, rfl, _⟩ := h
    rfl
  · obtain ⟨v, u, d, _, _, _, h, _⟩ := h
    exact absurd h (Nat.not_lt_zero _)
theorem ok_sameS (T : Env K mg) {n : Nat} (G__law_same : FnOk P w K mg base CX0 (n + 1) T.a__law_same T.fd__law_same ["found", "due"] (sp_same K n)) : FnOk P w K mg base CX0 (n + 2) T.a__law_same T.fd__law_same ["found", "due"] (sp_same K (n + 1)) := by
  have nd := sc__law_same.nd
  refine T.F__law_same.ok sc__law_same (fun vs H Q E h => ?_) (fun cdv A outer s H vs Q E hr h => ?_)
  · obtain ⟨v, u, d, rfl, _⟩ := h
    rfl
  · obtain ⟨v, u, d, rfl, hv, hu, hn, hw, k⟩ := h
    refine ⟨_, (pss_cons (ps_if (PW.pt (pw_or (pt_cmpR op_isN (pv 1) pe_non (nomark _)) (pw_or1 (pt_cmpR op_isN (pv 0) pe_non (nomark _))))) (pss_one (ps_ret (pe_and (pe_cmpR op_isN (pv 1) pe_non (nomark _)) (pe_one (pe_cmpR op_isN (pv 0) pe_non (nomark _)))))) pss_nil)
      (pss_cons (ps_if (PW.pt (pw_or (pt_val (pe_callB call_isi (by rfl) T.n_isinstance (by decide +kernel) (pa_cons (pv 1) (pa_cons (pe_bltn (v := .ty "bool") (u := .type "bool") (by rfl) T.n_bool (by decide +kernel) rfl) pa_nil)))) (pw_or1 (pt_val (pe_callB call_isi (by rfl) T.n_isinstance (by decide +kernel) (pa_cons (pv 0) (pa_cons (pe_bltn (v := .ty "bool") (u := .type "bool") (by rfl) T.n_bool (by decide +kernel) rfl) pa_nil))))))) (pss_one (ps_ret (pe_and (pe_callB call_isi (by rfl) T.n_isinstance (by decide +kernel) (pa_cons (pv 1) (pa_cons (pe_bltn (v := .ty "bool") (u := .type "bool") (by rfl) T.n_bool (by decide +kernel) rfl) pa_nil))) (pe_and (pe_callB call_isi (by rfl) T.n_isinstance (by decide +kernel) (pa_cons (pv 0) (pa_cons (pe_bltn (v := .ty "bool") (u := .type "bool") (by rfl) T.n_bool (by decide +kernel) rfl) pa_nil))) (pe_one (pe_cmpR op_eq (pv 0) (pv 1) (nomark _))))))) pss_nil)
      (pss_cons (ps_if (PW.pt (pw_or (pt_val (pe_callB call_isi (by rfl) T.n_isinstance (by decide +kernel) (pa_cons (pv 1) (pa_cons (pe_bltn (v := .ty "int") (u := .type "int") (by rfl) T.n_int (by decide +kernel) rfl) pa_nil)))) (pw_or1 (pt_val (pe_callB call_isi (by rfl) T.n_isinstance (by decide +kernel) (pa_cons (pv 1) (pa_cons (pe_bltn (v := .ty "str") (u := .type "str") (by rfl) T.n_str (by decide +kernel) rfl) pa_nil))))))) (pss_one (ps_ret (pe_and (pe_cmpR op_eq (pe_callB call_isi (by rfl) T.n_isinstance (by decide +kernel) (pa_cons (pv 0) (pa_cons (pe_bltn (v := .ty "int") (u := .type "int") (by rfl) T.n_int (by decide +kernel) rfl) pa_nil))) (pe_callB call_isi (by rfl) T.n_isinstance (by decide +kernel) (pa_cons (pv 1) (pa_cons (pe_bltn (v := .ty "int") (u := .type "int") (by rfl) T.n_int (by decide +kernel) rfl) pa_nil))) (nomark _)) (pe_one (pe_cmpR op_eq (pv 0) (pv 1) (nomark _)))))) pss_nil)
      (pss_cons (ps_if (PW.pt (pw_or (pt_cmpR op_ne (pe_callB call_isi (by rfl) T.n_isinstance (by decide +kernel) (pa_cons (pv 1) (pa_cons (pe_bltn (v := .ty "tuple") (u := .type "tuple") (by rfl) T.n_tuple (by decide +kernel) rfl) pa_nil))) (pe_callB call_isi (by rfl) T.n_isinstance (by decide +kernel) (pa_cons (pv 0) (pa_cons (pe_bltn (v := .ty "tuple") (u := .type "tuple") (by rfl) T.n_tuple (by decide +kernel) rfl) pa_nil))) (nomark _)) (pw_or1 (pt_cmpR op_ne (pe_callB call_isi (by rfl) T.n_isinstance (by decide +kernel) (pa_cons (pv 1) (pa_cons (pe_bltn (v := .ty "list") (u := .type "list") (by rfl) T.n_list (by decide +kernel) rfl) pa_nil))) (pe_callB call_isi (by rfl) T.n_isinstance (by decide +kernel) (pa_cons (pv 0) (pa_cons (pe_bltn (v := .ty "list") (u := .type "list") (by rfl) T.n_list (by decide +kernel) rfl) pa_nil))) (nomark _))))) (pss_one (ps_ret pe_bl)) pss_nil)
      (pss_cons (ps_if (pt_cmpR op_ne (pe_callB call_len_seq (by rfl) T.n_len PySem.boot_len (pa_cons (pv 0) pa_nil)) (pe_callB call_len_seq (by rfl) T.n_len PySem.boot_len (pa_cons (pv 1) pa_nil)) (nomark _)) (pss_one (ps_ret pe_bl)) pss_nil)
      (pss_one (ps_ret (pe_cmpR op_notIn_seq pe_bl (pe_lc (own := [("one", 2), ("other", 3)]) (g := (gTup K 2 (gCons (gName 2) (gCons (gName 3) gNil)))) (tt := tYes) (te := (tCall (sp_same K n) [] E0 (tCons (tVar 2) (tCons (tVar 3) tNil)))) rfl nd (RZ.pi_zipA (by rfl) T.n_zip (pa_cons (pv 0) (pa_cons (pv 1) pa_nil))) (blkOk_by (N := ["found", "due", "one", "other"]) (sc := defScope s__law_same) (by decide +kernel)) (fun _ _ _ _ _ => (pg_tup rfl (pgs_cons (pg_name (i := 2) nd rfl (.inl rfl)) (pgs_cons (pg_name (i := 3) nd rfl (.inl rfl)) pgs_nil)))) (fun _ _ _ _ _ => pts_nil) (fun _ _ _ _ _ => (pe_call G__law_same hr (by rfl) T.g__law_same T.F__law_same.kp T.b__law_same .nil pass0 (pa_cons (pv 2) (pa_cons (pv 3) pa_nil))))) rfl)))))))), ?_⟩
    cases hv with
    | non =>
      cases hu
      walk_at "rd"
      exact k _ (Evl.Ex.refl _)
    | bl b =>
      cases hu
      walk_at "rd"
      show Q (.bl (decide (V.bl b = V.bl b))) _
      rw [decide_eq_true rfl]
      exact k _ (Evl.Ex.refl _)
    | int i =>
      cases hu
      walk_at "rd"
      show Q (.bl (decide (i = i))) _
      rw [decide_eq_true rfl]
      exact k _ (Evl.Ex.refl _)
    | str z =>
      cases hu
      walk_at "rd"
      show Q (.bl (decide (V.str z = V.str z))) _
      rw [decide_eq_true rfl]
      exact k _ (Evl.Ex.refl _)
    | lst h1 h2 =>
      rename_i a1 xs1 ds
      cases hu with
      | lst g1 g2 =>
        rename_i a2 xs2
        have l1 := dpAll_get h2
        have l2 := dpAll_get g2
        rw [wd, Bool.and_eq_true] at hw
        rw [PyData.depth] at hn
        have hl := of_decide_eq_true hw.1
        walk_at "rd"
        refine iteRF (by rw [l1.1, l2.1]; simp) ?_
        walk_at "rd"
        refine ⟨_, _, _, _, rfl, .inl ⟨h1, g1, fun D hD => ?_⟩⟩
        have nD : H D = none := hD
        refine lc_it (walk_zip (xs := xs1) (ys := xs2) rfl) (fun i H' => H' D = some (.lst (List.replicate i (.bl true))) ∧ Evl.Ex H H') ?_ ?_ ?_ ?_
        · exact ⟨upd_same, Evl.Ex.new hD⟩
        · rintro i H' _ ⟨_, e⟩
          exact ⟨Evl.ex_l e h1, Evl.ex_l e g1⟩
        · rintro i v H1 H2 hi ⟨hd, e⟩ ⟨t, x, y, rfl, ht, rfl, ex, ey⟩
          obtain ⟨d1, e1, p1⟩ := l1.2 i x ex
          obtain ⟨d2, e2, p2⟩ := l2.2 i y ey
          rw [e1] at e2
          cases e2
          have e' := e.trans (Evl.Ex.new (o := .tup [x, y]) ht)
          have m1 : d1 ∈ ds := List.mem_of_getElem? e1
          have m2 := depthAll_mem m1
          have Dt : D ≠ t := ne_of_none hd ht
          walk_at "rd"
          refine ⟨rfl, ?_⟩
          walk_at "rd"
          refine ⟨x, y, d1, rfl, Dp.ex e' _ _ p1, Dp.ex e' _ _ p2, by omega, wdAll_mem hw.2 m1, fun H3 e3 => ⟨_, e3 D _ (by rw [upd_ne Dt]; exact hd), Evl.sz_lt (by rw [List.length_replicate]; rw [l1.1, l2.1] at hi; omega), ?_, (e'.trans e3).mut nD⟩⟩
          rw [upd_same, List.replicate_succ']
        · rintro H' ⟨hd, e⟩
          refine ⟨D, _, rfl, .inl (SqL.of hd), rfl, flat_rep _, ?_⟩
          rw [inV_rep]
          exact k _ e
    | tup h1 h2 =>
      rename_i a1 xs1 ds
      cases hu with
      | tup g1 g2 =>
        rename_i a2 xs2
        have l1 := dpAll_get h2
        have l2 := dpAll_get g2
        rw [wd, Bool.and_eq_true] at hw
        rw [PyData.depth] at hn
        have hl := of_decide_eq_true hw.1
        walk_at "rd"
        refine iteRF (by rw [l1.1, l2.1]; simp) ?_
        walk_at "rd"
        refine ⟨_, _, _, _, rfl, .inr ⟨h1, g1, fun D hD => ?_⟩⟩
        have nD : H D = none := hD
        refine lc_it (walk_zipT (xs := xs1) (ys := xs2) rfl) (fun i H' => H' D = some (.lst (List.replicate i (.bl true))) ∧ Evl.Ex H H') ?_ ?_ ?_ ?_
        · exact ⟨upd_same, Evl.Ex.new hD⟩
        · rintro i H' _ ⟨_, e⟩
          exact ⟨Evl.ex_t e h1, Evl.ex_t e g1⟩
        · rintro i v H1 H2 hi ⟨hd, e⟩ ⟨t, x, y, rfl, ht, rfl, ex, ey⟩
          obtain ⟨d1, e1, p1⟩ := l1.2 i x ex
          obtain ⟨d2, e2, p2⟩ := l2.2 i y ey
          rw [e1] at e2
          cases e2
          have e' := e.trans (Evl.Ex.new (o := .tup [x, y]) ht)
          have m1 : d1 ∈ ds := List.mem_of_getElem? e1
          have m2 := depthAll_mem m1
          have Dt : D ≠ t := ne_of_none hd ht
          walk_at "rd"
          refine ⟨rfl, ?_⟩
          walk_at "rd"
          refine ⟨x, y, d1, rfl, Dp.ex e' _ _ p1, Dp.ex e' _ _ p2, by omega, wdAll_mem hw.2 m1, fun H3 e3 => ⟨_, e3 D _ (by rw [upd_ne Dt]; exact hd), Evl.sz_lt (by rw [List.length_replicate]; rw [l1.1, l2.1] at hi; omega), ?_, (e'.trans e3).mut nD⟩⟩
          rw [upd_same, List.replicate_succ']
        · rintro H' ⟨hd, e⟩
          refine ⟨D, _, rfl, .inl (SqL.of hd), rfl, flat_rep _, ?_⟩
          rw [inV_rep]
          exact k _ e

end



section
variable {P : Program} {w : World} {K : PySem.W.Frag} {mg : Str → Option Value} {base : Heap}

def sp_web (K : PySem.W.Frag) : Sp := fun vs H Q _ => ∃ (p c : Addr) (most : Int), vs = [.ref p, .int most] ∧ PotC H p c ∧ 1 ≤ most ∧ most ≤ 60 ∧
  ∀ (many : Int) (ties : List (Int × Int)) (v : V) (H' : Hp), many ≤ most → WebOk many ties → Dp K H' v (webD many ties) → PotC H' p c → ExB p H H' → Q v H'
theorem ok_web (T : Env K mg) : FnOk P w K mg base CX0 3 T.a__law_web T.fd__law_web ["pot", "most"] (sp_web K) := by
  have nd := sc__law_web.nd
  have G__law_pick : FnOk P w K mg base CX0 2 T.a__law_pick T.fd__law_pick ["pot", "upto"] sp_pick := ok_pick T
  refine T.F__law_web.ok sc__law_web (fun vs H Q E h => ?_) (fun cdv A outer s H vs Q E hr h => ?_)
  · obtain ⟨p, c, a, rfl, _⟩ := h
    rfl
  · obtain ⟨p, c, most, rfl, hP, hm1, hm2, k⟩ := h
    refine ⟨_, (pss_cons (ps_set (i := 2) nd rfl (.inl rfl) (pe_op op_add pe_int (pe_call G__law_pick (hr.mono (by decide)) (by rfl) T.g__law_pick T.F__law_pick.kp T.b__law_pick .nil pass0 (pa_cons (pv 0) (pa_cons (pv 1) pa_nil)))))
      (pss_cons (ps_set (i := 3) nd rfl (.inl rfl) (pe_call G__law_pick (hr.mono (by decide)) (by rfl) T.g__law_pick T.F__law_pick.kp T.b__law_pick .nil pass0 (pa_cons (pv 0) (pa_cons pe_int pa_nil))))
      (pss_cons (ps_set (i := 4) nd rfl (.inl rfl) (pe_op op_add pe_int (pe_call G__law_pick (hr.mono (by decide)) (by rfl) T.g__law_pick T.F__law_pick.kp T.b__law_pick .nil pass0 (pa_cons (pv 0) (pa_cons pe_int pa_nil)))))
      (pss_cons (ps_set (i := 5) nd rfl (.inr rfl) (pe_listRg rfl (by rfl) T.n_list (prg_1 (by rfl) T.n_range (pv 2))))
      (pss_cons (ps_setLc (i := 6) (own := [("k", 13)]) (g := gName 13) (tt := tYes) (te := (tBM K "list" rPopAt (tVar 5) (tCons (tCall sp_pick [] E0 (tCons (tVar 0) (tCons (tCB (Evl.rLenS K) (tCons (tVar 5) tNil)) tNil))) tNil))) rfl nd rfl rfl (sw_true rfl rfl rfl (by decide +kernel)) (pi_range1 (by rfl) T.n_range (pa_cons (pv 2) pa_nil)) (blkOk_by (N := ["pot", "most", "many", "way", "share", "order", "places", "ties", "one", "other", "here", "there", "drawn", "k"]) (sc := defScope s__law_web) (by decide +kernel)) (fun _ _ _ _ _ => (pg_name (i := 13) nd rfl (.inl rfl))) (fun _ _ _ _ _ => pts_nil) (fun _ _ _ _ _ => (pe_bm PySem.F.plainAttrs_list PySem.F.slot_list_pop PySem.F.type_list_pop mt_popAt (pv 5) (pa_cons (pe_call G__law_pick (hr.mono (by decide)) (by rfl) T.g__law_pick T.F__law_pick.kp T.b__law_pick .nil pass0 (pa_cons (pv 0) (pa_cons (pe_callB call_len_seq (by rfl) T.n_len PySem.boot_len (pa_cons (pv 5) pa_nil)) pa_nil))) pa_nil))))
      (pss_cons (ps_set (i := 7) nd rfl (.inl rfl) (pe_lst pa_nil))
      (pss_cons (ps_for PassesOwn.never rfl (pi_range1 (by rfl) T.n_range (pa_cons (pv 2) pa_nil)) (pg_name (i := 8) nd rfl (.inl rfl)) (pss_one (ps_for PassesOwn.never rfl (pi_range2 (by rfl) T.n_range (pa_cons (pe_op op_add (pv 8) pe_int) (pa_cons (pv 2) pa_nil))) (pg_name (i := 9) nd rfl (.inl rfl)) (pss_cons (ps_par (i := 10) (j := 11) (by rfl) nd rfl rfl (by decide) rfl rfl (pa_cons (pe_ix ix_list (pv 6) (pv 8) (fun _ _ => rfl)) (pa_cons (pe_ix ix_list (pv 6) (pv 9) (fun _ _ => rfl)) pa_nil)) (by rfl))
      (pss_cons (ps_set (i := 12) nd rfl (.inl rfl) (pe_cmpR op_lt (pe_call G__law_pick (hr.mono (by decide)) (by rfl) T.g__law_pick T.F__law_pick.kp T.b__law_pick .nil pass0 (pa_cons (pv 0) (pa_cons pe_int pa_nil))) (pv 4) (nomark _)))
      (Evl.pss_cut (ps_if (pt_cmpR op_eq (pv 3) pe_int (nomark _)) (pss_one (ps_set (i := 12) nd rfl (.inl rfl) (pe_or (pe_cmpR op_eq (pv 9) (pe_op op_add (pv 8) pe_int) (nomark _)) (pe_one (pe_and (pe_cmpR op_eq (pv 8) pe_int (nomark _)) (pe_and (pe_cmpR op_eq (pv 9) (pe_op op_sub (pv 2) pe_int) (nomark _)) (pe_one (pe_cmpR op_gt (pv 4) pe_int (nomark _))))))))) pss_nil)
      (Evl.pss_cut (ps_if (pt_cmpR op_eq (pv 3) pe_int (nomark _)) (pss_one (ps_set (i := 12) nd rfl (.inl rfl) (pe_cmpR op_eq (pv 8) pe_int (nomark _)))) pss_nil)
      (pss_one (ps_if (pt_val (pv 12)) (pss_one (ps_expr (pe_bm PySem.F.plainAttrs_list PySem.F.slot_list_append PySem.F.type_list_append mt_append (pv 7) (pa_cons (pe_tup (pa_cons (pe_callB (call_min2 rfl) (by rfl) T.n_min (by decide +kernel) (pa_cons (pv 10) (pa_cons (pv 11) pa_nil))) (pa_cons (pe_callB (call_max2 rfl) (by rfl) T.n_max (by decide +kernel) (pa_cons (pv 10) (pa_cons (pv 11) pa_nil))) pa_nil))) pa_nil)))) pss_nil)))))))))
      (pss_one (ps_ret (pe_tup (pa_cons (pv 2) (pa_cons (pe_callTy call_tuple_of (by rfl) T.n_tuple (by decide +kernel) (pa_cons (pe_callB cr_sortedPO (by rfl) T.n_sorted (by decide +kernel) (pa_cons (pv 7) pa_nil)) pa_nil)) pa_nil)))))))))))), ?_⟩
    walk_at "rd"
    refine ⟨p, c, most, rfl, hP, by omega, small_up (by omega) (by omega), fun r1 H1 h10 h11 P1 e1 => ?_⟩
    walk_at "rd"
    refine ⟨p, c, 6, rfl, P1, by omega, small_up (by omega) (by omega), fun way H2 h20 h21 P2 e2 => ?_⟩
    walk_at "rd"
    refine ⟨p, c, 5, rfl, P2, by omega, small_up (by omega) (by omega), fun r3 H3 h30 h31 P3 e3 => ?_⟩
    have E3 := (e1.trans e2).trans e3
    obtain ⟨many, rfl⟩ : ∃ many, r1 = many - 1 := ⟨r1 + 1, by omega⟩
    have hmany : 1 + (many - 1) = many := by omega
    rw [hmany]
    walk_at "rd"
    refine ⟨⟨by omega, by omega, by omega, by omega, by omega⟩, fun o ho => ?_⟩
    rw [rgV_eq]
    have oH : H o = none := by
      cases q : H o with
      | none => rfl
      | some u => rw [E3 o u (P3.np ho) q] at ho; cases ho
    have P4 : PotC (upd H3 o (.lst ((rgI many).map V.int))) p c := P3.new ho
    have E4 : ExB p H (upd H3 o (.lst ((rgI many).map V.int))) := E3.mut oH
    have h4o : (upd H3 o (.lst ((rgI many).map V.int))) o = some (.lst ((rgI many).map V.int)) := upd_same
    generalize upd H3 o (.lst ((rgI many).map V.int)) = H4 at *
    have op : o ≠ p := hP.np oH
    have oc : o ≠ c := hP.nc oH
    walk_at "rd"
    refine ⟨many, rfl, by omega, by omega, fun D hD => ?_⟩
    have DH : H D = none := by
      cases q : H D with
      | none => rfl
      | some u => rw [E4 D u (P4.np hD) q] at hD; cases hD
    have Dp : D ≠ p := hP.np DH
    have Dc : D ≠ c := hP.nc DH
    have Do : D ≠ o := (ne_of_none h4o hD).symm
    refine lc_it walk_range (fun i H' => ∃ rem acc : List Int, H' o = some (.lst (rem.map V.int)) ∧ H' D = some (.lst (acc.map V.int)) ∧ rem.length + i = many.toNat ∧ acc.length = i ∧ (acc ++ rem).Perm (rgI many) ∧ PotC H' p c ∧ ExB p H H') ?_ ?_ ?_ ?_
    · exact ⟨rgI many, [], by rw [upd_ne Do.symm]; exact h4o, upd_same, by rw [rgI_len]; rfl, rfl, List.Perm.refl _, P4.new hD, E4.mut DH⟩
    · intro i H' _ _
      trivial
    · rintro i v H5 H6 hi ⟨rem, acc, h1, h2, h3, h4, h5, P5, E5⟩ ⟨rfl, rfl⟩
      have sl5 : SqL K H6 o (rem.map V.int) := SqL.of h1
      walk_at "rd"
      refine ⟨rfl, ?_⟩
      walk_at "rd"
      refine ⟨tyL sl5, ?_⟩
      walk_at "rd"
      refine ⟨p, c, _, rfl, P5, by rw [List.length_map]; omega, small_up (by rw [List.length_map]; omega) (by rw [List.length_map]; omega), fun r H7 hr0 hr1 P7 e7 => ?_⟩
      rw [List.length_map] at hr1
      have h1' : H7 o = some (.lst (rem.map V.int)) := e7 o _ op h1
      have h2' : H7 D = some (.lst (acc.map V.int)) := e7 D _ Dp h2
      have hlt : r.toNat < rem.length := by omega
      have hy : (rem.map V.int)[r.toNat]? = some (.int rem[r.toNat]) := by
        rw [List.getElem?_map, List.getElem?_eq_getElem hlt]
        rfl
      walk_at "rd"
      refine r_popAt h1' hr0 (by rw [List.length_map]; exact hr1) (by rw [List.length_map]; omega) hy ?_
      rw [map_eraseIdx]
      refine ⟨acc.map V.int, by rw [upd_ne Do]; exact h2', Evl.sz_lt (by rw [List.length_map]; omega), rem.eraseIdx r.toNat, acc ++ [rem[r.toNat]], ?_, ?_, ?_, by rw [List.length_append]; simp [h4], ?_, (P7.upd op oc).upd Dp Dc, ((E5.trans e7).mut oH).mut DH⟩
      · rw [upd_ne Do.symm, upd_same]
      · rw [upd_same, List.map_append]
        rfl
      · rw [List.length_eraseIdx_of_lt hlt]
        omega
      · refine List.Perm.trans ?_ h5
        rw [List.append_assoc]
        exact List.Perm.append_left _ (eraseIdx_perm rem r.toNat _ (List.getElem?_eq_getElem hlt))
    · rintro H5 ⟨rem, pl, h1, h2, h3, h4, h5, P5, E5⟩
      have hrem : rem = [] := List.length_eq_zero_iff.mp (by omega)
      rw [hrem, List.append_nil] at h5
      have hpl : pl.length = many.toNat := by rw [h5.length_eq, rgI_len]
      have pn : pl.Nodup := h5.nodup_iff.mpr (rgI_nd many)
      clear h1 h3 h4 hrem
      walk_at "rd"
      refine ⟨Nat.zero_le _, fun tl htl => ?_⟩
      have tH : H tl = none := by
        cases q : H tl with
        | none => rfl
        | some u => rw [E5 tl u (P5.np htl) q] at htl; cases htl
      have tp : tl ≠ p := hP.np tH
      have tc : tl ≠ c := hP.nc tH
      have tD : tl ≠ D := (ne_of_none h2 htl).symm
      walk_at "rd"
      refine ⟨many, rfl, by omega, by omega, ?_⟩
      refine for_it walk_range (fun i σ' H' => ∃ (x8 x9 x10 x11 x12 : Option V) (rs : List V) (ps : List (Int × Int)), σ' = [some (.ref p), some (.int most), some (.int many), some (.int way), some (.int (1 + r3)), some (.ref o), some (.ref D), some (.ref tl), x8, x9, x10, x11, x12, none] ∧ H' D = some (.lst (pl.map V.int)) ∧ H' tl = some (.lst rs) ∧ TupsAt H' rs ps ∧ PsOk pl ps i 0 ∧ rs.length ≤ i * 60 ∧ PotC H' p c ∧ ExB p H H') ?_ ?_ ?_ ?_
      · exact ⟨none, none, none, none, none, [], [], rfl, by rw [upd_ne tD.symm]; exact h2, upd_same, .nil, ⟨List.nodup_nil, fun t ht => by cases ht⟩, Nat.zero_le _, P5.new htl, E5.mut tH⟩
      · intro _ _ _ _ _
        trivial
      · rintro i v σ6 H6 H7 hi ⟨x8, x9, x10, x11, x12, rs, ps, rfl, g2, g3, g4, g5, g6, P6, E6⟩ ⟨rfl, rfl⟩
        walk_at "rd"
        refine ⟨⟨by omega, by omega, by omega, by omega⟩, ?_⟩
        refine for_it walk_range (fun j σ' H' => ∃ (x9 x10 x11 x12 : Option V) (rs : List V) (ps : List (Int × Int)), σ' = [some (.ref p), some (.int most), some (.int many), some (.int way), some (.int (1 + r3)), some (.ref o), some (.ref D), some (.ref tl), some (.int (0 + (i : Int))), x9, x10, x11, x12, none] ∧ H' D = some (.lst (pl.map V.int)) ∧ H' tl = some (.lst rs) ∧ TupsAt H' rs ps ∧ PsOk pl ps i (i + 1 + j) ∧ rs.length ≤ i * 60 + j ∧ PotC H' p c ∧ ExB p H H') ?_ ?_ ?_ ?_
        · exact ⟨x9, x10, x11, x12, rs, ps, rfl, g2, g3, g4, g5.mono (by omega), g6, P6, E6⟩
        · intro _ _ _ _ _
          trivial
        · rintro j v σ8 H8 H9 hj ⟨x9, x10, x11, x12, rs, ps, rfl, g2, g3, g4, g5, g6, P6, E6⟩ ⟨rfl, rfl⟩
          have sD : SqL K H9 D (pl.map V.int) := SqL.of g2
          have a1 : atI (pl.map V.int) (0 + (i : Int)) = some (.int (pl.getD i 0)) := by
            have := atI_int (cs := pl) (i := 0 + (i : Int)) (by omega) (by omega)
            rw [show (0 + (i : Int)).toNat = i by omega] at this
            exact this
          have a2 : atI (pl.map V.int) (0 + (i : Int) + 1 + (j : Int)) = some (.int (pl.getD (i + 1 + j) 0)) := by
            have := atI_int (cs := pl) (i := 0 + (i : Int) + 1 + (j : Int)) (by omega) (by omega)
            rw [show (0 + (i : Int) + 1 + (j : Int)).toNat = i + 1 + j by omega] at this
            exact this
          walk_at "rd"
          refine ⟨p, c, 6, rfl, P6, by omega, small_up (by omega) (by omega), fun r HA hr0 hr1 PA eA => ?_⟩
          have g2' := eA D _ Dp g2
          have g3' := eA tl _ tp g3
          have g4' := g4.mono (P6.t eA)
          have EA := E6.trans eA
          walk_at "rd"
          refine ⟨fun σ' H' => ∃ b : Bool, σ' = [some (.ref p), some (.int most), some (.int many), some (.int way), some (.int (1 + r3)), some (.ref o), some (.ref D), some (.ref tl), some (.int (0 + (i : Int))), some (.int (0 + (i : Int) + 1 + (j : Int))), some (.int (pl.getD i 0)), some (.int (pl.getD (i + 1 + j) 0)), some (.bl b), none] ∧ H' = HA, ?_, ?_⟩
          · walk_at "rd"
            refine iteB (fun _ => ?_) (fun _ => ?_)
            · walk_at "rd"
              refine iteB (fun _ => ?_) (fun _ => ?_)
              · exact ⟨_, rfl, rfl⟩
              · walk_at "rd"
                refine iteB (fun _ => ?_) (fun _ => ?_)
                · walk_at "rd"
                  refine iteB (fun _ => ?_) (fun _ => ?_)
                  · walk_at "rd"
                    exact ⟨_, rfl, rfl⟩
                  · exact ⟨_, rfl, rfl⟩
                · exact ⟨_, rfl, rfl⟩
            · walk_at "rd"
              exact ⟨_, rfl, rfl⟩
          · rintro σ' H' ⟨b, rfl, rfl⟩
            refine ⟨fun σ' H'' => ∃ b : Bool, σ' = [some (.ref p), some (.int most), some (.int many), some (.int way), some (.int (1 + r3)), some (.ref o), some (.ref D), some (.ref tl), some (.int (0 + (i : Int))), some (.int (0 + (i : Int) + 1 + (j : Int))), some (.int (pl.getD i 0)), some (.int (pl.getD (i + 1 + j) 0)), some (.bl b), none] ∧ H'' = H', ?_, ?_⟩
            · walk_at "rd"
              refine iteB (fun _ => ?_) (fun _ => ?_)
              · walk_at "rd"
                exact ⟨_, rfl, rfl⟩
              · walk_at "rd"
                exact ⟨_, rfl, rfl⟩
            · rintro σ'' H'' ⟨b, rfl, rfl⟩
              walk_at "rd"
              refine iteB (fun _ => ?_) (fun _ => ?_)
              · walk_at "rd"
                refine ⟨tyL (SqL.of g3'), ?_⟩
                walk_at "rd"
                refine ⟨(by show 2 ≤ sizeLine; decide), fun t ht => ?_⟩
                have tl_t : tl ≠ t := ne_of_none g3' ht
                have D_t : D ≠ t := ne_of_none g2' ht
                have tH2 : H t = none := by
                  cases q : H t with
                  | none => rfl
                  | some u => rw [EA t u (PA.np ht) q] at ht; cases ht
                walk_at "rd"
                refine r_app (by rw [upd_ne tl_t]; exact g3') (by omega) ?_
                refine ⟨_, _, _, _, rs ++ [.ref t], ps ++ [fP pl i (i + 1 + j)], rfl, ?_, upd_same, ?_, (g5.snoc pn (by omega) (by omega)).mono (by omega), by rw [List.length_append]; simp; omega, (PA.new ht).upd tp tc, (EA.mut tH2).mut tH⟩
                · rw [upd_ne tD.symm, upd_ne D_t]
                  exact g2'
                · refine TupsAt.snoc ?_ (g4'.mono ?_)
                  · rw [upd_ne tl_t.symm, upd_same]
                    rfl
                  · exact (ExT.of (Evl.Ex.new ht)).trans (ExT.lst (xs := rs) (by rw [upd_ne tl_t]; exact g3'))
              · walk_at "rd"
                exact ⟨_, _, _, _, rs, ps, rfl, g2', g3', g4', g5.mono (by omega), by omega, PA, EA⟩
        · rintro σ8 H8 ⟨x9, x10, x11, x12, rs, ps, rfl, g2, g3, g4, g5, g6, P6, E6⟩
          exact ⟨_, x9, x10, x11, x12, rs, ps, rfl, g2, g3, g4, g5.mono (by omega), by omega, P6, E6⟩
      · rintro σ6 H6 ⟨x8, x9, x10, x11, x12, rs, ps, rfl, g2, g3, g4, g5, g6, P6, E6⟩
        walk_at "rd"
        refine ⟨tl, rs, pairOf H6, rfl, SqL.of g3, g4.all, fun ys q hs hb hq => ?_⟩
        refine ⟨q, ys, rfl, .inl ⟨SqL.of upd_same, fun l hl => ?_⟩⟩
        walk_at "rd"
        refine ⟨(by show 2 ≤ sizeLine; decide), fun f hf => ?_⟩
        have q_l : q ≠ l := ne_of_none upd_same hl
        have l_f : l ≠ f := ne_of_none upd_same hf
        have ex : Evl.Ex H6 (upd (upd (upd H6 q (.lst ys)) l (.tup ys)) f (.tup [.int many, .ref l])) := ((Evl.Ex.new hq).trans (Evl.Ex.new hl)).trans (Evl.Ex.new hf)
        have t1 : TupsAt H6 ys (ys.map (pairOf H6)) := tupsAt_of ys fun x hx => g4.all x (hb.perm.mem_iff.mp hx)
        have pp : (ys.map (pairOf H6)).Perm ps := by
          rw [← g4.map]
          exact hb.perm.map _
        refine k many (ys.map (pairOf H6)) _ _ (by omega) ⟨by omega, by omega, fun t ht => ?_, sorted_up g5.nd pp ?_⟩ (web_dp (SqT.of upd_same) (SqT.of (by rw [upd_ne l_f, upd_same])) ((t1.mono (ExT.of ex)).dp)) (P6.ex ex) (E6.trans (ExB.of ex))
        · exact g5.valid h5 t (pp.mem_iff.mp ht)
        · exact List.Pairwise.map _ (fun a b h => h) hs

end



section
variable {P : Program} {w : World} {K : PySem.W.Frag} {mg : Str → Option Value} {base : Heap}

def sp_beside (K : PySem.W.Frag) : Sp := fun vs H Q _ => ∃ (v : V) (many : Int) (ties : List (Int × Int)), vs = [v] ∧ Dp K H v (webD many ties) ∧ WebOk many ties ∧ ∀ (u : V) (H' : Hp), Evl.Ex H H' → BesAt H' u many ties → Q u H'
theorem ok_beside (T : Env K mg) : FnOk P w K mg base CX0 1 T.a__law_beside T.fd__law_beside ["web"] (sp_beside K) := by
  have nd := sc__law_beside.nd
  refine T.F__law_beside.ok sc__law_beside (fun vs H Q E h => ?_) (fun cdv A outer s H vs Q E hr h => ?_)
  · obtain ⟨v, a, t, rfl, _⟩ := h
    rfl
  · obtain ⟨v, many, ties, rfl, hv, W, k⟩ := h
    obtain ⟨wa, wb, ws, rfl, s1, s2, s3⟩ := webD_at hv
    have w1 := W.lo
    have w2 := W.hi
    refine ⟨_, (pss_cons (ps_setLc (i := 1) (own := [("house", 4)]) (g := gName 4) (tt := tYes) (te := (tLst tNil)) rfl nd rfl rfl (sw_true rfl rfl rfl (by decide +kernel)) (pi_range1 (by rfl) T.n_range (pa_cons (pe_ix ix_tup (pv 0) pe_int (fun _ _ => rfl)) pa_nil)) (blkOk_by (N := ["web", "found", "one", "other", "house", "some"]) (sc := defScope s__law_beside) (by decide +kernel)) (fun _ _ _ _ _ => (pg_name (i := 4) nd rfl (.inl rfl))) (fun _ _ _ _ _ => pts_nil) (fun _ _ _ _ _ => (pe_lst pa_nil)))
      (pss_cons (ps_for PassesOwn.never rfl (pi_tup (pe_ix ix_tup (pv 0) pe_int (fun _ _ => rfl))) (pg_tup rfl (pgs_cons (pg_name (i := 2) nd rfl (.inl rfl)) (pgs_cons (pg_name (i := 3) nd rfl (.inl rfl)) pgs_nil))) (pss_cons (ps_expr (pe_bm PySem.F.plainAttrs_list PySem.F.slot_list_append PySem.F.type_list_append mt_append (pe_ix ix_list (pv 1) (pv 2) (fun _ _ => rfl)) (pa_cons (pv 3) pa_nil)))
      (pss_one (ps_expr (pe_bm PySem.F.plainAttrs_list PySem.F.slot_list_append PySem.F.type_list_append mt_append (pe_ix ix_list (pv 1) (pv 3) (fun _ _ => rfl)) (pa_cons (pv 2) pa_nil))))))
      (pss_one (ps_ret (pe_lc (own := [("some", 5)]) (g := gName 5) (tt := tYes) (te := (tCB (rSortedI K) (tCons (tVar 5) tNil))) rfl nd (pi_list (pv 1)) (blkOk_by (N := ["web", "found", "one", "other", "house", "some"]) (sc := defScope s__law_beside) (by decide +kernel)) (fun _ _ _ _ _ => (pg_name (i := 5) nd rfl (.inl rfl))) (fun _ _ _ _ _ => pts_nil) (fun _ _ _ _ _ => (pe_callB cr_sortedI (by rfl) T.n_sorted (by decide +kernel) (pa_cons (pv 5) pa_nil)))))))), ?_⟩
    walk_at "rd"
    refine ⟨many, rfl, by omega, by omega, fun D hD => ?_⟩
    refine lc_it walk_range (fun i H' => ∃ as : List Addr, H' D = some (.lst (as.map V.ref)) ∧ as.length = i ∧ as.Nodup ∧ (∀ a ∈ as, H' a = some (.lst []) ∧ H a = none ∧ a ≠ D) ∧ Evl.Ex H H') ?_ ?_ ?_ ?_
    · exact ⟨[], upd_same, rfl, List.nodup_nil, (fun a ha => by cases ha), Evl.Ex.new hD⟩
    · intro _ _ _ _
      trivial
    · rintro i v H1 H2 hi ⟨as, h1, h2, h3, h4, e1⟩ ⟨rfl, rfl⟩
      walk_at "rd"
      refine ⟨rfl, ?_⟩
      walk_at "rd"
      refine ⟨Nat.zero_le _, fun q hq => ?_⟩
      have Dq : D ≠ q := ne_of_none h1 hq
      have qH := Evl.fresh_back e1 hq
      refine ⟨as.map V.ref, by rw [upd_ne Dq]; exact h1, Evl.sz_lt (by rw [List.length_map]; omega), as ++ [q], by rw [upd_same, List.map_append]; rfl, by rw [List.length_append]; simp [h2], ?_, ?_, ((e1.trans (Evl.Ex.new hq)).mut hD)⟩
      · refine List.nodup_append.mpr ⟨h3, by simp, fun a ha b hb e => ?_⟩
        rw [List.mem_singleton] at hb
        rw [e, hb] at ha
        exact absurd (h4 q ha).1 (by rw [hq]; intro z; cases z)
      · intro a ha
        rcases List.mem_append.mp ha with ha | ha
        · obtain ⟨g1, g2, g3⟩ := h4 a ha
          exact ⟨by rw [upd_ne g3, upd_ne (ne_of_none g1 hq)]; exact g1, g2, g3⟩
        · rw [List.mem_singleton] at ha
          subst ha
          exact ⟨by rw [upd_ne Dq.symm, upd_same], qH, Dq.symm⟩
    · rintro H1 ⟨as, h1, h2, h3, h4, e1⟩
      have f1 := Evl.ex_t e1 s1
      walk_at "rd"
      refine ⟨wb, rfl, ⟨ws, Evl.ex_t e1 s2⟩, ?_⟩
      have l3 := dpAll_get s3
      rw [List.length_map] at l3
      refine for_it (walk_tup (xs := ws)) (fun i σ' H' => ∃ x2 x3 : Option V, σ' = [some (.ref wa), some (.ref D), x2, x3, none, none] ∧ H' D = some (.lst (as.map V.ref)) ∧ (∀ (j : Nat) (a : Addr), as[j]? = some a → H' a = some (.lst ((nbr (ties.take i) (j : Int)).map V.int))) ∧ Evl.Ex H H') ?_ ?_ ?_ ?_
      · exact ⟨none, none, rfl, h1, fun j a ha => (h4 a (List.mem_of_getElem? ha)).1, e1⟩
      · rintro i σ' H' _ ⟨_, _, _, _, _, e2⟩
        exact Evl.ex_t e2 s2
      · rintro i v σ' H2 H3 hi ⟨x2, x3, rfl, g1, g2, e2⟩ ⟨rfl, ey⟩
        obtain ⟨d, d1, d2⟩ := l3.2 i v ey
        rw [List.getElem?_map] at d1
        cases et : ties[i]? with
        | none => rw [et] at d1; cases d1
        | some t =>
          rw [et] at d1
          cases d1
          obtain ⟨ta, rfl, st⟩ := tieD_at (Dp.ex e2 _ _ d2)
          have ht := W.ok t (List.mem_of_getElem? et)
          have sD : SqL K H3 D (as.map V.ref) := SqL.of g1
          have lx : t.1.toNat < as.length := by omega
          have ly : t.2.toNat < as.length := by omega
          have ex := List.getElem?_eq_getElem lx
          have ey := List.getElem?_eq_getElem ly
          have ax : atI (as.map V.ref) t.1 = some (.ref as[t.1.toNat]) := atI_of ht.1 (by rw [List.getElem?_map, ex]; rfl)
          have ay : atI (as.map V.ref) t.2 = some (.ref as[t.2.toNat]) := atI_of (by omega) (by rw [List.getElem?_map, ey]; rfl)
          have nxy : as[t.1.toNat] ≠ as[t.2.toNat] := fun q => by
            have := nd_ix' h3 ex (q ▸ ey)
            omega
          have nxD := (h4 _ (List.getElem_mem lx)).2
          have nyD := (h4 _ (List.getElem_mem ly)).2
          have px := g2 _ _ ex
          have py := g2 _ _ ey
          have tk : ties.take (i + 1) = ties.take i ++ [t] := by rw [List.take_add_one, et]; rfl
          have nl : ∀ h : Int, (nbr (ties.take i) h).length ≤ 3600 := fun h => by
            have := List.length_filterMap_le (oth h) (ties.take i)
            have := ties_len W
            rw [List.length_take] at *
            unfold nbr
            omega
          walk_at "rd"
          refine ⟨tyL (SqL.of px), ?_⟩
          walk_at "rd"
          refine r_app px (by rw [List.length_map]; have := nl ((t.1.toNat : Nat) : Int); omega) ?_
          generalize hH4 : upd H3 as[t.1.toNat] _ = H4
          have g1' : H4 D = some (.lst (as.map V.ref)) := by rw [← hH4, upd_ne nxD.2.symm]; exact g1
          have sD' : SqL K H4 D (as.map V.ref) := SqL.of g1'
          have py' : H4 as[t.2.toNat] = some (.lst ((nbr (ties.take i) ((t.2.toNat : Nat) : Int)).map V.int)) := by rw [← hH4, upd_ne nxy.symm]; exact py
          walk_at "rd"
          refine ⟨tyL (SqL.of py'), ?_⟩
          walk_at "rd"
          refine r_app py' (by rw [List.length_map]; have := nl ((t.2.toNat : Nat) : Int); omega) ?_
          refine ⟨_, _, rfl, ?_, ?_, ?_⟩
          · rw [upd_ne nyD.2.symm]
            exact g1'
          · intro j a ha
            rw [tk, nbr_snoc]
            by_cases q1 : j = t.1.toNat
            · subst q1
              rw [ex] at ha
              cases ha
              rw [upd_ne nxy, ← hH4, upd_same, show oth ((t.1.toNat : Nat) : Int) t = some t.2 by unfold oth; rw [if_pos (by omega)], List.map_append]
              rfl
            · by_cases q2 : j = t.2.toNat
              · subst q2
                rw [ey] at ha
                cases ha
                rw [upd_same, show oth ((t.2.toNat : Nat) : Int) t = some t.1 by unfold oth; rw [if_neg (by omega), if_pos (by omega)], List.map_append]
                rfl
              · have na1 : a ≠ as[t.1.toNat] := fun q => q1 (nd_ix' h3 ha (q ▸ ex))
                have na2 : a ≠ as[t.2.toNat] := fun q => q2 (nd_ix' h3 ha (q ▸ ey))
                rw [upd_ne na2, ← hH4, upd_ne na1, g2 j a ha, show oth (j : Int) t = none by unfold oth; rw [if_neg (by omega), if_neg (by omega)]]
                simp
          · rw [← hH4]
            exact (e2.mut nxD.1).mut nyD.1
      · rintro σ' H2 ⟨x2, x3, rfl, g1, g2, e2⟩
        rw [List.take_of_length_le (by omega)] at g2
        walk_at "rd"
        refine ⟨D, rfl, ⟨_, SqL.of g1⟩, fun F hF => ?_⟩
        have FD : F ≠ D := (ne_of_none g1 hF).symm
        have FH := Evl.fresh_back e2 hF
        refine lc_it (walk_list (xs := as.map V.ref)) (fun i H' => ∃ bs : List Addr, H' F = some (.lst (bs.map V.ref)) ∧ bs.length = i ∧ (∀ (j : Nat) (b : Addr), bs[j]? = some b → H' b = some (.lst ((nbr ties (j : Int)).map V.int)) ∧ b ≠ F) ∧ Evl.Ex H2 H') ?_ ?_ ?_ ?_
        · exact ⟨[], upd_same, rfl, (fun j b hb => by simp at hb), Evl.Ex.new hF⟩
        · rintro i H' _ ⟨_, _, _, _, e⟩
          exact SqL.of (e _ _ g1)
        · rintro i v H3 H4 hi ⟨bs, h1', h2', h3', e3⟩ ⟨rfl, ey⟩
          rw [List.getElem?_map] at ey
          cases ea : as[i]? with
          | none => rw [ea] at ey; cases ey
          | some a =>
            rw [ea] at ey
            cases ey
            have ga := e3 _ _ (g2 i a ea)
            rw [List.length_map] at hi
            walk_at "rd"
            refine ⟨rfl, ?_⟩
            walk_at "rd"
            refine ⟨a, _, rfl, SqL.of ga, fun ns q pm so hq => ?_⟩
            have en : ns = nbr ties (i : Int) := sort_same pm so (sort_of_lt (nbr_up W _))
            subst en
            have Fq : F ≠ q := ne_of_none h1' hq
            refine ⟨bs.map V.ref, by rw [upd_ne Fq]; exact h1', Evl.sz_lt (by rw [List.length_map]; omega), bs ++ [q], by rw [upd_same, List.map_append]; rfl, by rw [List.length_append]; simp [h2'], ?_, (e3.trans (Evl.Ex.new hq)).mut hF⟩
            intro j b hb
            by_cases hj : j < bs.length
            · rw [List.getElem?_append_left hj] at hb
              obtain ⟨z1, z2⟩ := h3' j b hb
              exact ⟨by rw [upd_ne z2, upd_ne (ne_of_none z1 hq)]; exact z1, z2⟩
            · rw [List.getElem?_append_right (by omega)] at hb
              have : j - bs.length = 0 := by
                cases e0 : j - bs.length with
                | zero => rfl
                | succ n => rw [e0] at hb; simp at hb
              rw [this] at hb
              cases hb
              have ej : j = i := by omega
              subst ej
              exact ⟨by rw [upd_ne Fq.symm, upd_same], Fq.symm⟩
        · rintro H3 ⟨bs, h1', h2', h3', e3⟩
          rw [List.length_map] at h2'
          exact k _ _ (e2.trans e3) ⟨F, bs, rfl, h1', by omega, fun j b hb => (h3' j b hb).1⟩

end



section
variable {P : Program} {w : World} {K : PySem.W.Frag} {mg : Str → Option Value} {base : Heap}

def sp_within (K : PySem.W.Frag) : Sp := fun vs H Q _ => ∃ (v u : V) (many : Int) (ties : List (Int × Int)) (some' : List Int), vs = [v, u] ∧ Dp K H v (webD many ties) ∧ WebOk many ties ∧ Dp K H u (intsD some') ∧ some'.length ≤ 1000 ∧
  ∀ (x : V) (H' : Hp), Evl.Ex H H' → Dp K H' x (tieO (firstTie ties some')) → Q x H'
theorem ok_within (T : Env K mg) : FnOk P w K mg base CX0 1 T.a_tie_within T.fd_tie_within ["web", "some"] (sp_within K) := by
  have nd := sc_tie_within.nd
  refine T.F_tie_within.ok sc_tie_within (fun vs H Q E h => ?_) (fun cdv A outer s H vs Q E hr h => ?_)
  · obtain ⟨v, u, a, t, b, rfl, _⟩ := h
    rfl
  · obtain ⟨v, u, many, ties, sm, rfl, hv, W, hu, hl, k⟩ := h
    obtain ⟨wa, wb, ws, rfl, s1, s2, s3⟩ := webD_at hv
    obtain ⟨ua, rfl, s4⟩ := intsD_at hu
    refine ⟨_, (pss_cons (ps_set (i := 2) nd rfl (.inl rfl) (pe_callTy (cr_setL rfl) (by rfl) T.n_set (by decide +kernel) (pa_cons (pv 1) pa_nil)))
      (pss_cons (ps_for PassesOwn.never rfl (pi_tup (pe_ix ix_tup (pv 0) pe_int (fun _ _ => rfl))) (pg_tup rfl (pgs_cons (pg_name (i := 3) nd rfl (.inl rfl)) (pgs_cons (pg_name (i := 4) nd rfl (.inl rfl)) pgs_nil))) (pss_one (ps_if (PW.pt (pw_and (pt_cmpR or_sin (pv 3) (pv 2) rfl) (pw_and1 (pt_cmpR or_sin (pv 4) (pv 2) rfl)))) (pss_one (ps_ret (pe_tup (pa_cons (pv 3) (pa_cons (pv 4) pa_nil))))) pss_nil)))
      (pss_one (ps_ret pe_non)))), ?_⟩
    walk_at "rd"
    refine r_setLst (w := w) s4 hl fun q n hq hn => ?_
    have e1 : Evl.Ex H (upd H q (SetO w q (fun j => decide (j ∈ sm)) n)) := Evl.Ex.new hq
    have hS : (upd H q (SetO w q (fun j => decide (j ∈ sm)) n)) q = some (SetO w q (fun j => decide (j ∈ sm)) n) := upd_same
    have f1 := Evl.ex_t e1 s1
    generalize upd H q (SetO w q (fun j => decide (j ∈ sm)) n) = H1 at *
    walk_at "rd"
    refine ⟨wb, rfl, ⟨ws, Evl.ex_t e1 s2⟩, ?_⟩
    have l3 := dpAll_get s3
    rw [List.length_map] at l3
    refine for_it (walk_tup (xs := ws)) (fun i σ' H' => ∃ x3 x4 : Option V, σ' = [some (.ref wa), some (.ref ua), some (.ref q), x3, x4] ∧ (∀ t ∈ ties.take i, tieIn sm t = false) ∧ Evl.Ex H1 H') ?_ ?_ ?_ ?_
    · exact ⟨none, none, rfl, (fun t ht => by simp at ht), Evl.Ex.refl _⟩
    · rintro i σ' H' _ ⟨_, _, _, _, e2⟩
      exact Evl.ex_t (e1.trans e2) s2
    · rintro i v σ' H2 H3 hi ⟨x3, x4, rfl, g1, e2⟩ ⟨rfl, ey⟩
      obtain ⟨d, d1, d2⟩ := l3.2 i v ey
      rw [List.getElem?_map] at d1
      cases et : ties[i]? with
      | none => rw [et] at d1; cases d1
      | some t =>
        rw [et] at d1
        cases d1
        obtain ⟨ta, rfl, st⟩ := tieD_at (Dp.ex (e1.trans e2) _ _ d2)
        have hS3 := e2 _ _ hS
        walk_at "rd"
        refine iteB (fun c1 => ?_) (fun c1 => ?_)
        · walk_at "rd"
          refine iteB (fun c2 => ?_) (fun c2 => ?_)
          · walk_at "rd"
            refine ⟨(by show 2 ≤ sizeLine; decide), fun f hf => ?_⟩
            refine k _ _ ((e1.trans e2).trans (Evl.Ex.new hf)) ?_
            rw [show firstTie ties sm = some t from find_take _ ties i g1 t et (by unfold tieIn; rw [c1, c2]; rfl)]
            exact .tup (SqT.of upd_same) (.cons (.int _) (.cons (.int _) .nil))
          · walk_at "rd"
            refine ⟨_, _, rfl, ?_, e2⟩
            rw [take_snoc et]
            intro t' ht'
            rcases List.mem_append.mp ht' with h' | h'
            · exact g1 t' h'
            · rw [List.mem_singleton.mp h']
              unfold tieIn
              rw [c2, Bool.and_false]
        · walk_at "rd"
          refine ⟨_, _, rfl, ?_, e2⟩
          rw [take_snoc et]
          intro t' ht'
          rcases List.mem_append.mp ht' with h' | h'
          · exact g1 t' h'
          · rw [List.mem_singleton.mp h']
            unfold tieIn
            rw [c1, Bool.false_and]
    · rintro σ' H2 ⟨x3, x4, rfl, g1, e2⟩
      rw [List.take_of_length_le (by omega)] at g1
      walk_at "rd"
      refine k _ _ (e1.trans e2) ?_
      rw [show firstTie ties sm = none from find_none _ ties g1]
      exact .non

end



section
variable {P : Program} {w : World} {K : PySem.W.Frag} {mg : Str → Option Value} {base : Heap}

def sp_bare (K : PySem.W.Frag) : Sp := fun vs H Q _ => ∃ (v u : V) (many : Int) (ties : List (Int × Int)) (some' : List Int), vs = [v, u] ∧ Dp K H v (webD many ties) ∧ WebOk many ties ∧ Dp K H u (intsD some') ∧ SetOk many some' ∧
  ∀ (x : V) (H' : Hp), Evl.Ex H H' → Dp K H' x (intO (firstBare many ties some')) → Q x H'
/-- the covered ones so far: a set of few -/
def CovAt (w : World) (H : Hp) (q : Addr) (many : Int) (S : Int → Bool) : Prop := ∃ (n : Nat) (L : List Int), H q = some (SetO w q S n) ∧ n ≤ L.length ∧ L.Nodup ∧ (∀ k, S k = true ↔ k ∈ L) ∧ (∀ k ∈ L, 0 ≤ k ∧ k < many)
theorem r_addC {w : World} {H : Hp} {q : Addr} {many : Int} {S : Int → Bool} {k : Int} {Q : VK} (h : CovAt w H q many S) (h60 : many ≤ 60) (hk : 0 ≤ k ∧ k < many)
    (z : ∀ o, CovAt w (upd H q o) q many (fun j => S j || decide (j = k)) → Q .non (upd H q o)) : rSAdd w (.ref q) [.int k] H Q := by
  obtain ⟨n, L, h1, h2, h3, h4, h5⟩ := h
  have hl := len_le_of_sub (l := L) (m := rgI many) h3 fun x hx => rgI_mem.mpr (h5 x hx)
  rw [rgI_len] at hl
  refine ⟨q, k, S, n, rfl, rfl, h1, (by show n + 1 < 4096; omega), z _ ?_⟩
  by_cases hs : S k = true
  · have e : (fun j => S j || decide (j = k)) = S := by
      funext j
      by_cases ej : j = k
      · subst ej; simp [hs]
      · simp [ej]
    rw [if_pos hs, e]
    exact ⟨n, L, upd_same, h2, h3, h4, h5⟩
  · rw [if_neg hs]
    refine ⟨n + 1, L ++ [k], upd_same, by rw [List.length_append]; simp; omega, ?_, fun j => ?_, fun j hj => ?_⟩
    · refine List.nodup_append.mpr ⟨h3, by simp, fun a ha b hb e => ?_⟩
      rw [List.mem_singleton] at hb
      subst e hb
      exact hs ((h4 a).mpr ha)
    · rw [Bool.or_eq_true, decide_eq_true_eq, h4, List.mem_append, List.mem_singleton]
    · rcases List.mem_append.mp hj with hj | hj
      · exact h5 j hj
      · rw [List.mem_singleton.mp hj]
        exact hk
theorem ok_bare (T : Env K mg) : FnOk P w K mg base CX0 1 T.a_first_bare T.fd_first_bare ["web", "some"] (sp_bare K) := by
  have nd := sc_first_bare.nd
  refine T.F_first_bare.ok sc_first_bare (fun vs H Q E h => ?_) (fun cdv A outer s H vs Q E hr h => ?_)
  · obtain ⟨v, u, a, t, b, rfl, _⟩ := h
    rfl
  · obtain ⟨v, u, many, ties, sm, rfl, hv, W, hu, hok, k⟩ := h
    obtain ⟨wa, wb, ws, rfl, s1, s2, s3⟩ := webD_at hv
    obtain ⟨ua, rfl, s4⟩ := intsD_at hu
    have w1 := W.lo
    have w2 := W.hi
    have hl := hok.len w2
    refine ⟨_, (pss_cons (ps_set (i := 2) nd rfl (.inl rfl) (pe_callTy (cr_setL rfl) (by rfl) T.n_set (by decide +kernel) (pa_cons (pv 1) pa_nil)))
      (pss_cons (ps_set (i := 3) nd rfl (.inl rfl) (pe_callTy (cr_setL rfl) (by rfl) T.n_set (by decide +kernel) (pa_cons (pv 1) pa_nil)))
      (pss_cons (ps_for PassesOwn.never rfl (pi_tup (pe_ix ix_tup (pv 0) pe_int (fun _ _ => rfl))) (pg_tup rfl (pgs_cons (pg_name (i := 4) nd rfl (.inl rfl)) (pgs_cons (pg_name (i := 5) nd rfl (.inl rfl)) pgs_nil))) (Evl.pss_cut (ps_if (pt_cmpR or_sin (pv 4) (pv 2) rfl) (pss_one (ps_expr (pe_sadd (pv 3) (pa_cons (pv 5) pa_nil)))) pss_nil)
      (pss_one (ps_if (pt_cmpR or_sin (pv 5) (pv 2) rfl) (pss_one (ps_expr (pe_sadd (pv 3) (pa_cons (pv 4) pa_nil)))) pss_nil))))
      (pss_cons (ps_for PassesOwn.never rfl (pi_range1 (by rfl) T.n_range (pa_cons (pe_ix ix_tup (pv 0) pe_int (fun _ _ => rfl)) pa_nil)) (pg_name (i := 6) nd rfl (.inl rfl)) (pss_one (ps_if (pt_cmpR or_snotin (pv 6) (pv 3) rfl) (pss_one (ps_ret (pv 6))) pss_nil)))
      (pss_one (ps_ret pe_non)))))), ?_⟩
    walk_at "rd"
    refine r_setLst (w := w) s4 (by omega) fun q n hq hn => ?_
    have e1 : Evl.Ex H (upd H q (SetO w q (fun j => decide (j ∈ sm)) n)) := Evl.Ex.new hq
    have hS : (upd H q (SetO w q (fun j => decide (j ∈ sm)) n)) q = some (SetO w q (fun j => decide (j ∈ sm)) n) := upd_same
    generalize upd H q (SetO w q (fun j => decide (j ∈ sm)) n) = H1 at *
    walk_at "rd"
    refine r_setLst (w := w) (Evl.ex_l e1 s4) (by omega) fun c m hc hm => ?_
    have e2 := e1.trans (Evl.Ex.new (o := SetO w c (fun j => decide (j ∈ sm)) m) hc)
    have cq : c ≠ q := (ne_of_none hS hc).symm
    have hcH := Evl.fresh_back e1 hc
    have hS2 : (upd H1 c (SetO w c (fun j => decide (j ∈ sm)) m)) q = some (SetO w q (fun j => decide (j ∈ sm)) n) := by rw [upd_ne cq.symm]; exact hS
    have hC2 : (upd H1 c (SetO w c (fun j => decide (j ∈ sm)) m)) c = some (SetO w c (fun j => decide (j ∈ sm)) m) := upd_same
    have f1 := Evl.ex_t e2 s1
    generalize upd H1 c (SetO w c (fun j => decide (j ∈ sm)) m) = H2 at *
    walk_at "rd"
    refine ⟨wb, rfl, ⟨ws, Evl.ex_t e2 s2⟩, ?_⟩
    have l3 := dpAll_get s3
    rw [List.length_map] at l3
    have C0 : CovAt w H2 c many (fun j => decide (j ∈ sm)) := ⟨m, sm, hC2, hm, hok.nd, fun k => by simp, hok.ok⟩
    refine for_it (walk_tup (xs := ws)) (fun i σ' H' => ∃ (x4 x5 : Option V) (S : Int → Bool), σ' = [some (.ref wa), some (.ref ua), some (.ref q), some (.ref c), x4, x5, none] ∧ CovAt w H' c many S ∧ (∀ k, S k = true ↔ (k ∈ sm ∨ ∃ t ∈ ties.take i, (t.1 ∈ sm ∧ k = t.2) ∨ (t.2 ∈ sm ∧ k = t.1))) ∧ H' q = some (SetO w q (fun j => decide (j ∈ sm)) n) ∧ Evl.Ex H H') ?_ ?_ ?_ ?_
    · exact ⟨none, none, _, rfl, C0, fun k => by simp, hS2, e2⟩
    · rintro i σ' H' _ ⟨_, _, _, _, _, _, _, e3⟩
      exact Evl.ex_t e3 s2
    · rintro i v σ' H3 H4 hi ⟨x4, x5, S, rfl, C, hSk, hq3, e3⟩ ⟨rfl, ey⟩
      obtain ⟨d, d1, d2⟩ := l3.2 i v ey
      rw [List.getElem?_map] at d1
      cases et : ties[i]? with
      | none => rw [et] at d1; cases d1
      | some t =>
        rw [et] at d1
        cases d1
        obtain ⟨ta, rfl, st⟩ := tieD_at (Dp.ex e3 _ _ d2)
        have ht := W.ok t (List.mem_of_getElem? et)
        have tk := take_snoc et
        walk_at "rd"
        refine ⟨fun σ' H' => ∃ S' : Int → Bool, σ' = [some (.ref wa), some (.ref ua), some (.ref q), some (.ref c), some (.int t.1), some (.int t.2), none] ∧ CovAt w H' c many S' ∧ (∀ k, S' k = true ↔ (S k = true ∨ (t.1 ∈ sm ∧ k = t.2))) ∧ H' q = some (SetO w q (fun j => decide (j ∈ sm)) n) ∧ Evl.Ex H H', ?_, ?_⟩
        · walk_at "rd"
          refine iteB (fun c1 => ?_) (fun c1 => ?_)
          · have c1 := of_decide_eq_true c1
            walk_at "rd"
            obtain ⟨n1, L1, z1, _⟩ := id C
            refine ⟨⟨c, S, n1, rfl, z1⟩, ?_⟩
            walk_at "rd"
            refine r_addC C w2 (by omega) fun o C' => ?_
            refine ⟨_, rfl, C', fun k => ?_, by rw [upd_ne cq.symm]; exact hq3, e3.mut hcH⟩
            simp only [Bool.or_eq_true, decide_eq_true_eq]
            exact ⟨fun z => z.elim .inl fun z => .inr ⟨c1, z⟩, fun z => z.elim .inl fun z => .inr z.2⟩
          · have c1 := of_decide_eq_false c1
            walk_at "rd"
            exact ⟨S, rfl, C, fun k => ⟨.inl, fun z => z.elim id fun z => absurd z.1 c1⟩, hq3, e3⟩
        · rintro σ' H' ⟨S', rfl, C', hS', hq', e'⟩
          walk_at "rd"
          refine iteB (fun c1 => ?_) (fun c1 => ?_)
          · have c1 := of_decide_eq_true c1
            walk_at "rd"
            obtain ⟨n1, L1, z1, _⟩ := id C'
            refine ⟨⟨c, S', n1, rfl, z1⟩, ?_⟩
            walk_at "rd"
            refine r_addC C' w2 (by omega) fun o C2 => ?_
            refine ⟨_, _, _, rfl, C2, fun k => ?_, by rw [upd_ne cq.symm]; exact hq', e'.mut hcH⟩
            simp only [Bool.or_eq_true, decide_eq_true_eq]
            rw [hS', hSk, tk]
            constructor
            · rintro (((z | ⟨t', h1, h2⟩) | z) | z)
              · exact .inl z
              · exact .inr ⟨t', List.mem_append.mpr (.inl h1), h2⟩
              · exact .inr ⟨t, by simp, .inl z⟩
              · exact .inr ⟨t, by simp, .inr ⟨c1, z⟩⟩
            · rintro (z | ⟨t', h1, h2⟩)
              · exact .inl (.inl (.inl z))
              · rcases List.mem_append.mp h1 with h1 | h1
                · exact .inl (.inl (.inr ⟨t', h1, h2⟩))
                · rw [List.mem_singleton.mp h1] at h2
                  rcases h2 with h2 | h2
                  · exact .inl (.inr h2)
                  · exact .inr h2.2
          · have c1 := of_decide_eq_false c1
            walk_at "rd"
            refine ⟨_, _, _, rfl, C', fun k => ?_, hq', e'⟩
            rw [hS', hSk, tk]
            constructor
            · rintro ((z | ⟨t', h1, h2⟩) | z)
              · exact .inl z
              · exact .inr ⟨t', List.mem_append.mpr (.inl h1), h2⟩
              · exact .inr ⟨t, by simp, .inl z⟩
            · rintro (z | ⟨t', h1, h2⟩)
              · exact .inl (.inl z)
              · rcases List.mem_append.mp h1 with h1 | h1
                · exact .inl (.inr ⟨t', h1, h2⟩)
                · rw [List.mem_singleton.mp h1] at h2
                  rcases h2 with h2 | h2
                  · exact .inr h2
                  · exact absurd h2.1 c1
    · rintro σ' H3 ⟨x4, x5, S, rfl, C, hSk, hq3, e3⟩
      rw [List.take_of_length_le (by omega)] at hSk
      have hcov : ∀ k, S k = cov ties sm k := fun k => by
        have : S k = true ↔ cov ties sm k = true := by rw [hSk, cov_iff W]
        cases e1 : S k <;> cases e2 : cov ties sm k <;> simp_all
      obtain ⟨n1, L1, z1, _⟩ := id C
      have f3 := Evl.ex_t e3 s1
      walk_at "rd"
      refine ⟨many, rfl, by omega, by omega, ?_⟩
      refine for_it walk_range (fun i σ' H' => ∃ (x6 : Option V), σ' = [some (.ref wa), some (.ref ua), some (.ref q), some (.ref c), x4, x5, x6] ∧ (∀ h ∈ (rgI many).take i, (!cov ties sm h) = false) ∧ H' = H3) ?_ ?_ ?_ ?_
      · exact ⟨none, rfl, (fun t ht => by simp at ht), rfl⟩
      · intro _ _ _ _ _
        trivial
      · rintro i v σ' H4 H5 hi ⟨x6, rfl, g1, rfl⟩ ⟨rfl, rfl⟩
        have gi : (rgI many)[i]? = some (i : Int) := rgI_get (by omega)
        walk_at "rd"
        rw [show S (0 + (i : Int)) = cov ties sm (i : Int) by rw [hcov, Int.zero_add]]
        refine iteB (fun c1 => ?_) (fun c1 => ?_)
        · walk_at "rd"
          refine k _ _ e3 ?_
          rw [show firstBare many ties sm = some (i : Int) from find_take _ _ i g1 _ gi c1]
          show Dp K H5 (V.int (0 + (i : Int))) (PyData.int (i : Int))
          rw [Int.zero_add]
          exact .int _
        · walk_at "rd"
          refine ⟨_, rfl, ?_, rfl⟩
          rw [take_snoc gi]
          intro t' ht'
          rcases List.mem_append.mp ht' with h' | h'
          · exact g1 t' h'
          · rw [List.mem_singleton.mp h']
            exact c1
      · rintro σ' H4 ⟨x6, rfl, g1, rfl⟩
        rw [List.take_of_length_le (by rw [rgI_len]; omega)] at g1
        walk_at "rd"
        refine k _ _ e3 ?_
        rw [show firstBare many ties sm = none from find_none _ _ g1]
        exact .non

end



section
variable {P : Program} {w : World} {K : PySem.W.Frag} {mg : Str → Option Value} {base : Heap}

def sp_apart (K : PySem.W.Frag) : Sp := fun vs H Q _ => ∃ (v u : V) (many : Int) (ties : List (Int × Int)) (some' : List Int), vs = [v, u] ∧ Dp K H v (webD many ties) ∧ WebOk many ties ∧ Dp K H u (intsD some') ∧ SetOk many some' ∧
  ∀ (H' : Hp), Evl.Ex H H' → Q (.bl (firstTie ties some').isNone) H'
theorem ok_apart (T : Env K mg) : FnOk P w K mg base CX0 2 T.a_is_apart T.fd_is_apart ["web", "some"] (sp_apart K) := by
  have nd := sc_is_apart.nd
  have G_tie_within : FnOk P w K mg base CX0 1 T.a_tie_within T.fd_tie_within ["web", "some"] (sp_within K) := ok_within T
  refine T.F_is_apart.ok sc_is_apart (fun vs H Q E h => ?_) (fun cdv A outer s H vs Q E hr h => ?_)
  · obtain ⟨v, u, a, t, b, rfl, _⟩ := h
    rfl
  · obtain ⟨v, u, many, ties, sm, rfl, hv, W, hu, hok, k⟩ := h
    have hl := hok.len W.hi
    refine ⟨_, (pss_one (ps_ret (pe_cmpR op_isN (pe_call G_tie_within (hr.mono (by decide)) (by rfl) T.g_tie_within T.F_tie_within.kp T.b_tie_within .nil pass0 (pa_cons (pv 0) (pa_cons (pv 1) pa_nil))) pe_non (nomark _)))), ?_⟩
    walk_at "rd"
    refine ⟨v, u, many, ties, sm, rfl, hv, W, hu, by omega, fun x H1 e1 d1 => ?_⟩
    walk_at "rd"
    cases e : firstTie ties sm with
    | none =>
      rw [e] at d1 k
      cases d1
      exact k _ e1
    | some t =>
      rw [e] at d1 k
      obtain ⟨a, rfl, _⟩ := tieD_at d1
      exact k _ e1
def sp_full (K : PySem.W.Frag) : Sp := fun vs H Q _ => ∃ (v u : V) (many : Int) (ties : List (Int × Int)) (some' : List Int), vs = [v, u] ∧ Dp K H v (webD many ties) ∧ WebOk many ties ∧ Dp K H u (intsD some') ∧ SetOk many some' ∧
  ∀ (H' : Hp), Evl.Ex H H' → Q (.bl (firstBare many ties some').isNone) H'
theorem ok_full (T : Env K mg) : FnOk P w K mg base CX0 2 T.a_is_full T.fd_is_full ["web", "some"] (sp_full K) := by
  have nd := sc_is_full.nd
  have G_first_bare : FnOk P w K mg base CX0 1 T.a_first_bare T.fd_first_bare ["web", "some"] (sp_bare K) := ok_bare T
  refine T.F_is_full.ok sc_is_full (fun vs H Q E h => ?_) (fun cdv A outer s H vs Q E hr h => ?_)
  · obtain ⟨v, u, a, t, b, rfl, _⟩ := h
    rfl
  · obtain ⟨v, u, many, ties, sm, rfl, hv, W, hu, hok, k⟩ := h
    refine ⟨_, (pss_one (ps_ret (pe_cmpR op_isN (pe_call G_first_bare (hr.mono (by decide)) (by rfl) T.g_first_bare T.F_first_bare.kp T.b_first_bare .nil pass0 (pa_cons (pv 0) (pa_cons (pv 1) pa_nil))) pe_non (nomark _)))), ?_⟩
    walk_at "rd"
    refine ⟨v, u, many, ties, sm, rfl, hv, W, hu, hok, fun x H1 e1 d1 => ?_⟩
    walk_at "rd"
    cases e : firstBare many ties sm with
    | none =>
      rw [e] at d1 k
      cases d1
      exact k _ e1
    | some t =>
      rw [e] at d1 k
      cases d1
      exact k _ e1
def sp_lacks (K : PySem.W.Frag) : Sp := fun vs H Q _ => ∃ (v u : V) (many : Int) (ties : List (Int × Int)) (some' : List Int), vs = [v, u] ∧ Dp K H v (webD many ties) ∧ WebOk many ties ∧ Dp K H u (intsD some') ∧ SetOk many some' ∧
  ∀ (x : V) (H' : Hp), Evl.Ex H H' → Dp K H' x (lacksD many ties some') → Q x H'
theorem ok_lacks_of (T : Env K mg) : FnOk P w K mg base CX0 2 T.a_lacks_of T.fd_lacks_of ["web", "some"] (sp_lacks K) := by
  have nd := sc_lacks_of.nd
  have G_tie_within : FnOk P w K mg base CX0 1 T.a_tie_within T.fd_tie_within ["web", "some"] (sp_within K) := ok_within T
  have G_first_bare : FnOk P w K mg base CX0 1 T.a_first_bare T.fd_first_bare ["web", "some"] (sp_bare K) := ok_bare T
  refine T.F_lacks_of.ok sc_lacks_of (fun vs H Q E h => ?_) (fun cdv A outer s H vs Q E hr h => ?_)
  · obtain ⟨v, u, a, t, b, rfl, _⟩ := h
    rfl
  · obtain ⟨v, u, many, ties, sm, rfl, hv, W, hu, hok, k⟩ := h
    have hl := hok.len W.hi
    unfold lacksD at k
    refine ⟨_, (pss_cons (ps_set (i := 2) nd rfl (.inl rfl) (pe_call G_tie_within (hr.mono (by decide)) (by rfl) T.g_tie_within T.F_tie_within.kp T.b_tie_within .nil pass0 (pa_cons (pv 0) (pa_cons (pv 1) pa_nil))))
      (pss_cons (ps_if (pt_cmpR op_notN (pv 2) pe_non (nomark _)) (pss_one (ps_ret (pe_tup (pa_cons pe_str (pa_cons (pe_ix ix_tup (pv 2) pe_int (fun _ _ => rfl)) (pa_cons (pe_ix ix_tup (pv 2) pe_int (fun _ _ => rfl)) pa_nil)))))) pss_nil)
      (pss_cons (ps_set (i := 3) nd rfl (.inl rfl) (pe_call G_first_bare (hr.mono (by decide)) (by rfl) T.g_first_bare T.F_first_bare.kp T.b_first_bare .nil pass0 (pa_cons (pv 0) (pa_cons (pv 1) pa_nil))))
      (pss_cons (ps_if (pt_cmpR op_notN (pv 3) pe_non (nomark _)) (pss_one (ps_ret (pe_tup (pa_cons pe_str (pa_cons (pv 3) pa_nil))))) pss_nil)
      (pss_one (ps_ret pe_non)))))), ?_⟩
    walk_at "rd"
    refine ⟨v, u, many, ties, sm, rfl, hv, W, hu, by omega, fun x H1 e1 d1 => ?_⟩
    cases e : firstTie ties sm with
    | none =>
      rw [e] at d1 k
      cases d1
      walk_at "rd"
      refine ⟨v, u, many, ties, sm, rfl, Dp.ex e1 _ _ hv, W, Dp.ex e1 _ _ hu, hok, fun x H2 e2 d2 => ?_⟩
      simp only at k
      cases e' : firstBare many ties sm with
      | none =>
        rw [e'] at d2 k
        cases d2
        walk_at "rd"
        exact k _ _ (e1.trans e2) .non
      | some t =>
        rw [e'] at d2 k
        cases d2
        walk_at "rd"
        refine ⟨(by show 2 ≤ sizeLine; decide), fun f hf => ?_⟩
        exact k _ _ ((e1.trans e2).trans (Evl.Ex.new hf)) (.tup (SqT.of upd_same) (.cons (.str _) (.cons (.int _) .nil)))
    | some t =>
      rw [e] at d1 k
      obtain ⟨a, rfl, st⟩ := tieD_at d1
      walk_at "rd"
      refine ⟨(by show 3 ≤ sizeLine; decide), fun f hf => ?_⟩
      exact k _ _ (e1.trans (Evl.Ex.new hf)) (.tup (SqT.of upd_same) (.cons (.str _) (.cons (.int _) (.cons (.int _) .nil))))

end



section
variable {P : Program} {w : World} {K : PySem.W.Frag} {mg : Str → Option Value} {base : Heap}

def sp_llacks (K : PySem.W.Frag) : Sp := fun vs H Q _ => ∃ (v z u : V) (many : Int) (ties : List (Int × Int)) (some' : List Int), vs = [v, z, u] ∧ Dp K H v (webD many ties) ∧ WebOk many ties ∧ Dp K H z (besD many ties) ∧ Dp K H u (intsD some') ∧
  ∀ (x : V) (H' : Hp), Evl.Ex H H' → Dp K H' x (lacksD many ties some') → Q x H'
theorem ok_llacks (T : Env K mg) : FnOk P w K mg base CX0 1 T.a__law_lacks T.fd__law_lacks ["web", "beside", "some"] (sp_llacks K) := by
  have nd := sc__law_lacks.nd
  refine T.F__law_lacks.ok sc__law_lacks (fun vs H Q E h => ?_) (fun cdv A outer s H vs Q E hr h => ?_)
  · obtain ⟨v, z, u, a, t, b, rfl, _⟩ := h
    rfl
  · obtain ⟨v, z, u, many, ties, sm, rfl, hv, W, hz, hu, k⟩ := h
    obtain ⟨wa, wb, ws, rfl, s1, s2, s3⟩ := webD_at hv
    obtain ⟨ba, bx, rfl, b1, b2, b3⟩ := besD_at hz
    obtain ⟨ua, rfl, s4⟩ := intsD_at hu
    have w1 := W.lo
    have w2 := W.hi
    refine ⟨_, (pss_cons (ps_for PassesOwn.never rfl (pi_tup (pe_ix ix_tup (pv 0) pe_int (fun _ _ => rfl))) (pg_name (i := 3) nd rfl (.inl rfl)) (pss_one (ps_if (PW.pt (pw_and (pt_cmpR op_in_seq (pe_ix ix_tup (pv 3) pe_int (fun _ _ => rfl)) (pv 2) rfl) (pw_and1 (pt_cmpR op_in_seq (pe_ix ix_tup (pv 3) pe_int (fun _ _ => rfl)) (pv 2) rfl)))) (pss_one (ps_ret (pe_tup (pa_cons pe_str (pa_cons (pe_ix ix_tup (pv 3) pe_int (fun _ _ => rfl)) (pa_cons (pe_ix ix_tup (pv 3) pe_int (fun _ _ => rfl)) pa_nil)))))) pss_nil)))
      (pss_cons (ps_for PassesOwn.never rfl (pi_range1 (by rfl) T.n_range (pa_cons (pe_ix ix_tup (pv 0) pe_int (fun _ _ => rfl)) pa_nil)) (pg_name (i := 4) nd rfl (.inl rfl)) (pss_one (ps_if (PW.pt (pw_and (pt_cmpR op_notIn_seq (pv 4) (pv 2) rfl) (pw_and1 (pt_cmpR (op_eqD hr.units) (pe_lc (own := [("other", 5)]) (g := gName 5) (tt := (tTest (tOp (rIn K false) (tVar 5) (tVar 2)))) (te := (tC (.int 1))) rfl nd (pi_list (pe_ix ix_list (pv 1) (pv 4) (fun _ _ => rfl))) (blkOk_by (N := ["web", "beside", "some", "tie", "house", "other"]) (sc := defScope s__law_lacks) (by decide +kernel)) (fun _ _ _ _ _ => (pg_name (i := 5) nd rfl (.inl rfl))) (fun _ _ _ _ _ => pts_one (pt_cmpR op_in_seq (pv 5) (pv 2) rfl)) (fun _ _ _ _ _ => pe_int)) (pe_lst pa_nil) (nomark _))))) (pss_one (ps_ret (pe_tup (pa_cons pe_str (pa_cons (pv 4) pa_nil))))) pss_nil)))
      (pss_one (ps_ret pe_non)))), ?_⟩
    walk_at "rd"
    refine ⟨wb, rfl, ⟨ws, s2⟩, ?_⟩
    have l3 := dpAll_get s3
    rw [List.length_map] at l3
    unfold lacksD at k
    refine for_it (walk_tup (xs := ws)) (fun i σ' H' => ∃ x3 : Option V, σ' = [some (.ref wa), some (.ref ba), some (.ref ua), x3, none, none] ∧ (∀ t ∈ ties.take i, tieIn sm t = false) ∧ H' = H) ?_ ?_ ?_ ?_
    · exact ⟨none, rfl, (fun t ht => by simp at ht), rfl⟩
    · rintro i σ' H' _ ⟨_, _, _, rfl⟩
      exact s2
    · rintro i v σ' H2 H3 hi ⟨x3, rfl, g1, rfl⟩ ⟨rfl, ey⟩
      obtain ⟨d, d1, d2⟩ := l3.2 i v ey
      rw [List.getElem?_map] at d1
      cases et : ties[i]? with
      | none => rw [et] at d1; cases d1
      | some t =>
        rw [et] at d1
        cases d1
        obtain ⟨ta, rfl, st⟩ := tieD_at d2
        walk_at "rd"
        refine iteB (fun c1 => ?_) (fun c1 => ?_)
        · walk_at "rd"
          refine iteB (fun c2 => ?_) (fun c2 => ?_)
          · walk_at "rd"
            refine ⟨(by show 3 ≤ sizeLine; decide), fun f hf => ?_⟩
            rw [show firstTie ties sm = some t from find_take _ ties i g1 t et (by unfold tieIn; rw [c1, c2]; rfl)] at k
            exact k _ _ (Evl.Ex.new hf) (.tup (SqT.of upd_same) (.cons (.str _) (.cons (.int _) (.cons (.int _) .nil))))
          · walk_at "rd"
            refine ⟨_, rfl, ?_, rfl⟩
            rw [take_snoc et]
            intro t' ht'
            rcases List.mem_append.mp ht' with h' | h'
            · exact g1 t' h'
            · rw [List.mem_singleton.mp h']
              unfold tieIn
              rw [c2, Bool.and_false]
        · walk_at "rd"
          refine ⟨_, rfl, ?_, rfl⟩
          rw [take_snoc et]
          intro t' ht'
          rcases List.mem_append.mp ht' with h' | h'
          · exact g1 t' h'
          · rw [List.mem_singleton.mp h']
            unfold tieIn
            rw [c1, Bool.false_and]
    · rintro σ' H2 ⟨x3, rfl, g1, rfl⟩
      rw [List.take_of_length_le (by omega)] at g1
      rw [show firstTie ties sm = none from find_none _ ties g1] at k
      simp only at k
      walk_at "rd"
      refine ⟨many, rfl, by omega, by omega, ?_⟩
      refine for_it walk_range (fun i σ' H' => ∃ (x4 : Option V), σ' = [some (.ref wa), some (.ref ba), some (.ref ua), x3, x4, none] ∧ (∀ h ∈ (rgI many).take i, (!cov ties sm h) = false) ∧ Evl.Ex H2 H') ?_ ?_ ?_ ?_
      · exact ⟨none, rfl, (fun t ht => by simp at ht), Evl.Ex.refl _⟩
      · intro _ _ _ _ _
        trivial
      · rintro i v σ' H4 H5 hi ⟨x6, rfl, g2, e4⟩ ⟨rfl, rfl⟩
        have gi : (rgI many)[i]? = some (i : Int) := rgI_get (by omega)
        have s4' := Evl.ex_l e4 s4
        have b1' := Evl.ex_l e4 b1
        have zi : (0 : Int) + (i : Int) = (i : Int) := Int.zero_add _
        obtain ⟨c, cc1, cc2⟩ := b3 (i : Int) (by omega) (by omega)
        have cc2' := Evl.ex_l e4 cc2
        have step : ∀ (HH : Hp), Evl.Ex H2 HH → (!cov ties sm (i : Int)) = false → ∃ x4, [some (V.ref wa), some (.ref ba), some (.ref ua), x3, some (.int (0 + (i : Int))), none] = [some (V.ref wa), some (.ref ba), some (.ref ua), x3, x4, none] ∧ (∀ h ∈ (rgI many).take (i + 1), (!cov ties sm h) = false) ∧ Evl.Ex H2 HH := fun HH eH c1 => by
          refine ⟨_, rfl, ?_, eH⟩
          rw [take_snoc gi]
          intro t' ht'
          rcases List.mem_append.mp ht' with h' | h'
          · exact g2 t' h'
          · rw [List.mem_singleton.mp h']
            exact c1
        have hcov := cov_not ties sm (i : Int)
        rw [← zi] at cc1
        walk_at "rd"
        refine iteB (fun c1 => ?_) (fun c1 => ?_)
        · rw [zi] at c1
          walk_at "rd"
          refine ⟨c, rfl, ⟨_, cc2'⟩, fun D hD => ?_⟩
          refine lc_pure (f := fun x => decide (x ∈ sm)) (g := fun _ => .int 1) cc2' (by have := nbr_len W (i : Int); omega) hD (fun _ => rfl) (fun x hx H1 e1 QB q => ?_) (fun x hx hf H1 e1 Q q => ?_) (fun H6 e6 h6 => ?_)
          · have s4'' := Evl.ex_l e1 s4'
            walk_at "rd"
            exact q
          · walk_at "rd"
            exact q
          · walk_at "rd"
            refine ⟨Nat.zero_le _, fun q hq => ?_⟩
            have hm : H6 D = some (.lst ((((nbr ties (i : Int)).filter fun x => decide (x ∈ sm)).map fun _ => (1 : Int)).map V.int)) := by rw [h6, List.map_map]; rfl
            have e7 := e6.trans (Evl.Ex.new (o := .lst []) hq)
            refine r_eqNil (SqL.of (by rw [upd_ne (ne_of_none h6 hq)]; exact hm)) (SqL.of upd_same) ?_
            walk_at "rd"
            rw [show ((((nbr ties (i : Int)).filter fun x => decide (x ∈ sm)).map fun _ => (1 : Int))).isEmpty = (((nbr ties (i : Int)).filter fun x => decide (x ∈ sm))).isEmpty from List.isEmpty_map]
            rw [c1, Bool.true_and] at hcov
            rw [← hcov]
            refine iteB (fun c2 => ?_) (fun c2 => ?_)
            · walk_at "rd"
              refine ⟨(by show 2 ≤ sizeLine; decide), fun f hf => ?_⟩
              rw [show firstBare many ties sm = some (i : Int) from find_take _ _ i g2 _ gi c2] at k
              refine k _ _ ((e4.trans e7).trans (Evl.Ex.new hf)) (.tup (SqT.of upd_same) (.cons (.str _) (.cons ?_ .nil)))
              show Dp K _ (V.int (0 + (i : Int))) (PyData.int (i : Int))
              rw [zi]
              exact .int _
            · walk_at "rd"
              exact step _ (e4.trans e7) c2
        · rw [zi] at c1
          walk_at "rd"
          rw [c1, Bool.false_and] at hcov
          exact step _ e4 hcov
      · rintro σ' H4 ⟨x6, rfl, g2, e4⟩
        rw [List.take_of_length_le (by rw [rgI_len]; omega)] at g2
        walk_at "rd"
        rw [show firstBare many ties sm = none from find_none _ _ g2] at k
        exact k _ _ e4 .non

end



section
variable {P : Program} {w : World} {K : PySem.W.Frag} {mg : Str → Option Value} {base : Heap}

def sp_filled (K : PySem.W.Frag) : Sp := fun vs H Q _ => ∃ (p c : Addr) (v : V) (many : Int) (ties : List (Int × Int)), vs = [.ref p, v] ∧ PotC H p c ∧ Dp K H v (webD many ties) ∧ WebOk many ties ∧
  ∀ (a : Addr) (s : List Int) (H' : Hp), PotC H' p c → ExB p H H' → H a = none → H' a = some (.lst (s.map V.int)) → SetOk many s → s ≠ [] → Q (.ref a) H'
theorem ok_filled (T : Env K mg) : FnOk P w K mg base CX0 3 T.a__law_filled T.fd__law_filled ["pot", "web"] (sp_filled K) := by
  have nd := sc__law_filled.nd
  have G__law_pick : FnOk P w K mg base CX0 2 T.a__law_pick T.fd__law_pick ["pot", "upto"] sp_pick := ok_pick T
  have G__law_beside : FnOk P w K mg base CX0 1 T.a__law_beside T.fd__law_beside ["web"] (sp_beside K) := ok_beside T
  refine T.F__law_filled.ok sc__law_filled (fun vs H Q E h => ?_) (fun cdv A outer s H vs Q E hr h => ?_)
  · obtain ⟨p, c, v, a, t, rfl, _⟩ := h
    rfl
  · obtain ⟨p, c, v, many, ties, rfl, hP, hv, W, k⟩ := h
    have w1 := W.lo
    have w2 := W.hi
    refine ⟨_, (pss_cons (ps_set (i := 2) nd rfl (.inl rfl) (pe_call G__law_beside (hr.mono (by decide)) (by rfl) T.g__law_beside T.F__law_beside.kp T.b__law_beside .nil pass0 (pa_cons (pv 1) pa_nil)))
      (pss_cons (ps_set (i := 3) nd rfl (.inl rfl) (pe_listRg rfl (by rfl) T.n_list (prg_1 (by rfl) T.n_range (pe_ix ix_tup (pv 1) pe_int (fun _ _ => rfl)))))
      (pss_cons (ps_set (i := 4) nd rfl (.inr rfl) (pe_lst pa_nil))
      (pss_cons (ps_while PassesOwn.never (pt_cmpR (op_neD hr.units) (pv 3) (pe_lst pa_nil) (nomark _)) (pss_cons (ps_set (i := 5) nd rfl (.inl rfl) (pe_bm PySem.F.plainAttrs_list PySem.F.slot_list_pop PySem.F.type_list_pop mt_popAt (pv 3) (pa_cons (pe_call G__law_pick (hr.mono (by decide)) (by rfl) T.g__law_pick T.F__law_pick.kp T.b__law_pick .nil pass0 (pa_cons (pv 0) (pa_cons (pe_callB call_len_seq (by rfl) T.n_len PySem.boot_len (pa_cons (pv 3) pa_nil)) pa_nil))) pa_nil)))
      (pss_one (ps_if (pt_cmpR (op_eqD hr.units) (pe_lc (own := [("other", 6)]) (g := gName 6) (tt := (tTest (tOp (rIn K false) (tVar 6) (tVar 4)))) (te := (tC (.int 1))) rfl nd (pi_list (pe_ix ix_list (pv 2) (pv 5) (fun _ _ => rfl))) (blkOk_by (N := ["pot", "web", "beside", "order", "found", "house", "other"]) (sc := defScope s__law_filled) (by decide +kernel)) (fun _ _ _ _ _ => (pg_name (i := 6) nd rfl (.inl rfl))) (fun _ _ _ _ _ => pts_one (pt_cmpR op_in_seq (pv 6) (pv 4) rfl)) (fun _ _ _ _ _ => pe_int)) (pe_lst pa_nil) (nomark _)) (pss_one (ps_expr (pe_bm PySem.F.plainAttrs_list PySem.F.slot_list_append PySem.F.type_list_append mt_append (pv 4) (pa_cons (pv 5) pa_nil)))) pss_nil))))
      (pss_one (ps_ret (pe_callB cr_sortedI (by rfl) T.n_sorted (by decide +kernel) (pa_cons (pv 4) pa_nil)))))))), ?_⟩
    walk_at "rd"
    refine ⟨v, many, ties, rfl, hv, W, fun b H1 e1 hbA => ?_⟩
    have hb : Dp K H1 b (besD many ties) := hbA.dp
    have P1 := hP.ex e1
    obtain ⟨wa, wb, ws, rfl, s1, s2, s3⟩ := webD_at (Dp.ex e1 _ _ hv)
    obtain ⟨ba, bx, rfl, b1, b2, b3⟩ := besD_at hb
    walk_at "rd"
    refine ⟨⟨by omega, by omega, by omega, by omega, by omega⟩, fun o ho => ?_⟩
    rw [rgV_eq]
    have e2 : Evl.Ex H1 (upd H1 o (.lst ((rgI many).map V.int))) := Evl.Ex.new ho
    have P2 := P1.new (o := .lst ((rgI many).map V.int)) ho
    have ho2 : (upd H1 o (.lst ((rgI many).map V.int))) o = some (.lst ((rgI many).map V.int)) := upd_same
    generalize upd H1 o (.lst ((rgI many).map V.int)) = H2 at *
    walk_at "rd"
    refine ⟨Nat.zero_le _, fun F hF => ?_⟩
    have e3 := e2.trans (Evl.Ex.new (o := .lst []) hF)
    have F1 := Evl.fresh_back e2 hF
    have P3 := P2.new (o := .lst []) hF
    have hF3 : (upd H2 F (.lst [])) F = some (.lst []) := upd_same
    have Fo : F ≠ o := (ne_of_none ho2 hF).symm
    have ho3 : (upd H2 F (.lst [])) o = some (.lst ((rgI many).map V.int)) := by rw [upd_ne Fo.symm]; exact ho2
    generalize upd H2 F (.lst []) = H3 at *
    have op := P1.np ho
    have oc := P1.nc ho
    have Fp := P1.np F1
    have Fc := P1.nc F1
    walk_at "rd"
    refine ⟨fun m σ' H' => ∃ (x5 : Option V) (rem sm : List Int), σ' = [some (.ref p), some (.ref wa), some (.ref ba), some (.ref o), some (.ref F), x5, none] ∧ H' o = some (.lst (rem.map V.int)) ∧ H' F = some (.lst (sm.map V.int)) ∧ rem.length = m ∧ (rem ++ sm).Nodup ∧ (∀ x ∈ rem ++ sm, 0 ≤ x ∧ x < many) ∧ (sm = [] → m = many.toNat) ∧ PotC H' p c ∧ ExB p H1 H', ⟨many.toNat, none, rgI many, [], rfl, ho3, hF3, rgI_len many, by rw [List.append_nil]; exact rgI_nd many, fun x hx => by rw [List.append_nil] at hx; exact rgI_mem.mp hx, fun _ => rfl, P3, ExB.of e3⟩, ?_⟩
    rintro m σ' H4 ⟨x5, rem, sm, rfl, g1, g2, g3, g4, g5, g6, P4, E4⟩
    have sm60 : sm.length ≤ 60 := by
      have := len_le_of_sub (l := sm) (m := rgI many) (List.nodup_append.mp g4).2.1 fun x hx => rgI_mem.mpr (g5 x (List.mem_append_right _ hx))
      rw [rgI_len] at this
      omega
    have rm60 : rem.length ≤ 60 := by
      have := len_le_of_sub (l := rem) (m := rgI many) (List.nodup_append.mp g4).1 fun x hx => rgI_mem.mpr (g5 x (List.mem_append_left _ hx))
      rw [rgI_len] at this
      omega
    have so4 : SqL K H4 o (rem.map V.int) := SqL.of g1
    walk_at "rd"
    refine ⟨Nat.zero_le _, fun q hq => ?_⟩
    have e5 := Evl.Ex.new (o := .lst []) hq
    have h1 := e5 _ _ g1
    have h2 := e5 _ _ g2
    have P5 := P4.new (o := .lst []) hq
    have E5 := E4.trans (ExB.of e5)
    have sq5 : SqL K (upd H4 q (.lst [])) q [] := SqL.of upd_same
    have so5 : SqL K (upd H4 q (.lst [])) o (rem.map V.int) := SqL.of h1
    generalize upd H4 q (.lst []) = H5 at *
    walk_at "rd"
    refine iteB (fun c1 => ?_) (fun c1 => ?_)
    · have hpos : 0 < rem.length := by
        cases rem with
        | nil => simp at c1
        | cons x r => simp
      refine ⟨fun σ' H' => ∃ m', m' < m ∧ ∃ (x5 : Option V) (rem sm : List Int), σ' = [some (.ref p), some (.ref wa), some (.ref ba), some (.ref o), some (.ref F), x5, none] ∧ H' o = some (.lst (rem.map V.int)) ∧ H' F = some (.lst (sm.map V.int)) ∧ rem.length = m' ∧ (rem ++ sm).Nodup ∧ (∀ x ∈ rem ++ sm, 0 ≤ x ∧ x < many) ∧ (sm = [] → m' = many.toNat) ∧ PotC H' p c ∧ ExB p H1 H', fun _ _ h => h, ?_⟩
      walk_at "rd"
      refine ⟨tyL so5, ?_⟩
      walk_at "rd"
      refine ⟨p, c, _, rfl, P5, by rw [List.length_map]; omega, small_up (by rw [List.length_map]; omega) (by rw [List.length_map]; omega), fun r H6 hr0 hr1 P6 e6 => ?_⟩
      rw [List.length_map] at hr1
      have h1' := e6 o _ op h1
      have h2' := e6 F _ Fp h2
      have E6 := E5.trans e6
      have hlt : r.toNat < rem.length := by omega
      have hy : (rem.map V.int)[r.toNat]? = some (.int rem[r.toNat]) := by
        rw [List.getElem?_map, List.getElem?_eq_getElem hlt]
        rfl
      have pm := eraseIdx_perm rem r.toNat _ (List.getElem?_eq_getElem hlt)
      have hlen : (rem.eraseIdx r.toNat).length = rem.length - 1 := List.length_eraseIdx_of_lt hlt
      have hmem : rem[r.toNat] ∈ rem := List.getElem_mem hlt
      generalize hhs : rem[r.toNat] = hs at *
      have hsr := g5 hs (List.mem_append_left _ hmem)
      walk_at "rd"
      refine r_popAt h1' hr0 (by rw [List.length_map]; exact hr1) (by rw [List.length_map]; omega) hy ?_
      rw [map_eraseIdx]
      generalize rem.eraseIdx r.toNat = rem2 at *
      have pm2 : (hs :: (rem2 ++ sm)).Perm (rem ++ sm) := List.Perm.append_right sm pm
      have nd2 := pm2.nodup_iff.mpr g4
      have h1'' : (upd H6 o (.lst (rem2.map V.int))) o = some (.lst (rem2.map V.int)) := upd_same
      have h2'' : (upd H6 o (.lst (rem2.map V.int))) F = some (.lst (sm.map V.int)) := by rw [upd_ne Fo]; exact h2'
      have P7 := P6.upd (o := .lst (rem2.map V.int)) op oc
      have E7 := E6.mut (o := .lst (rem2.map V.int)) ho
      generalize upd H6 o (.lst (rem2.map V.int)) = H7 at *
      obtain ⟨ba', bx, hba, b1, b2, b3⟩ := besD_at (Dp.exB P1 E7 _ _ (np_bes many ties) hb)
      cases hba
      obtain ⟨cb, cc1, cc2⟩ := b3 hs hsr.1 hsr.2
      walk_at "rd"
      refine ⟨cb, rfl, ⟨_, cc2⟩, fun D hD => ?_⟩
      refine lc_pure (f := fun x => decide (x ∈ sm)) (g := fun _ => .int 1) cc2 (by have := nbr_len W hs; omega) hD (fun _ => rfl) (fun x hx H8 e8 QB q => ?_) (fun x hx hf H8 e8 Q q => ?_) (fun H8 e8 h8 => ?_)
      · have s4'' : SqL K H8 F (sm.map V.int) := SqL.of (e8 _ _ h2'')
        walk_at "rd"
        exact q
      · walk_at "rd"
        exact q
      · walk_at "rd"
        refine ⟨Nat.zero_le _, fun q2 hq2 => ?_⟩
        have hm : H8 D = some (.lst ((((nbr ties hs).filter fun x => decide (x ∈ sm)).map fun _ => (1 : Int)).map V.int)) := by rw [h8, List.map_map]; rfl
        have e9 := e8.trans (Evl.Ex.new (o := .lst []) hq2)
        refine r_eqNil (SqL.of (by rw [upd_ne (ne_of_none h8 hq2)]; exact hm)) (SqL.of upd_same) ?_
        have k1 := e9 _ _ h1''
        have k2 := e9 _ _ h2''
        have P9 := P7.ex e9
        have E9 := E7.trans (ExB.of e9)
        generalize upd H8 q2 (.lst []) = H9 at *
        have sF9 : SqL K H9 F (sm.map V.int) := SqL.of k2
        walk_at "rd"
        refine iteB (fun c2 => ?_) (fun c2 => ?_)
        · walk_at "rd"
          refine ⟨tyL sF9, ?_⟩
          walk_at "rd"
          refine r_app k2 (by rw [List.length_map]; omega) ?_
          refine ⟨m - 1, by omega, _, rem2, sm ++ [hs], rfl, by rw [upd_ne Fo.symm]; exact k1, by rw [upd_same, List.map_append]; rfl, by omega, ?_, fun x hx => ?_, fun hx => by simp at hx, P9.upd Fp Fc, E9.mut F1⟩
          · have : (rem2 ++ (sm ++ [hs])).Perm (hs :: (rem2 ++ sm)) := by
              rw [← List.append_assoc]
              exact List.perm_append_comm (l₁ := rem2 ++ sm) (l₂ := [hs])
            exact this.nodup_iff.mpr nd2
          · rcases List.mem_append.mp hx with hx | hx
            · exact g5 x (pm2.mem_iff.mp (List.mem_cons_of_mem _ (List.mem_append_left _ hx)))
            · rcases List.mem_append.mp hx with hx | hx
              · exact g5 x (List.mem_append_right _ hx)
              · rw [List.mem_singleton.mp hx]
                exact hsr
        · walk_at "rd"
          refine ⟨m - 1, by omega, _, rem2, sm, rfl, k1, k2, by omega, (List.pairwise_cons.mp nd2).2, fun x hx => g5 x (pm2.mem_iff.mp (List.mem_cons_of_mem _ hx)), fun hx => ?_, P9, E9⟩
          subst hx
          exact absurd c2 (by simp)
    · have hnil : rem = [] := by
        cases rem with
        | nil => rfl
        | cons x r => simp at c1
      subst hnil
      have hne : sm ≠ [] := fun z => by
        have := g6 z
        simp at g3
        omega
      have sF : SqL K H5 F (sm.map V.int) := SqL.of h2
      walk_at "rd"
      refine ⟨F, sm, rfl, sF, fun ns q2 pm so hq2 => ?_⟩
      rw [List.nil_append] at g4 g5
      have E9 := E5.trans (ExB.new (o := .lst (ns.map V.int)) hq2)
      have nn := pm.nodup_iff.mpr g4
      refine k q2 ns _ (P5.new hq2) ((ExB.of e1).trans E9) (Evl.fresh_back e1 (fresh_B E5 P5 hq2)) upd_same ⟨?_, fun h hh => g5 h (pm.mem_iff.mp hh)⟩ (fun z => hne (by rw [z] at pm; exact pm.symm.eq_nil))
      exact List.Pairwise.imp₂ (fun a b h1 h2 => by omega) so nn

end



section
variable {P : Program} {w : World} {K : PySem.W.Frag} {mg : Str → Option Value} {base : Heap}

def sp_sets (K : PySem.W.Frag) : Sp := fun vs H Q _ => ∃ (p c : Addr) (v : V) (many : Int) (ties : List (Int × Int)), vs = [.ref p, v] ∧ PotC H p c ∧ Dp K H v (webD many ties) ∧ WebOk many ties ∧
  ∀ (a : Addr) (qs : List Addr) (ss : List (List Int)) (H' : Hp), PotC H' p c → ExB p H H' → H' a = some (.lst (qs.map V.ref)) → LstsAt H' qs ss → ss.length = 8 → (∀ s ∈ ss, SetOk many s) → Q (.ref a) H'
theorem ok_sets (T : Env K mg) : FnOk P w K mg base CX0 4 T.a__law_sets T.fd__law_sets ["pot", "web"] (sp_sets K) := by
  have nd := sc__law_sets.nd
  have G__law_pick : FnOk P w K mg base CX0 2 T.a__law_pick T.fd__law_pick ["pot", "upto"] sp_pick := ok_pick T
  have G__law_filled : FnOk P w K mg base CX0 3 T.a__law_filled T.fd__law_filled ["pot", "web"] (sp_filled K) := ok_filled T
  refine T.F__law_sets.ok sc__law_sets (fun vs H Q E h => ?_) (fun cdv A outer s H vs Q E hr h => ?_)
  · obtain ⟨p, c, v, a, t, rfl, _⟩ := h
    rfl
  · obtain ⟨p, c, v, many, ties, rfl, hP, hv, W, k⟩ := h
    have w1 := W.lo
    have w2 := W.hi
    refine ⟨_, (pss_cons (ps_set (i := 2) nd rfl (.inl rfl) (pe_call G__law_filled (hr.mono (by decide)) (by rfl) T.g__law_filled T.F__law_filled.kp T.b__law_filled .nil pass0 (pa_cons (pv 0) (pa_cons (pv 1) pa_nil))))
      (pss_cons (ps_set (i := 3) nd rfl (.inl rfl) (pe_call G__law_pick (hr.mono (by decide)) (by rfl) T.g__law_pick T.F__law_pick.kp T.b__law_pick .nil pass0 (pa_cons (pv 0) (pa_cons (pe_ix ix_tup (pv 1) pe_int (fun _ _ => rfl)) pa_nil))))
      (pss_cons (ps_set (i := 4) nd rfl (.inl rfl) (pe_call G__law_pick (hr.mono (by decide)) (by rfl) T.g__law_pick T.F__law_pick.kp T.b__law_pick .nil pass0 (pa_cons (pv 0) (pa_cons (pe_callB call_len_seq (by rfl) T.n_len PySem.boot_len (pa_cons (pv 2) pa_nil)) pa_nil))))
      (pss_cons (ps_set (i := 5) nd rfl (.inl rfl) (pe_lst (pa_cons (pv 2) (pa_cons (pe_lst pa_nil) (pa_cons (pe_listRg rfl (by rfl) T.n_list (prg_1 (by rfl) T.n_range (pe_ix ix_tup (pv 1) pe_int (fun _ _ => rfl)))) (pa_cons (pe_callB (cr_sortedSet rfl) (by rfl) T.n_sorted (by decide +kernel) (pa_cons (pe_callTy (cr_setL rfl) (by rfl) T.n_set (by decide +kernel) (pa_cons (pe_op op_cat (pv 2) (pe_lst (pa_cons (pv 3) pa_nil))) pa_nil)) pa_nil)) (pa_cons (pe_op op_cat (pe_slice sl_list (pv 2) po_none (po_some (pv 4))) (pe_slice sl_list (pv 2) (po_some (pe_op op_add (pv 4) pe_int)) po_none)) pa_nil)))))))
      (pss_cons (ps_expr (pe_bm PySem.F.plainAttrs_list PySem.F.slot_list_append PySem.F.type_list_append mt_append (pv 5) (pa_cons (pe_callB (cr_sortedSet rfl) (by rfl) T.n_sorted (by decide +kernel) (pa_cons (pe_callTy (cr_setL rfl) (by rfl) T.n_set (by decide +kernel) (pa_cons (pe_op op_cat (pe_op op_cat (pe_slice sl_list (pv 2) po_none (po_some (pv 4))) (pe_slice sl_list (pv 2) (po_some (pe_op op_add (pv 4) pe_int)) po_none)) (pe_lst (pa_cons (pv 3) pa_nil))) pa_nil)) pa_nil)) pa_nil)))
      (pss_cons (ps_expr (pe_bm PySem.F.plainAttrs_list PySem.F.slot_list_append PySem.F.type_list_append mt_append (pv 5) (pa_cons (pe_lc (own := [("other", 6)]) (g := gName 6) (tt := (tTest (tOp rEq (tCall sp_pick [] E0 (tCons (tVar 0) (tCons (tC (.int 3)) tNil))) (tC (.int 0))))) (te := (tVar 6)) rfl nd (pi_range1 (by rfl) T.n_range (pa_cons (pe_ix ix_tup (pv 1) pe_int (fun _ _ => rfl)) pa_nil)) (blkOk_by (N := ["pot", "web", "full", "house", "at", "found", "other"]) (sc := defScope s__law_sets) (by decide +kernel)) (fun _ _ _ _ _ => (pg_name (i := 6) nd rfl (.inl rfl))) (fun _ _ _ _ _ => pts_one (pt_cmpR op_eq (pe_call G__law_pick (hr.mono (by decide)) (by rfl) T.g__law_pick T.F__law_pick.kp T.b__law_pick .nil pass0 (pa_cons (pv 0) (pa_cons pe_int pa_nil))) pe_int (nomark _))) (fun _ _ _ _ _ => (pv 6))) pa_nil)))
      (pss_one (ps_ret (pe_op op_cat (pv 5) (pe_lst (pa_cons (pe_call G__law_filled (hr.mono (by decide)) (by rfl) T.g__law_filled T.F__law_filled.kp T.b__law_filled .nil pass0 (pa_cons (pv 0) (pa_cons (pv 1) pa_nil))) pa_nil))))))))))), ?_⟩
    walk_at "rd"
    refine ⟨p, c, v, many, ties, rfl, hP, hv, W, fun a1 s1 H1 P1 E1 n1 h1 ok1 ne1 => ?_⟩
    obtain ⟨wa, wb, ws, rfl, z1, z2, z3⟩ := webD_at hv
    have a1p : a1 ≠ p := hP.np n1
    have y1 := SqT.exB hP E1 z1
    walk_at "rd"
    refine ⟨p, c, many, rfl, P1, by omega, small_up (by omega) (by omega), fun hs H2 hs0 hs1 P2 E2 => ?_⟩
    have h2 := E2 a1 _ a1p h1
    have q2 : SqL K H2 a1 (s1.map V.int) := SqL.of h2
    have l1 := ok1.len w2
    have l1' : 0 < s1.length := List.length_pos_iff.mpr ne1
    walk_at "rd"
    refine ⟨p, c, _, rfl, P2, by rw [List.length_map]; omega, small_up (by rw [List.length_map]; omega) (by rw [List.length_map]; omega), fun at' H3 at0 at1 P3 E3 => ?_⟩
    have h3 := E3 a1 _ a1p h2
    have y3 := SqT.exB P2 E3 (SqT.exB P1 E2 y1)
    have E13 := (E1.trans E2).trans E3
    clear h1 h2 q2
    walk_at "rd"
    rw [List.length_map] at at1
    refine ⟨Nat.zero_le _, fun q1 hq1 => ?_⟩
    have e3 : Evl.Ex H3 (upd H3 q1 (.lst [])) := Evl.Ex.new hq1
    have b1 : (upd H3 q1 (.lst [])) q1 = some (.lst (([] : List Int).map V.int)) := upd_same
    generalize upd H3 q1 (.lst []) = H4 at *
    have y4 := Evl.ex_t e3 y3
    walk_at "rd"
    refine ⟨⟨by omega, by omega, by omega, by omega, by omega⟩, fun q2 hq2 => ?_⟩
    rw [rgV_eq]
    have e4 : Evl.Ex H4 (upd H4 q2 (.lst ((rgI many).map V.int))) := Evl.Ex.new hq2
    have b2 : (upd H4 q2 (.lst ((rgI many).map V.int))) q2 = some (.lst ((rgI many).map V.int)) := upd_same
    generalize upd H4 q2 (.lst ((rgI many).map V.int)) = H5 at *
    walk_at "rd"
    refine ⟨Evl.sz_of (by show 1 ≤ 100000; decide), fun q3 hq3 => ?_⟩
    have e5 : Evl.Ex H5 (upd H5 q3 (.lst [.int hs])) := Evl.Ex.new hq3
    have b3 : (upd H5 q3 (.lst [.int hs])) q3 = some (.lst (([hs] : List Int).map V.int)) := upd_same
    generalize upd H5 q3 (.lst [.int hs]) = H6 at *
    refine r_cat (e5 _ _ (e4 _ _ (e3 _ _ h3))) b3 (by simp; omega) fun q4 hq4 => ?_
    have e6 : Evl.Ex H6 (upd H6 q4 (.lst ((s1 ++ [hs]).map V.int))) := Evl.Ex.new hq4
    have b4 : (upd H6 q4 (.lst ((s1 ++ [hs]).map V.int))) q4 = some (.lst ((s1 ++ [hs]).map V.int)) := upd_same
    generalize upd H6 q4 (.lst ((s1 ++ [hs]).map V.int)) = H7 at *
    walk_at "rd"
    refine r_setLst (w := w) (SqL.of b4) (by simp; omega) fun q5 n5 hq5 hn5 => ?_
    rw [List.length_append, List.length_singleton] at hn5
    have e7 : Evl.Ex H7 (upd H7 q5 (SetO w q5 (fun j => decide (j ∈ s1 ++ [hs])) n5)) := Evl.Ex.new hq5
    have b5 : (upd H7 q5 (SetO w q5 (fun j => decide (j ∈ s1 ++ [hs])) n5)) q5 = some (SetO w q5 (fun j => decide (j ∈ s1 ++ [hs])) n5) := upd_same
    generalize upd H7 q5 (SetO w q5 (fun j => decide (j ∈ s1 ++ [hs])) n5) = H8 at *
    walk_at "rd"
    refine r_sortSet (w := w) b5 (by omega) fun m1 q6 up1 mem1 hq6 => ?_
    have e8 : Evl.Ex H8 (upd H8 q6 (.lst (m1.map V.int))) := Evl.Ex.new hq6
    have b6 : (upd H8 q6 (.lst (m1.map V.int))) q6 = some (.lst (m1.map V.int)) := upd_same
    generalize upd H8 q6 (.lst (m1.map V.int)) = H9 at *
    have okm1 : SetOk many m1 := ⟨up1, fun x hx => by
      rcases List.mem_append.mp ((mem1 x).mp hx) with h | h
      · exact ok1.ok x h
      · rw [List.mem_singleton.mp h]; exact ⟨hs0, hs1⟩⟩
    have e39 := ((((e3.trans e4).trans e5).trans e6).trans e7).trans e8
    have h9 := e39 _ _ h3
    walk_at "rd"
    refine r_slL (SqL.of h9) fun q7 hq7 => ?_
    rw [cut_to at0]
    have e9 : Evl.Ex H9 (upd H9 q7 (.lst ((s1.take at'.toNat).map V.int))) := Evl.Ex.new hq7
    have b7 : (upd H9 q7 (.lst ((s1.take at'.toNat).map V.int))) q7 = some (.lst ((s1.take at'.toNat).map V.int)) := upd_same
    generalize upd H9 q7 (.lst ((s1.take at'.toNat).map V.int)) = H10 at *
    walk_at "rd"
    refine r_slL (SqL.of (e9 _ _ h9)) fun q8 hq8 => ?_
    rw [cut_from (by omega), show (at' + 1).toNat = at'.toNat + 1 by omega]
    have e10 : Evl.Ex H10 (upd H10 q8 (.lst ((s1.drop (at'.toNat + 1)).map V.int))) := Evl.Ex.new hq8
    have b8 : (upd H10 q8 (.lst ((s1.drop (at'.toNat + 1)).map V.int))) q8 = some (.lst ((s1.drop (at'.toNat + 1)).map V.int)) := upd_same
    generalize upd H10 q8 (.lst ((s1.drop (at'.toNat + 1)).map V.int)) = H11 at *
    refine r_cat (e10 _ _ b7) b8 (by rw [List.length_take, List.length_drop]; omega) fun q9 hq9 => ?_
    have wok := without_ok ok1 at'.toNat
    have wl := wok.len w2
    rw [show s1.take at'.toNat ++ s1.drop (at'.toNat + 1) = without s1 at'.toNat from rfl]
    have e11 : Evl.Ex H11 (upd H11 q9 (.lst ((without s1 at'.toNat).map V.int))) := Evl.Ex.new hq9
    have b9 : (upd H11 q9 (.lst ((without s1 at'.toNat).map V.int))) q9 = some (.lst ((without s1 at'.toNat).map V.int)) := upd_same
    generalize upd H11 q9 (.lst ((without s1 at'.toNat).map V.int)) = H12 at *
    walk_at "rd"
    refine ⟨Evl.sz_of (by show 5 ≤ 100000; decide), fun f hf => ?_⟩
    have e912 := (e9.trans e10).trans e11
    have e312 := e39.trans e912
    have L12 : LstsAt H12 [a1, q1, q2, q6, q9] [s1, [], rgI many, m1, without s1 at'.toNat] :=
      .cons (e312 _ _ h3) (.cons ((((((e4.trans e5).trans e6).trans e7).trans e8).trans e912) _ _ b1) (.cons (((((e5.trans e6).trans e7).trans e8).trans e912) _ _ b2) (.cons (e912 _ _ b6) (.cons b9 .nil))))
    have S12 : ∀ s ∈ [s1, [], rgI many, m1, without s1 at'.toNat], SetOk many s := by
      intro s hs
      simp only [List.mem_cons, List.not_mem_nil, or_false] at hs
      rcases hs with rfl | rfl | rfl | rfl | rfl
      · exact ok1
      · exact ⟨List.Pairwise.nil, fun h hh => by cases hh⟩
      · exact rgI_ok many
      · exact okm1
      · exact wok
    have P12 := P3.ex e312
    have E12 := E13.trans (ExB.of e312)
    have y12 := Evl.ex_t e312 y3
    have h12 := e312 _ _ h3
    have fH := fresh_B E12 P12 hf
    have fp := hP.np fH
    have fc := hP.nc fH
    clear e3 e4 e5 e6 e7 e8 e9 e10 e11 e39 e912 e312 b1 b2 b3 b4 b5 b6 b7 b8 b9 h9 h3 y3 y4 hq1 hq2 hq3 hq4 hq5 hq6 hq7 hq8 hq9
    have e12 : Evl.Ex H12 (upd H12 f (.lst (([a1, q1, q2, q6, q9] : List Addr).map V.ref))) := Evl.Ex.new hf
    have f13 : (upd H12 f (.lst (([a1, q1, q2, q6, q9] : List Addr).map V.ref))) f = some (.lst (([a1, q1, q2, q6, q9] : List Addr).map V.ref)) := upd_same
    have goalH : upd H12 f (.lst [.ref a1, .ref q1, .ref q2, .ref q6, .ref q9]) = upd H12 f (.lst (([a1, q1, q2, q6, q9] : List Addr).map V.ref)) := rfl
    rw [goalH]
    have L13 := L12.ex e12
    have P13 := P12.ex e12
    have E13' := E12.trans (ExB.of e12)
    have y13 := Evl.ex_t e12 y12
    have h13 := e12 _ _ h12
    have af : a1 ≠ f := ne_of_none h12 hf
    generalize upd H12 f (.lst (([a1, q1, q2, q6, q9] : List Addr).map V.ref)) = H13 at *
    have sf13 : SqL K H13 f (([a1, q1, q2, q6, q9] : List Addr).map V.ref) := SqL.of f13
    -- the one more
    walk_at "rd"
    refine ⟨tyL sf13, ?_⟩
    walk_at "rd"
    refine r_slL (SqL.of h13) fun q7 hq7 => ?_
    rw [cut_to at0]
    have e13 : Evl.Ex H13 (upd H13 q7 (.lst ((s1.take at'.toNat).map V.int))) := Evl.Ex.new hq7
    have b7 : (upd H13 q7 (.lst ((s1.take at'.toNat).map V.int))) q7 = some (.lst ((s1.take at'.toNat).map V.int)) := upd_same
    generalize upd H13 q7 (.lst ((s1.take at'.toNat).map V.int)) = H14 at *
    walk_at "rd"
    refine r_slL (SqL.of (e13 _ _ h13)) fun q8 hq8 => ?_
    rw [cut_from (by omega), show (at' + 1).toNat = at'.toNat + 1 by omega]
    have e14 : Evl.Ex H14 (upd H14 q8 (.lst ((s1.drop (at'.toNat + 1)).map V.int))) := Evl.Ex.new hq8
    have b8 : (upd H14 q8 (.lst ((s1.drop (at'.toNat + 1)).map V.int))) q8 = some (.lst ((s1.drop (at'.toNat + 1)).map V.int)) := upd_same
    generalize upd H14 q8 (.lst ((s1.drop (at'.toNat + 1)).map V.int)) = H15 at *
    refine r_cat (e14 _ _ b7) b8 (by rw [List.length_take, List.length_drop]; omega) fun q9' hq9' => ?_
    rw [show s1.take at'.toNat ++ s1.drop (at'.toNat + 1) = without s1 at'.toNat from rfl]
    have e15 : Evl.Ex H15 (upd H15 q9' (.lst ((without s1 at'.toNat).map V.int))) := Evl.Ex.new hq9'
    have b9 : (upd H15 q9' (.lst ((without s1 at'.toNat).map V.int))) q9' = some (.lst ((without s1 at'.toNat).map V.int)) := upd_same
    generalize upd H15 q9' (.lst ((without s1 at'.toNat).map V.int)) = H16 at *
    walk_at "rd"
    refine ⟨Evl.sz_of (by show 1 ≤ 100000; decide), fun q3 hq3 => ?_⟩
    have e16 : Evl.Ex H16 (upd H16 q3 (.lst [.int hs])) := Evl.Ex.new hq3
    have b3 : (upd H16 q3 (.lst [.int hs])) q3 = some (.lst (([hs] : List Int).map V.int)) := upd_same
    generalize upd H16 q3 (.lst [.int hs]) = H17 at *
    refine r_cat (e16 _ _ b9) b3 (by simp; omega) fun q4 hq4 => ?_
    have e17 : Evl.Ex H17 (upd H17 q4 (.lst ((without s1 at'.toNat ++ [hs]).map V.int))) := Evl.Ex.new hq4
    have b4 : (upd H17 q4 (.lst ((without s1 at'.toNat ++ [hs]).map V.int))) q4 = some (.lst ((without s1 at'.toNat ++ [hs]).map V.int)) := upd_same
    generalize upd H17 q4 (.lst ((without s1 at'.toNat ++ [hs]).map V.int)) = H18 at *
    walk_at "rd"
    refine r_setLst (w := w) (SqL.of b4) (by simp; omega) fun q5 n5' hq5 hn5' => ?_
    rw [List.length_append, List.length_singleton] at hn5'
    have e18 : Evl.Ex H18 (upd H18 q5 (SetO w q5 (fun j => decide (j ∈ without s1 at'.toNat ++ [hs])) n5')) := Evl.Ex.new hq5
    have b5 : (upd H18 q5 (SetO w q5 (fun j => decide (j ∈ without s1 at'.toNat ++ [hs])) n5')) q5 = some (SetO w q5 (fun j => decide (j ∈ without s1 at'.toNat ++ [hs])) n5') := upd_same
    generalize upd H18 q5 (SetO w q5 (fun j => decide (j ∈ without s1 at'.toNat ++ [hs])) n5') = H19 at *
    walk_at "rd"
    refine r_sortSet (w := w) b5 (by omega) fun m2 q6' up2 mem2 hq6' => ?_
    have e19 : Evl.Ex H19 (upd H19 q6' (.lst (m2.map V.int))) := Evl.Ex.new hq6'
    have b6 : (upd H19 q6' (.lst (m2.map V.int))) q6' = some (.lst (m2.map V.int)) := upd_same
    generalize upd H19 q6' (.lst (m2.map V.int)) = H20 at *
    have okm2 : SetOk many m2 := ⟨up2, fun x hx => by
      rcases List.mem_append.mp ((mem2 x).mp hx) with h | h
      · exact wok.ok x h
      · rw [List.mem_singleton.mp h]; exact ⟨hs0, hs1⟩⟩
    have e1320 := (((((e13.trans e14).trans e15).trans e16).trans e17).trans e18).trans e19
    walk_at "rd"
    have f20 := e1320 _ _ f13
    refine r_app f20 (by simp) ?_
    have L20 := ((L13.ex e1320).snoc b6).upd (o := .lst (([a1, q1, q2, q6, q9, q6'] : List Addr).map V.ref)) f20
    have P20 := (P13.ex e1320).upd (o := .lst (([a1, q1, q2, q6, q9, q6'] : List Addr).map V.ref)) fp fc
    have E20 := (E13'.trans (ExB.of e1320)).mut (o := .lst (([a1, q1, q2, q6, q9, q6'] : List Addr).map V.ref)) fH
    have f21 : (upd H20 f (.lst (([a1, q1, q2, q6, q9, q6'] : List Addr).map V.ref))) f = some (.lst (([a1, q1, q2, q6, q9, q6'] : List Addr).map V.ref)) := upd_same
    have goalH : upd H20 f (.lst (List.map V.ref [a1, q1, q2, q6, q9] ++ [.ref q6'])) = upd H20 f (.lst (([a1, q1, q2, q6, q9, q6'] : List Addr).map V.ref)) := rfl
    rw [goalH]
    generalize upd H20 f (.lst (([a1, q1, q2, q6, q9, q6'] : List Addr).map V.ref)) = H21 at *
    clear e13 e14 e15 e16 e17 e18 e19 e1320 b3 b4 b5 b6 b7 b8 b9 hq3 hq4 hq5 hq6' hq7 hq8 hq9' f20 f13 sf13 h13 y13 L13 L12 goalH
    have y21 := SqT.exB hP E20 z1
    have sf21 : SqL K H21 f (([a1, q1, q2, q6, q9, q6'] : List Addr).map V.ref) := SqL.of f21
    walk_at "rd"
    refine ⟨tyL sf21, ?_⟩
    walk_at "rd"
    refine ⟨many, rfl, by omega, by omega, fun D hD => ?_⟩
    have Df : D ≠ f := (ne_of_none f21 hD).symm
    have DH := fresh_B E20 P20 hD
    have Dnp := P20.np hD
    have Dc := P20.nc hD
    refine lc_it walk_range (fun i H' => ∃ acc : List Int, H' D = some (.lst (acc.map V.int)) ∧ acc.length ≤ i ∧ acc.Pairwise (· < ·) ∧ (∀ x ∈ acc, 0 ≤ x ∧ x < (i : Int)) ∧ PotC H' p c ∧ ExB p H21 H') ?_ ?_ ?_ ?_
    · exact ⟨[], upd_same, Nat.zero_le _, List.Pairwise.nil, (fun x hx => by cases hx), P20.new hD, ExB.new hD⟩
    · intro _ _ _ _
      trivial
    · rintro i v H22 H23 hi ⟨acc, g1, g2, g3, g4, P22, E22⟩ ⟨rfl, rfl⟩
      walk_at "rd"
      refine ⟨rfl, ?_⟩
      walk_at "rd"
      refine ⟨p, c, 3, rfl, P22, by omega, small_up (by omega) (by omega), fun r H24 hr0 hr1 P24 E24 => ?_⟩
      have g1' := E24 D _ Dnp g1
      walk_at "rd"
      refine iteB (fun c1 => ?_) (fun c1 => ?_)
      · walk_at "rd"
        refine ⟨_, g1', Evl.sz_lt (by rw [List.length_map]; omega), acc ++ [(0 : Int) + (i : Int)], by rw [upd_same, List.map_append]; rfl, by rw [List.length_append]; simp; omega, ?_, fun x hx => ?_, P24.upd Dnp Dc, (E22.trans E24).mut hD⟩
        · refine List.pairwise_append.mpr ⟨g3, by simp, fun x hx y hy => ?_⟩
          rw [List.mem_singleton.mp hy]
          have := g4 x hx
          omega
        · rcases List.mem_append.mp hx with hx | hx
          · have := g4 x hx
            omega
          · rw [List.mem_singleton.mp hx]
            omega
      · exact ⟨acc, g1', by omega, g3, fun x hx => by have := g4 x hx; omega, P24, E22.trans E24⟩
    · rintro H22 ⟨acc, g1, g2, g3, g4, P22, E22⟩
      walk_at "rd"
      have f22 := E22 f _ fp f21
      have okacc : SetOk many acc := ⟨g3, fun x hx => by have := g4 x hx; omega⟩
      refine r_app f22 (by simp) ?_
      have L22 := ((L20.exB P20 E22).snoc g1).upd (o := .lst (([a1, q1, q2, q6, q9, q6', D] : List Addr).map V.ref)) f22
      have P23 := P22.upd (o := .lst (([a1, q1, q2, q6, q9, q6', D] : List Addr).map V.ref)) fp fc
      have E23 := (E20.trans E22).mut (o := .lst (([a1, q1, q2, q6, q9, q6', D] : List Addr).map V.ref)) fH
      have f23 : (upd H22 f (.lst (([a1, q1, q2, q6, q9, q6', D] : List Addr).map V.ref))) f = some (.lst (([a1, q1, q2, q6, q9, q6', D] : List Addr).map V.ref)) := upd_same
      have goalH : upd H22 f (.lst (List.map V.ref [a1, q1, q2, q6, q9, q6'] ++ [.ref D])) = upd H22 f (.lst (([a1, q1, q2, q6, q9, q6', D] : List Addr).map V.ref)) := rfl
      rw [goalH]
      generalize upd H22 f (.lst (([a1, q1, q2, q6, q9, q6', D] : List Addr).map V.ref)) = H23 at *
      walk_at "rd"
      refine ⟨p, c, .ref wa, many, ties, rfl, P23, Dp.exB hP E23 _ _ (np_web many ties) hv, W, fun a8 s8 H24 P24 E24 n8 h8 ok8 ne8 => ?_⟩
      have f24 := E24 f _ fp f23
      walk_at "rd"
      refine ⟨Evl.sz_of (by show 1 ≤ 100000; decide), fun q3 hq3 => ?_⟩
      have e24 : Evl.Ex H24 (upd H24 q3 (.lst (([a8] : List Addr).map V.ref))) := Evl.Ex.new hq3
      have b3 : (upd H24 q3 (.lst (([a8] : List Addr).map V.ref))) q3 = some (.lst (([a8] : List Addr).map V.ref)) := upd_same
      refine ⟨f, q3, _, _, rfl, rfl, e24 _ _ f24, b3, Evl.sz_of (by simp), fun q4 hq4 => ?_⟩
      have e25 := e24.trans (Evl.Ex.new (o := .lst (([a1, q1, q2, q6, q9, q6', D, a8] : List Addr).map V.ref)) hq4)
      refine k q4 [a1, q1, q2, q6, q9, q6', D, a8] _ _ (P24.ex e25) ((E23.trans E24).trans (ExB.of e25)) upd_same (((L22.exB P23 E24).snoc h8).ex e25) rfl ?_
      intro s hs
      have hs : s ∈ [s1, [], rgI many, m1, without s1 at'.toNat] ++ [m2] ++ [acc] ++ [s8] := hs
      rcases List.mem_append.mp hs with hs | hs
      · rcases List.mem_append.mp hs with hs | hs
        · rcases List.mem_append.mp hs with hs | hs
          · exact S12 s hs
          · rw [List.mem_singleton.mp hs]; exact okm2
        · rw [List.mem_singleton.mp hs]; exact okacc
      · rw [List.mem_singleton.mp hs]; exact ok8

end



section
variable {P : Program} {w : World} {K : PySem.W.Frag} {mg : Str → Option Value} {base : Heap}

def sp_law (K : PySem.W.Frag) : Sp := fun vs H Q _ => ∃ (a : Addr) (ns : List Int), vs = [.ref a] ∧ SqL K H a (ns.map V.int) ∧ ns.length ≤ 63 ∧ ∀ H', Q (.bl true) H'
theorem ok_law {f : Addr} {fd : FuncData} (T : Env K mg) (F : Fun K "law" "law" s_law f fd) : FnOk P w K mg base CX0 5 f fd ["script"] (sp_law K) := by
  have nd := sc_law.nd
  have G__law_pot : FnOk P w K mg base CX0 1 T.a__law_pot T.fd__law_pot ["script"] (sp_pot K) := ok_pot T
  have G__law_web : FnOk P w K mg base CX0 3 T.a__law_web T.fd__law_web ["pot", "most"] (sp_web K) := ok_web T
  have G__law_beside : FnOk P w K mg base CX0 1 T.a__law_beside T.fd__law_beside ["web"] (sp_beside K) := ok_beside T
  have G__law_sets : FnOk P w K mg base CX0 4 T.a__law_sets T.fd__law_sets ["pot", "web"] (sp_sets K) := ok_sets T
  have G__law_lacks : FnOk P w K mg base CX0 1 T.a__law_lacks T.fd__law_lacks ["web", "beside", "some"] (sp_llacks K) := ok_llacks T
  have G__law_same : FnOk P w K mg base CX0 3 T.a__law_same T.fd__law_same ["found", "due"] (sp_same K 2) := ok_sameS T (ok_sameS T (ok_same0 T))
  have G_lacks_of : FnOk P w K mg base CX0 2 T.a_lacks_of T.fd_lacks_of ["web", "some"] (sp_lacks K) := ok_lacks_of T
  have G_is_apart : FnOk P w K mg base CX0 2 T.a_is_apart T.fd_is_apart ["web", "some"] (sp_apart K) := ok_apart T
  have G_is_full : FnOk P w K mg base CX0 2 T.a_is_full T.fd_is_full ["web", "some"] (sp_full K) := ok_full T
  refine F.ok sc_law (fun vs H Q E h => ?_) (fun cdv A outer s H vs Q E hr h => ?_)
  · obtain ⟨a, ns, rfl, _⟩ := h
    rfl
  · obtain ⟨a, ns, rfl, hS, hl, k⟩ := h
    refine ⟨_, (pss_cons (ps_set (i := 1) nd rfl (.inl rfl) (pe_call G__law_pot (hr.mono (by decide)) (by rfl) T.g__law_pot T.F__law_pot.kp T.b__law_pot .nil pass0 (pa_cons (pv 0) pa_nil)))
      (pss_cons (ps_for PassesOwn.never rfl (pi_range1 (by rfl) T.n_range (pa_cons pe_int pa_nil)) (pg_name (i := 2) nd rfl (.inl rfl)) (pss_cons (ps_set (i := 3) nd rfl (.inl rfl) (pe_call G__law_web (hr.mono (by decide)) (by rfl) T.g__law_web T.F__law_web.kp T.b__law_web .nil pass0 (pa_cons (pv 1) (pa_cons (pe_ix ix_list (pe_lst (pa_cons pe_int (pa_cons pe_int (pa_cons pe_int (pa_cons pe_int (pa_cons pe_int pa_nil)))))) (pv 2) (fun _ _ => rfl)) pa_nil))))
      (pss_cons (ps_set (i := 4) nd rfl (.inr rfl) (pe_call G__law_beside (hr.mono (by decide)) (by rfl) T.g__law_beside T.F__law_beside.kp T.b__law_beside .nil pass0 (pa_cons (pv 3) pa_nil)))
      (pss_one (ps_for PassesOwn.never rfl (pi_list (pe_slice sl_list (pe_call G__law_sets (hr.mono (by decide)) (by rfl) T.g__law_sets T.F__law_sets.kp T.b__law_sets .nil pass0 (pa_cons (pv 1) (pa_cons (pv 3) pa_nil))) (po_some (pe_op op_mul pe_int (pe_callTy call_int1 (by rfl) T.n_int (by decide +kernel) (pa_cons (pe_cmpR op_eq (pv 2) pe_int (nomark _)) pa_nil)))) po_none)) (pg_name (i := 5) nd rfl (.inr rfl)) (pss_cons (ps_set (i := 6) nd rfl (.inl rfl) (pe_call G__law_lacks (hr.mono (by decide)) (by rfl) T.g__law_lacks T.F__law_lacks.kp T.b__law_lacks .nil pass0 (pa_cons (pv 3) (pa_cons (pv 4) (pa_cons (pv 5) pa_nil)))))
      (Evl.pss_cut (ps_set (i := 7) nd rfl (.inl rfl) (pe_or (pe_cmpR op_isN (pv 6) pe_non (nomark _)) (pe_one (pe_cmpR op_eq (pe_ix ix_tup (pv 6) pe_int (fun _ _ => rfl)) pe_str (nomark _)))))
      (pss_cons (ps_setLc (i := 8) (own := [("house", 10)]) (g := gName 10) (tt := (tTest (tOp (rEqD K) (tLc (iList K (tOp rCat (tOp (rIxL K) (tVar 4) (tVar 10)) (tLst (tCons (tVar 10) tNil)))) (gName 11) (tTest (tOp (rIn K false) (tVar 11) (tVar 5))) (tC (.int 1)) [11]) (tLst tNil)))) (te := (tVar 10)) rfl nd rfl rfl (sw_true rfl rfl rfl (by decide +kernel)) (pi_range1 (by rfl) T.n_range (pa_cons (pe_ix ix_tup (pv 3) pe_int (fun _ _ => rfl)) pa_nil)) (blkOk_by (N := ["script", "pot", "turn", "web", "beside", "some", "due", "apart", "bare", "handed", "house", "one"]) (sc := defScope s_law) (by decide +kernel)) (fun _ _ _ _ _ => (pg_name (i := 10) nd rfl (.inl rfl))) (fun _ _ _ _ _ => pts_one (pt_cmpR (op_eqD hr.units) (pe_lc (own := [("one", 11)]) (g := gName 11) (tt := (tTest (tOp (rIn K false) (tVar 11) (tVar 5)))) (te := (tC (.int 1))) rfl nd (pi_list (pe_op op_cat (pe_ix ix_list (pv 4) (pv 10) (fun _ _ => rfl)) (pe_lst (pa_cons (pv 10) pa_nil)))) (blkOk_by (N := ["script", "pot", "turn", "web", "beside", "some", "due", "apart", "bare", "handed", "house", "one"]) (sc := ({ kind := PySem.ScopeKind.function, names := [(PySem.Str.ofString ".0", PySem.NameKind.local), (PySem.Str.ofString "house", PySem.NameKind.local), (PySem.Str.ofString "beside", PySem.NameKind.cell), (PySem.Str.ofString "some", PySem.NameKind.cell)], isGenerator := false, isCoroutine := false, more := [] } : PySem.Scope)) (by decide +kernel)) (fun _ _ _ _ _ => (pg_name (i := 11) nd rfl (.inl rfl))) (fun _ _ _ _ _ => pts_one (pt_cmpR op_in_seq (pv 11) (pv 5) rfl)) (fun _ _ _ _ _ => pe_int)) (pe_lst pa_nil) (nomark _))) (fun _ _ _ _ _ => (pv 10)))
      (pss_cons (ps_set (i := 9) nd rfl (.inl rfl) (pe_callTy call_list_of (by rfl) T.n_list (by decide +kernel) (pa_cons (pv 5) pa_nil)))
      (pss_cons (ps_if (PW.pt (pw_or (pt_not (pt_val (pe_call G__law_same (hr.mono (by decide)) (by rfl) T.g__law_same T.F__law_same.kp T.b__law_same .nil pass0 (pa_cons (pe_call G_lacks_of (hr.mono (by decide)) (by rfl) T.g_lacks_of T.F_lacks_of.kp T.b_lacks_of .nil pass0 (pa_cons (pv 3) (pa_cons (pv 9) pa_nil))) (pa_cons (pv 6) pa_nil))))) (pw_or1 (pt_not (pt_val (pe_call G__law_same (hr.mono (by decide)) (by rfl) T.g__law_same T.F__law_same.kp T.b__law_same .nil pass0 (pa_cons (pe_call G_is_apart (hr.mono (by decide)) (by rfl) T.g_is_apart T.F_is_apart.kp T.b_is_apart .nil pass0 (pa_cons (pv 3) (pa_cons (pv 9) pa_nil))) (pa_cons (pv 7) pa_nil)))))))) (pss_one (ps_ret pe_bl)) pss_nil)
      (pss_one (ps_if (PW.pt (pw_or (pt_not (pt_val (pe_call G__law_same (hr.mono (by decide)) (by rfl) T.g__law_same T.F__law_same.kp T.b__law_same .nil pass0 (pa_cons (pe_call G_is_full (hr.mono (by decide)) (by rfl) T.g_is_full T.F_is_full.kp T.b_is_full .nil pass0 (pa_cons (pv 3) (pa_cons (pv 9) pa_nil))) (pa_cons (pe_cmpR (op_eqD hr.units) (pv 8) (pe_lst pa_nil) (nomark _)) pa_nil))))) (pw_or1 (pt_cmpR (op_neD hr.units) (pv 9) (pv 5) (nomark _))))) (pss_one (ps_ret pe_bl)) pss_nil))))))))))))
      (pss_one (ps_ret pe_bl)))), ?_⟩
    walk_at "rd"
    refine ⟨a, ns, rfl, hS, hl, fun p c H1 np e1 P1 => ?_⟩
    walk_at "rd"
    refine ⟨5, rfl, by decide, by decide, ?_⟩
    refine for_it walk_range (fun i σ' H' => ∃ (x2 x3 x4 x5 x6 x7 x8 x9 : Option V), σ' = [some (.ref a), some (.ref p), x2, x3, x4, x5, x6, x7, x8, x9, none, none] ∧ PotC H' p c) ?_ ?_ ?_ ?_
    · exact ⟨none, none, none, none, none, none, none, none, rfl, P1⟩
    · intro _ _ _ _ _
      trivial
    · rintro i v σ' H2 H3 hi ⟨x2, x3, x4, x5, x6, x7, x8, x9, rfl, P2⟩ ⟨rfl, rfl⟩
      obtain ⟨most, hm, hm1, hm2⟩ := nine i hi
      walk_at "rd"
      refine ⟨Evl.sz_of (by show 5 ≤ 100000; decide), fun q1 hq1 => ?_⟩
      have P3 := P2.new (o := .lst [.int 9, .int 9, .int 9, .int 9, .int 60]) hq1
      walk_at "rd"
      refine r_ixL (SqL.of upd_same) hm ?_
      walk_at "rd"
      refine ⟨p, c, most, rfl, P3, hm1, hm2, fun many ties wv H4 hmm W hw P4 E4 => ?_⟩
      walk_at "rd"
      refine ⟨wv, many, ties, rfl, hw, W, fun bv H5 e5 hb => ?_⟩
      have P5 := P4.ex e5
      have hw5 := Dp.ex e5 _ _ hw
      walk_at "rd"
      refine ⟨p, c, wv, many, ties, rfl, P5, hw5, W, fun sa qs ss H6 P6 E6 hsa hL h8 hok => ?_⟩
      have hw6 := Dp.exB P5 E6 _ _ (np_web many ties) hw5
      have hb6 := hb.exB P5 E6
      walk_at "rd"
      refine .inr ⟨_, rfl, ?_⟩
      walk_at "rd"
      generalize hlo : (5 : Int) * (if decide ((0 : Int) + (i : Int) = 4) = true then 1 else 0) = lo
      have hlo0 : 0 ≤ lo := by
        rw [← hlo]
        split <;> omega
      refine r_slL (SqL.of hsa) fun q2 hq2 => ?_
      rw [cut_fromG hlo0]
      have e7 : Evl.Ex H6 (upd H6 q2 (.lst ((qs.drop lo.toNat).map V.ref))) := Evl.Ex.new hq2
      have h7 : (upd H6 q2 (.lst ((qs.drop lo.toNat).map V.ref))) q2 = some (.lst ((qs.drop lo.toNat).map V.ref)) := upd_same
      generalize upd H6 q2 (.lst ((qs.drop lo.toNat).map V.ref)) = H7 at *
      have P7 := P6.ex e7
      have hw7 := Dp.ex e7 _ _ hw6
      have hb7 := hb6.ex e7
      have hL7 := (hL.ex e7).drop lo.toNat
      have hok7 : ∀ s ∈ ss.drop lo.toNat, SetOk many s := fun s hs => hok s (List.mem_of_mem_drop hs)
      clear hL hok hsa hw hw5 hw6 hb hb6 e5 e7 E4 E6 P2 P3 P4 P5 P6 hq2
      generalize qs.drop lo.toNat = qs2 at *
      generalize ss.drop lo.toNat = ss2 at *
      refine ⟨q2, rfl, ⟨_, SqL.of h7⟩, ?_⟩
      have w1 := W.lo
      have w2 := W.hi
      obtain ⟨wa, wb, ws, rfl, z1, z2, z3⟩ := webD_at hw7
      refine for_it (walk_list (xs := qs2.map V.ref)) (fun j σ' H' => ∃ (x5 x6 x7 x8 x9 : Option V), σ' = [some (.ref a), some (.ref p), some (.int (0 + (i : Int))), some (.ref wa), some bv, x5, x6, x7, x8, x9, none, none] ∧ Evl.Ex H7 H') ?_ ?_ ?_ ?_
      · exact ⟨_, _, _, _, _, rfl, Evl.Ex.refl _⟩
      · rintro j σ' H' _ ⟨_, _, _, _, _, _, e⟩
        exact SqL.of (e _ _ h7)
      · rintro j v σ' H8 H9 hj ⟨x5, x6, x7, x8, x9, rfl, e8⟩ ⟨rfl, ey⟩
        rw [List.getElem?_map] at ey
        cases eq : qs2[j]? with
        | none => rw [eq] at ey; cases ey
        | some q =>
          rw [eq] at ey
          cases ey
          obtain ⟨s, hs, hq⟩ := hL7.get eq
          have oks := hok7 s hs
          have s60 := oks.len w2
          have hq9 := e8 _ _ hq
          have hw9 := Dp.ex e8 _ _ hw7
          have hb9 := hb7.ex e8
          walk_at "rd"
          refine ⟨.ref wa, bv, .ref q, many, ties, s, rfl, hw9, W, hb9.dp, dp_intsD (SqL.of hq9), fun dv H10 e10 d10 => ?_⟩
          refine ⟨fun σ' H' => σ' = [some (.ref a), some (.ref p), some (.int (0 + (i : Int))), some (.ref wa), some bv, some (.ref q), some dv, some (.bl (firstTie ties s).isNone), x8, x9, none, none] ∧ H10 = H', ?_, ?_⟩
          · unfold lacksD at d10
            cases e1 : firstTie ties s with
            | some t =>
              rw [e1] at d10
              cases d10 with
              | tup g1 g2 =>
                cases g2 with
                | cons g3 g4 =>
                  cases g3
                  cases g4 with
                  | cons g5 g6 =>
                    cases g5
                    cases g6 with
                    | cons g7 g8 =>
                      cases g7
                      cases g8
                      walk_at "rd"
                      exact ⟨rfl, rfl⟩
            | none =>
              rw [e1] at d10
              simp only at d10
              cases e2 : firstBare many ties s with
              | some h =>
                rw [e2] at d10
                cases d10 with
                | tup g1 g2 =>
                  cases g2 with
                  | cons g3 g4 =>
                    cases g3
                    cases g4 with
                    | cons g5 g6 =>
                      cases g5
                      cases g6
                      walk_at "rd"
                      exact ⟨rfl, rfl⟩
              | none =>
                rw [e2] at d10
                cases d10
                walk_at "rd"
                exact ⟨rfl, rfl⟩
          · rintro σ' H' ⟨rfl, rfl⟩
            have e7a := e8.trans e10
            have y1 := Evl.ex_t e7a z1
            walk_at "rd"
            refine ⟨many, rfl, by omega, by omega, fun D hD => ?_⟩
            refine lc_it walk_range (fun i H' => H' D = some (.lst ((((rgI many).take i).filter fun h => !cov ties s h).map V.int)) ∧ Evl.Ex H10 H') ?_ ?_ ?_ ?_
            · exact ⟨upd_same, Evl.Ex.new hD⟩
            · intro _ _ _ _
              trivial
            · rintro h v H11 H12 hh ⟨g1, e11⟩ ⟨rfl, rfl⟩
              have gi : (rgI many)[h]? = some (h : Int) := rgI_get (by omega)
              have zi : (0 : Int) + (h : Int) = (h : Int) := Int.zero_add _
              obtain ⟨bq, bxs, rfl, bb1, bb2⟩ := (hb7.ex (e7a.trans e11)).at
              obtain ⟨nb, nb1, nb2⟩ := bb2 (h : Int) (by omega) (by omega)
              rw [← zi] at nb1
              have sq12 : SqL K H12 q (s.map V.int) := SqL.of (e11 _ _ (e10 _ _ hq9))
              have sb12 : SqL K H12 bq bxs := SqL.of bb1
              have nl := nbr_len W (h : Int)
              walk_at "rd"
              refine ⟨rfl, ?_⟩
              walk_at "rd"
              refine ⟨Evl.sz_of (by show 1 ≤ 100000; decide), fun q3 hq3 => ?_⟩
              have f1 : Evl.Ex H12 (upd H12 q3 (.lst [.int (0 + (h : Int))])) := Evl.Ex.new hq3
              have f2 : (upd H12 q3 (.lst [.int (0 + (h : Int))])) q3 = some (.lst (([0 + (h : Int)] : List Int).map V.int)) := upd_same
              generalize upd H12 q3 (.lst [.int (0 + (h : Int))]) = H13 at *
              refine r_cat (f1 _ _ nb2) f2 (by simp; omega) fun q4 hq4 => ?_
              have f3 : Evl.Ex H13 (upd H13 q4 (.lst ((nbr ties (h : Int) ++ [0 + (h : Int)]).map V.int))) := Evl.Ex.new hq4
              have f4 : (upd H13 q4 (.lst ((nbr ties (h : Int) ++ [0 + (h : Int)]).map V.int))) q4 = some (.lst ((nbr ties (h : Int) ++ [0 + (h : Int)]).map V.int)) := upd_same
              generalize upd H13 q4 (.lst ((nbr ties (h : Int) ++ [0 + (h : Int)]).map V.int)) = H14 at *
              refine ⟨q4, rfl, ⟨_, SqL.of f4⟩, fun D2 hD2 => ?_⟩
              refine lc_pure (f := fun x => decide (x ∈ s)) (g := fun _ => .int 1) (SqL.of f4) (by simp; omega) hD2 (fun _ => rfl) (fun x hx H15 e15 QB z => ?_) (fun x hx hf H15 e15 Q z => ?_) (fun H15 e15 h15 => ?_)
              · have s15 : SqL K H15 q (s.map V.int) := Evl.ex_l ((f1.trans f3).trans e15) sq12
                walk_at "rd"
                exact z
              · walk_at "rd"
                exact z
              · walk_at "rd"
                refine ⟨Nat.zero_le _, fun q5 hq5 => ?_⟩
                have hm5 : H15 D2 = some (.lst ((((nbr ties (h : Int) ++ [0 + (h : Int)]).filter fun x => decide (x ∈ s)).map fun _ => (1 : Int)).map V.int)) := by rw [h15, List.map_map]; rfl
                have e16 := (((f1.trans f3).trans e15).trans (Evl.Ex.new (o := .lst []) hq5))
                refine r_eqNil (SqL.of (by rw [upd_ne (ne_of_none h15 hq5)]; exact hm5)) (SqL.of upd_same) ?_
                walk_at "rd"
                rw [show ((((nbr ties (h : Int) ++ [0 + (h : Int)]).filter fun x => decide (x ∈ s)).map fun _ => (1 : Int))).isEmpty = !cov ties s (h : Int) by rw [List.isEmpty_map, zi]; exact cov_all ties s (h : Int)]
                have g16 := e16 _ _ g1
                have e17 := (e11.trans e16)
                generalize upd H15 q5 (.lst []) = H16 at *
                have DH10 : H10 D = none := hD
                refine iteB (fun c1 => ?_) (fun c1 => ?_)
                · walk_at "rd"
                  refine ⟨_, g16, Evl.sz_lt ?_, ?_, e17.mut DH10⟩
                  · rw [List.length_map]
                    have := List.length_filter_le (fun h => !cov ties s h) ((rgI many).take h)
                    rw [List.length_take] at this
                    omega
                  · rw [upd_same, take_snoc gi, List.filter_append, List.filter_cons, if_pos c1, List.map_append]
                    show some (HO.lst (_ ++ [V.int (0 + (h : Int))])) = _
                    rw [zi]
                    rfl
                · refine ⟨?_, e17⟩
                  rw [take_snoc gi, List.filter_append, List.filter_cons, if_neg (by rw [c1]; decide), List.filter_nil, List.append_nil]
                  exact g16
            · rintro H11 ⟨g1, e11⟩
              rw [List.take_of_length_le (by rw [rgI_len]; omega)] at g1
              have e7b := e7a.trans e11
              have hq11 := e7b _ _ hq
              walk_at "rd"
              refine ⟨q, _, rfl, .inl (SqL.of hq11), fun hd hhd => ?_⟩
              have f1 : Evl.Ex H11 (upd H11 hd (.lst (s.map V.int))) := Evl.Ex.new hhd
              have f2 : (upd H11 hd (.lst (s.map V.int))) hd = some (.lst (s.map V.int)) := upd_same
              generalize upd H11 hd (.lst (s.map V.int)) = H12 at *
              have e7c := e7b.trans f1
              have d12 := Dp.ex (e11.trans f1) _ _ d10
              have g12 := f1 _ _ g1
              have ls := lacks_small many ties s
              walk_at "rd"
              refine ⟨.ref wa, .ref hd, many, ties, s, rfl, Dp.ex e7c _ _ hw7, W, dp_intsD (SqL.of f2), oks, fun y H13 e13 d13 => ?_⟩
              walk_at "rd"
              refine ⟨y, dv, lacksD many ties s, rfl, d13, Dp.ex e13 _ _ d12, ls.1, ls.2, fun H14 e14 => ?_⟩
              have e14' := e13.trans e14
              walk_at "rd"
              refine ⟨.ref wa, .ref hd, many, ties, s, rfl, Dp.ex (e7c.trans e14') _ _ hw7, W, dp_intsD (SqL.of (e14' _ _ f2)), oks, fun H15 e15 => ?_⟩
              walk_at "rd"
              refine ⟨_, _, .bool (firstTie ties s).isNone, rfl, .bl _, .bl _, by simp [PyData.depth], rfl, fun H16 e16 => ?_⟩
              have e16' := (e14'.trans e15).trans e16
              walk_at "rd"
              refine ⟨.ref wa, .ref hd, many, ties, s, rfl, Dp.ex (e7c.trans e16') _ _ hw7, W, dp_intsD (SqL.of (e16' _ _ f2)), oks, fun H17 e17 => ?_⟩
              have e17' := e16'.trans e17
              walk_at "rd"
              refine ⟨Nat.zero_le _, fun q6 hq6 => ?_⟩
              have e18' := e17'.trans (Evl.Ex.new (o := .lst []) hq6)
              refine r_eqNil (SqL.of (e18' _ _ g12)) (SqL.of upd_same) ?_
              walk_at "rd"
              rw [show ((rgI many).filter fun h => !cov ties s h).isEmpty = (firstBare many ties s).isNone from (find_filter _ _).symm]
              refine ⟨_, _, .bool (firstBare many ties s).isNone, rfl, .bl _, .bl _, by simp [PyData.depth], rfl, fun H19 e19 => ?_⟩
              have e19' := e18'.trans e19
              walk_at "rd"
              refine r_neSame (SqL.of (e19' _ _ f2)) (SqL.of ((f1.trans e19') _ _ hq11)) ?_
              walk_at "rd"
              exact ⟨_, _, _, _, _, rfl, e7c.trans e19'⟩
      · rintro σ' H8 ⟨x5, x6, x7, x8, x9, rfl, e8⟩
        exact ⟨_, _, _, _, _, _, _, _, rfl, P7.ex e8⟩
    · rintro σ' H2 ⟨x2, x3, x4, x5, x6, x7, x8, x9, rfl, P2⟩
      walk_at "rd"
      exact k _

end
theorem all_mk {l : PySem.W.OpenLaw} {w : World} {K : PySem.W.Frag} {h : Heap} {mg : Str → Option Value} {fa : Addr} (X : K.In h) (G : h.Ns mainGlobals mg) (hfa : mg "law" = some (.ref fa))
    {f0 : Addr} {od0 an0 : Option Addr} {sl0 : Array (Option Value)} {oc0 kV0 dc0 pm0 cd0 ct0 : Value}
    (a0 : PySem.W.nsIn K mainGlobals "tie_within" = some (some (.ref f0))) (l0 : K.lookup f0 = some ⟨oc0, od0, .func (PySem.W.fnOf "tie_within" "tie_within" (defArgs s_tie_within) (defBody s_tie_within) (defScope s_tie_within) .none kV0 dc0 pm0 an0 cd0 ct0), sl0⟩) (c0 : PySem.W.codeIn K cd0 "tie_within" = true) (k0 : PySem.W.keepIn K (.ref f0) = true)
    {f1 : Addr} {od1 an1 : Option Addr} {sl1 : Array (Option Value)} {oc1 kV1 dc1 pm1 cd1 ct1 : Value}
    (a1 : PySem.W.nsIn K mainGlobals "first_bare" = some (some (.ref f1))) (l1 : K.lookup f1 = some ⟨oc1, od1, .func (PySem.W.fnOf "first_bare" "first_bare" (defArgs s_first_bare) (defBody s_first_bare) (defScope s_first_bare) .none kV1 dc1 pm1 an1 cd1 ct1), sl1⟩) (c1 : PySem.W.codeIn K cd1 "first_bare" = true) (k1 : PySem.W.keepIn K (.ref f1) = true)
    {f2 : Addr} {od2 an2 : Option Addr} {sl2 : Array (Option Value)} {oc2 kV2 dc2 pm2 cd2 ct2 : Value}
    (a2 : PySem.W.nsIn K mainGlobals "is_apart" = some (some (.ref f2))) (l2 : K.lookup f2 = some ⟨oc2, od2, .func (PySem.W.fnOf "is_apart" "is_apart" (defArgs s_is_apart) (defBody s_is_apart) (defScope s_is_apart) .none kV2 dc2 pm2 an2 cd2 ct2), sl2⟩) (c2 : PySem.W.codeIn K cd2 "is_apart" = true) (k2 : PySem.W.keepIn K (.ref f2) = true)
    {f3 : Addr} {od3 an3 : Option Addr} {sl3 : Array (Option Value)} {oc3 kV3 dc3 pm3 cd3 ct3 : Value}
    (a3 : PySem.W.nsIn K mainGlobals "is_full" = some (some (.ref f3))) (l3 : K.lookup f3 = some ⟨oc3, od3, .func (PySem.W.fnOf "is_full" "is_full" (defArgs s_is_full) (defBody s_is_full) (defScope s_is_full) .none kV3 dc3 pm3 an3 cd3 ct3), sl3⟩) (c3 : PySem.W.codeIn K cd3 "is_full" = true) (k3 : PySem.W.keepIn K (.ref f3) = true)
    {f4 : Addr} {od4 an4 : Option Addr} {sl4 : Array (Option Value)} {oc4 kV4 dc4 pm4 cd4 ct4 : Value}
    (a4 : PySem.W.nsIn K mainGlobals "lacks_of" = some (some (.ref f4))) (l4 : K.lookup f4 = some ⟨oc4, od4, .func (PySem.W.fnOf "lacks_of" "lacks_of" (defArgs s_lacks_of) (defBody s_lacks_of) (defScope s_lacks_of) .none kV4 dc4 pm4 an4 cd4 ct4), sl4⟩) (c4 : PySem.W.codeIn K cd4 "lacks_of" = true) (k4 : PySem.W.keepIn K (.ref f4) = true)
    {f5 : Addr} {od5 an5 : Option Addr} {sl5 : Array (Option Value)} {oc5 kV5 dc5 pm5 cd5 ct5 : Value}
    (a5 : PySem.W.nsIn K mainGlobals "_law_blend" = some (some (.ref f5))) (l5 : K.lookup f5 = some ⟨oc5, od5, .func (PySem.W.fnOf "_law_blend" "_law_blend" (defArgs s__law_blend) (defBody s__law_blend) (defScope s__law_blend) .none kV5 dc5 pm5 an5 cd5 ct5), sl5⟩) (c5 : PySem.W.codeIn K cd5 "_law_blend" = true) (k5 : PySem.W.keepIn K (.ref f5) = true)
    {f6 : Addr} {od6 an6 : Option Addr} {sl6 : Array (Option Value)} {oc6 kV6 dc6 pm6 cd6 ct6 : Value}
    (a6 : PySem.W.nsIn K mainGlobals "_law_pot" = some (some (.ref f6))) (l6 : K.lookup f6 = some ⟨oc6, od6, .func (PySem.W.fnOf "_law_pot" "_law_pot" (defArgs s__law_pot) (defBody s__law_pot) (defScope s__law_pot) .none kV6 dc6 pm6 an6 cd6 ct6), sl6⟩) (c6 : PySem.W.codeIn K cd6 "_law_pot" = true) (k6 : PySem.W.keepIn K (.ref f6) = true)
    {f7 : Addr} {od7 an7 : Option Addr} {sl7 : Array (Option Value)} {oc7 kV7 dc7 pm7 cd7 ct7 : Value}
    (a7 : PySem.W.nsIn K mainGlobals "_law_pick" = some (some (.ref f7))) (l7 : K.lookup f7 = some ⟨oc7, od7, .func (PySem.W.fnOf "_law_pick" "_law_pick" (defArgs s__law_pick) (defBody s__law_pick) (defScope s__law_pick) .none kV7 dc7 pm7 an7 cd7 ct7), sl7⟩) (c7 : PySem.W.codeIn K cd7 "_law_pick" = true) (k7 : PySem.W.keepIn K (.ref f7) = true)
    {f8 : Addr} {od8 an8 : Option Addr} {sl8 : Array (Option Value)} {oc8 kV8 dc8 pm8 cd8 ct8 : Value}
    (a8 : PySem.W.nsIn K mainGlobals "_law_same" = some (some (.ref f8))) (l8 : K.lookup f8 = some ⟨oc8, od8, .func (PySem.W.fnOf "_law_same" "_law_same" (defArgs s__law_same) (defBody s__law_same) (defScope s__law_same) .none kV8 dc8 pm8 an8 cd8 ct8), sl8⟩) (c8 : PySem.W.codeIn K cd8 "_law_same" = true) (k8 : PySem.W.keepIn K (.ref f8) = true)
    {f9 : Addr} {od9 an9 : Option Addr} {sl9 : Array (Option Value)} {oc9 kV9 dc9 pm9 cd9 ct9 : Value}
    (a9 : PySem.W.nsIn K mainGlobals "_law_web" = some (some (.ref f9))) (l9 : K.lookup f9 = some ⟨oc9, od9, .func (PySem.W.fnOf "_law_web" "_law_web" (defArgs s__law_web) (defBody s__law_web) (defScope s__law_web) .none kV9 dc9 pm9 an9 cd9 ct9), sl9⟩) (c9 : PySem.W.codeIn K cd9 "_law_web" = true) (k9 : PySem.W.keepIn K (.ref f9) = true)
    {f10 : Addr} {od10 an10 : Option Addr} {sl10 : Array (Option Value)} {oc10 kV10 dc10 pm10 cd10 ct10 : Value}
    (a10 : PySem.W.nsIn K mainGlobals "_law_beside" = some (some (.ref f10))) (l10 : K.lookup f10 = some ⟨oc10, od10, .func (PySem.W.fnOf "_law_beside" "_law_beside" (defArgs s__law_beside) (defBody s__law_beside) (defScope s__law_beside) .none kV10 dc10 pm10 an10 cd10 ct10), sl10⟩) (c10 : PySem.W.codeIn K cd10 "_law_beside" = true) (k10 : PySem.W.keepIn K (.ref f10) = true)
    {f11 : Addr} {od11 an11 : Option Addr} {sl11 : Array (Option Value)} {oc11 kV11 dc11 pm11 cd11 ct11 : Value}
    (a11 : PySem.W.nsIn K mainGlobals "_law_lacks" = some (some (.ref f11))) (l11 : K.lookup f11 = some ⟨oc11, od11, .func (PySem.W.fnOf "_law_lacks" "_law_lacks" (defArgs s__law_lacks) (defBody s__law_lacks) (defScope s__law_lacks) .none kV11 dc11 pm11 an11 cd11 ct11), sl11⟩) (c11 : PySem.W.codeIn K cd11 "_law_lacks" = true) (k11 : PySem.W.keepIn K (.ref f11) = true)
    {f12 : Addr} {od12 an12 : Option Addr} {sl12 : Array (Option Value)} {oc12 kV12 dc12 pm12 cd12 ct12 : Value}
    (a12 : PySem.W.nsIn K mainGlobals "_law_filled" = some (some (.ref f12))) (l12 : K.lookup f12 = some ⟨oc12, od12, .func (PySem.W.fnOf "_law_filled" "_law_filled" (defArgs s__law_filled) (defBody s__law_filled) (defScope s__law_filled) .none kV12 dc12 pm12 an12 cd12 ct12), sl12⟩) (c12 : PySem.W.codeIn K cd12 "_law_filled" = true) (k12 : PySem.W.keepIn K (.ref f12) = true)
    {f13 : Addr} {od13 an13 : Option Addr} {sl13 : Array (Option Value)} {oc13 kV13 dc13 pm13 cd13 ct13 : Value}
    (a13 : PySem.W.nsIn K mainGlobals "_law_sets" = some (some (.ref f13))) (l13 : K.lookup f13 = some ⟨oc13, od13, .func (PySem.W.fnOf "_law_sets" "_law_sets" (defArgs s__law_sets) (defBody s__law_sets) (defScope s__law_sets) .none kV13 dc13 pm13 an13 cd13 ct13), sl13⟩) (c13 : PySem.W.codeIn K cd13 "_law_sets" = true) (k13 : PySem.W.keepIn K (.ref f13) = true)
    {f14 : Addr} {od14 an14 : Option Addr} {sl14 : Array (Option Value)} {oc14 kV14 dc14 pm14 cd14 ct14 : Value}
    (a14 : PySem.W.nsIn K mainGlobals "law" = some (some (.ref f14))) (l14 : K.lookup f14 = some ⟨oc14, od14, .func (PySem.W.fnOf "law" "law" (defArgs s_law) (defBody s_law) (defScope s_law) .none kV14 dc14 pm14 an14 cd14 ct14), sl14⟩) (c14 : PySem.W.codeIn K cd14 "law" = true) (k14 : PySem.W.keepIn K (.ref f14) = true)
    (z_set : PySem.W.nsIn K mainGlobals "set" = some none)
    (z_range : PySem.W.nsIn K mainGlobals "range" = some none)
    (z_list : PySem.W.nsIn K mainGlobals "list" = some none)
    (z_enumerate : PySem.W.nsIn K mainGlobals "enumerate" = some none)
    (z_sorted : PySem.W.nsIn K mainGlobals "sorted" = some none)
    (z_isinstance : PySem.W.nsIn K mainGlobals "isinstance" = some none)
    (z_bool : PySem.W.nsIn K mainGlobals "bool" = some none)
    (z_int : PySem.W.nsIn K mainGlobals "int" = some none)
    (z_str : PySem.W.nsIn K mainGlobals "str" = some none)
    (z_len : PySem.W.nsIn K mainGlobals "len" = some none)
    (z_tuple : PySem.W.nsIn K mainGlobals "tuple" = some none)
    (z_zip : PySem.W.nsIn K mainGlobals "zip" = some none)
    (z_min : PySem.W.nsIn K mainGlobals "min" = some none)
    (z_max : PySem.W.nsIn K mainGlobals "max" = some none)
    : ∃ fd : FuncData, (∀ (s : Shared) (v : Value), BindsTo s fd ⟨[v], []⟩ [("script", v)]) ∧ ∀ base : Heap, K.In base → base.Ns mainGlobals mg → FnOk l.prog w K mg base CX0 5 fa fd ["script"] (sp_law K) := by
  have e := hfa.symm.trans (PySem.W.mg_of X G a14)
  cases e
  have F0 := fun_mk (st := s_tie_within) l0 c0 k0
  have F1 := fun_mk (st := s_first_bare) l1 c1 k1
  have F2 := fun_mk (st := s_is_apart) l2 c2 k2
  have F3 := fun_mk (st := s_is_full) l3 c3 k3
  have F4 := fun_mk (st := s_lacks_of) l4 c4 k4
  have F5 := fun_mk (st := s__law_blend) l5 c5 k5
  have F6 := fun_mk (st := s__law_pot) l6 c6 k6
  have F7 := fun_mk (st := s__law_pick) l7 c7 k7
  have F8 := fun_mk (st := s__law_same) l8 c8 k8
  have F9 := fun_mk (st := s__law_web) l9 c9 k9
  have F10 := fun_mk (st := s__law_beside) l10 c10 k10
  have F11 := fun_mk (st := s__law_lacks) l11 c11 k11
  have F12 := fun_mk (st := s__law_filled) l12 c12 k12
  have F13 := fun_mk (st := s__law_sets) l13 c13 k13
  have F14 := fun_mk (st := s_law) l14 c14 k14
  have b0 := F0.binds (ps := ["web", "some"]) fun _ _ _ _ _ _ us hl => match us, hl with | [_, _], _ => rfl
  have b1 := F1.binds (ps := ["web", "some"]) fun _ _ _ _ _ _ us hl => match us, hl with | [_, _], _ => rfl
  have b2 := F2.binds (ps := ["web", "some"]) fun _ _ _ _ _ _ us hl => match us, hl with | [_, _], _ => rfl
  have b3 := F3.binds (ps := ["web", "some"]) fun _ _ _ _ _ _ us hl => match us, hl with | [_, _], _ => rfl
  have b4 := F4.binds (ps := ["web", "some"]) fun _ _ _ _ _ _ us hl => match us, hl with | [_, _], _ => rfl
  have b5 := F5.binds (ps := ["cell", "at"]) fun _ _ _ _ _ _ us hl => match us, hl with | [_, _], _ => rfl
  have b6 := F6.binds (ps := ["script"]) fun _ _ _ _ _ _ us hl => match us, hl with | [_], _ => rfl
  have b7 := F7.binds (ps := ["pot", "upto"]) fun _ _ _ _ _ _ us hl => match us, hl with | [_, _], _ => rfl
  have b8 := F8.binds (ps := ["found", "due"]) fun _ _ _ _ _ _ us hl => match us, hl with | [_, _], _ => rfl
  have b9 := F9.binds (ps := ["pot", "most"]) fun _ _ _ _ _ _ us hl => match us, hl with | [_, _], _ => rfl
  have b10 := F10.binds (ps := ["web"]) fun _ _ _ _ _ _ us hl => match us, hl with | [_], _ => rfl
  have b11 := F11.binds (ps := ["web", "beside", "some"]) fun _ _ _ _ _ _ us hl => match us, hl with | [_, _, _], _ => rfl
  have b12 := F12.binds (ps := ["pot", "web"]) fun _ _ _ _ _ _ us hl => match us, hl with | [_, _], _ => rfl
  have b13 := F13.binds (ps := ["pot", "web"]) fun _ _ _ _ _ _ us hl => match us, hl with | [_, _], _ => rfl
  have T : Env K mg := { a_tie_within := _, fd_tie_within := _, F_tie_within := F0, b_tie_within := b0, g_tie_within := PySem.W.mg_of X G a0, a_first_bare := _, fd_first_bare := _, F_first_bare := F1, b_first_bare := b1, g_first_bare := PySem.W.mg_of X G a1, a_is_apart := _, fd_is_apart := _, F_is_apart := F2, b_is_apart := b2, g_is_apart := PySem.W.mg_of X G a2, a_is_full := _, fd_is_full := _, F_is_full := F3, b_is_full := b3, g_is_full := PySem.W.mg_of X G a3, a_lacks_of := _, fd_lacks_of := _, F_lacks_of := F4, b_lacks_of := b4, g_lacks_of := PySem.W.mg_of X G a4, a__law_blend := _, fd__law_blend := _, F__law_blend := F5, b__law_blend := b5, g__law_blend := PySem.W.mg_of X G a5, a__law_pot := _, fd__law_pot := _, F__law_pot := F6, b__law_pot := b6, g__law_pot := PySem.W.mg_of X G a6, a__law_pick := _, fd__law_pick := _, F__law_pick := F7, b__law_pick := b7, g__law_pick := PySem.W.mg_of X G a7, a__law_same := _, fd__law_same := _, F__law_same := F8, b__law_same := b8, g__law_same := PySem.W.mg_of X G a8, a__law_web := _, fd__law_web := _, F__law_web := F9, b__law_web := b9, g__law_web := PySem.W.mg_of X G a9, a__law_beside := _, fd__law_beside := _, F__law_beside := F10, b__law_beside := b10, g__law_beside := PySem.W.mg_of X G a10, a__law_lacks := _, fd__law_lacks := _, F__law_lacks := F11, b__law_lacks := b11, g__law_lacks := PySem.W.mg_of X G a11, a__law_filled := _, fd__law_filled := _, F__law_filled := F12, b__law_filled := b12, g__law_filled := PySem.W.mg_of X G a12, a__law_sets := _, fd__law_sets := _, F__law_sets := F13, b__law_sets := b13, g__law_sets := PySem.W.mg_of X G a13, n_set := PySem.W.mg_none_of X G z_set, n_range := PySem.W.mg_none_of X G z_range, n_list := PySem.W.mg_none_of X G z_list, n_enumerate := PySem.W.mg_none_of X G z_enumerate, n_sorted := PySem.W.mg_none_of X G z_sorted, n_isinstance := PySem.W.mg_none_of X G z_isinstance, n_bool := PySem.W.mg_none_of X G z_bool, n_int := PySem.W.mg_none_of X G z_int, n_str := PySem.W.mg_none_of X G z_str, n_len := PySem.W.mg_none_of X G z_len, n_tuple := PySem.W.mg_none_of X G z_tuple, n_zip := PySem.W.mg_none_of X G z_zip, n_min := PySem.W.mg_none_of X G z_min, n_max := PySem.W.mg_none_of X G z_max }
  exact ⟨PySem.W.fnOf "law" "law" (defArgs s_law) (defBody s_law) (defScope s_law) .none kV14 dc14 pm14 an14 cd14 ct14, fun s v => .of_eq rfl, fun base _ _ => ok_law T F14⟩
end Fa
open PySem PySem.W PyProof.Rows
set_option maxHeartbeats 0 in
theorem PySem.Challenge.cw_fullapart_k03_what_a_set_lacks_holds : PySem.Challenge.rw_fullapart_k03_what_a_set_lacks.Holds := by
  w_on; o_law; k_head; (case hw => w_witness2)
  k_fill
  refine L2.walk_of (l := PySem.Challenge.rw_fullapart_k03_what_a_set_lacks) (n := 63) (k := 5) (x := "script") (CX := fun _ => L2.CX0) (sp := fun w => Fa.sp_law _) rfl (by decide) rfl ⟨rfl, by decide, by decide⟩ (fun w h Y => PySem.W.kIn_of Y) ?F (fun _ _ a ns hl _ hS => ⟨a, ns, rfl, hS, hl, fun _ => rfl⟩) (fun _ _ _ _ _ h => h)
  case F =>
    intro w mg fa h KX G hmg
    refine' Fa.all_mk KX G hmg ?a0 ?l0 ?c0 ?k0 ?a1 ?l1 ?c1 ?k1 ?a2 ?l2 ?c2 ?k2 ?a3 ?l3 ?c3 ?k3 ?a4 ?l4 ?c4 ?k4 ?a5 ?l5 ?c5 ?k5 ?a6 ?l6 ?c6 ?k6 ?a7 ?l7 ?c7 ?k7 ?a8 ?l8 ?c8 ?k8 ?a9 ?l9 ?c9 ?k9 ?a10 ?l10 ?c10 ?k10 ?a11 ?l11 ?c11 ?k11 ?a12 ?l12 ?c12 ?k12 ?a13 ?l13 ?c13 ?k13 ?a14 ?l14 ?c14 ?k14 ?z_set ?z_range ?z_list ?z_enumerate ?z_sorted ?z_isinstance ?z_bool ?z_int ?z_str ?z_len ?z_tuple ?z_zip ?z_min ?z_max
    (case a0 => k_is); (case l0 => k_is); (case c0 => k_is); (case k0 => k_is); (case a1 => k_is); (case l1 => k_is); (case c1 => k_is); (case k1 => k_is); (case a2 => k_is); (case l2 => k_is); (case c2 => k_is); (case k2 => k_is); (case a3 => k_is); (case l3 => k_is); (case c3 => k_is); (case k3 => k_is); (case a4 => k_is); (case l4 => k_is); (case c4 => k_is); (case k4 => k_is); (case a5 => k_is); (case l5 => k_is); (case c5 => k_is); (case k5 => k_is); (case a6 => k_is); (case l6 => k_is); (case c6 => k_is); (case k6 => k_is); (case a7 => k_is); (case l7 => k_is); (case c7 => k_is); (case k7 => k_is); (case a8 => k_is); (case l8 => k_is); (case c8 => k_is); (case k8 => k_is); (case a9 => k_is); (case l9 => k_is); (case c9 => k_is); (case k9 => k_is); (case a10 => k_is); (case l10 => k_is); (case c10 => k_is); (case k10 => k_is); (case a11 => k_is); (case l11 => k_is); (case c11 => k_is); (case k11 => k_is); (case a12 => k_is); (case l12 => k_is); (case c12 => k_is); (case k12 => k_is); (case a13 => k_is); (case l13 => k_is); (case c13 => k_is); (case k13 => k_is); (case a14 => k_is); (case l14 => k_is); (case c14 => k_is); (case k14 => k_is); (case z_set => k_is); (case z_range => k_is); (case z_list => k_is); (case z_enumerate => k_is); (case z_sorted => k_is); (case z_isinstance => k_is); (case z_bool => k_is); (case z_int => k_is); (case z_str => k_is); (case z_len => k_is); (case z_tuple => k_is); (case z_zip => k_is); (case z_min => k_is); (case z_max => k_is)
