import PyProof.Rows.All
import Wide.All
import OpenK.AllK
import Wide.FinOn
import HandS.ForMost
import HandS.Evl
import HandS.Wide
import HandS.Walk
import HandS.Conv
import HandS.IsInst
import HandS.Zip
import HandS.Deep
import HandS.SetFor
import HandS.Strs
import HandS.TupSets
import HandS.TupAny
import HandS.TupLe
import HandS.SortOrd
import HandS.SortRule
import HandS.SortInts
import HandS.SortKw
import HandS.Keys
import HandS.Flow
import HandS.SetKeys
import HandS.EndBits
import KE.DataMinMax
import KE.SortData
import PyProof.CallFns
import HandS.Exc
import HandS.ExcIs
import HandS.TryOnly
import HandS.ExcInit
import KE.KExcSuper
import KE.KExcIs
import HandS.ExcValue
import HandS.ExcField
import HandS.RaiseMore
import HandS.RaiseOp
import HandS.ExcOwn
import HandS.WordsExc
import PyProof.ZipIter
import PyProof.FactsBase
import PyProof.TableTree
import PyProof.FactsTree
import PyProof.PlainAttrs
import HandS.DictSubView0
import HandS.DictComp
import HandS.Style
import HandS.Gcd
import PySem.Challenge.RW_fullapart_k42_whole_over_all_orders
set_option Elab.async false
set_option linter.all false
set_option maxRecDepth 100000
set_option maxHeartbeats 5000000
section
namespace PySem.F
/-! ### facts of itertools.combinations -/
theorem slot_comb_init : Slot "itertools.combinations" "__init__" "object.__init__" :=
  .of (owner := "object") (n := "__init__") (by rw [typeLookup_type, builtinLookup_eq_fast]; kernel_rfl) (by decide +kernel) (by decide +kernel) (by decide +kernel)
    (by first | exact .inl (by decide +kernel) | exact .inr (by decide +kernel)) (by rw [isSubtype_type]; kernel_rfl)
theorem slot_comb_next : Slot "itertools.combinations" "__next__" "itertools.combinations.__next__" :=
  .of (owner := "itertools.combinations") (n := "__next__") (by rw [typeLookup_type, builtinLookup_eq_fast]; kernel_rfl) (by decide +kernel) (by decide +kernel) (by decide +kernel)
    (by first | exact .inl (by decide +kernel) | exact .inr (by decide +kernel)) (by rw [isSubtype_type]; kernel_rfl)
theorem slot_comb_iter : Slot "itertools.combinations" "__iter__" "itertools.combinations.__iter__" :=
  .of (owner := "itertools.combinations") (n := "__iter__") (by rw [typeLookup_type, builtinLookup_eq_fast]; kernel_rfl) (by decide +kernel) (by decide +kernel) (by decide +kernel)
    (by first | exact .inl (by decide +kernel) | exact .inr (by decide +kernel)) (by rw [isSubtype_type]; kernel_rfl)
theorem entry_comb_next : entryFor table "itertools.combinations.__next__" = some Builtin.«itertools.combinations.__next__» := entryFor_of_tree (by kernel_rfl)
theorem entry_comb_new : entryFor table "itertools.combinations.__new__" = some Builtin.«itertools.combinations.__new__» := entryFor_of_tree (by kernel_rfl)
theorem entry_comb_iter : entryFor table "itertools.combinations.__iter__" = some Builtin.«dict_keyiterator.__iter__» :=
  entryFor_alias (id' := "dict_keyiterator.__iter__") (by kernel_rfl) (by first | rfl | decide +kernel | (unfold String.splitOn; simp +decide [String.splitOnAux])) (by decide +kernel) (by kernel_rfl)
theorem mro_comb : mroOf (.type "itertools.combinations") = pure [.type "itertools.combinations", .type "object"] := by rw [mroOf_type]; kernel_rfl
theorem lookup_comb_new : typeLookup (.type "itertools.combinations") "__new__" = pure (some (.builtin "itertools.combinations.__new__")) := by rw [typeLookup_type, builtinLookup_eq_fast]; kernel_rfl
theorem called_comb : TypeCalled "itertools.combinations" "itertools.combinations.__new__" "object.__init__" :=
  ⟨by decide +kernel, by decide +kernel, ⟨_, _, mro_comb⟩, madeBy_type mro_comb lookup_comb_new (by decide +kernel), by decide +kernel, by rw [isSubtype_type]; kernel_rfl, slot_comb_init⟩
theorem typeCall_comb_2 (a b : Value) : checkTypeCall "itertools.combinations" ⟨[a, b], []⟩ = pure () := by kernel_rfl
theorem newCall_comb_2 (a b : Value) : checkBuiltinCall "itertools.combinations.__new__" ⟨[.type "itertools.combinations", a, b], []⟩ = pure () := by kernel_rfl
end PySem.F

end
section
namespace PySem
open Sem (wp)
namespace F
theorem owner_comb : Manifest.owners.lookup (String.ofList ['s', 'n', 'o', 'i', 't', 'a', 'n', 'i', 'b', 'm', 'o', 'c', '.', 's', 'l', 'o', 'o', 't', 'r', 'e', 't', 'i'].reverse) = some Manifest.sig_itertools_combinations := by kernel_rfl
theorem args_comb_next_1 (a : Value) : argsOk "itertools.combinations.__next__" ⟨[a], []⟩ := by
  unfold argsOk; rw [signature?_of (id := "itertools.combinations.__next__") (n := ['_', '_', 't', 'x', 'e', 'n', '_', '_']) (o := ['s', 'n', 'o', 'i', 't', 'a', 'n', 'i', 'b', 'm', 'o', 'c', '.', 's', 'l', 'o', 'o', 't', 'r', 'e', 't', 'i']) (by kernel_rfl) owner_comb]; kernel_rfl
theorem args_comb_iter_1 (a : Value) : argsOk "itertools.combinations.__iter__" ⟨[a], []⟩ := by
  unfold argsOk; rw [signature?_of (id := "itertools.combinations.__iter__") (n := ['_', '_', 'r', 'e', 't', 'i', '_', '_']) (o := ['s', 'n', 'o', 'i', 't', 'a', 'n', 'i', 'b', 'm', 'o', 'c', '.', 's', 'l', 'o', 'o', 't', 'r', 'e', 't', 'i']) (by kernel_rfl) owner_comb]; kernel_rfl
end F
abbrev IsComb (h : Heap) (z pl : Addr) (st : Int) (res : Value) (i j : Nat) : Prop :=
  h.get? z = some { cls := .type "itertools.combinations", dict := none, data := .fields #[.ref pl, rawInt st, res, rawInt i, rawInt j], slots := #[] }
section
variable {prog : Program} {w : World} {A : Around} {E : Value → Shared → Prop} {s : Shared}
theorem wpAny_pyIter_comb {z pl : Addr} {st : Int} {res : Value} {i j : Nat} {Q : Value → Shared → Prop} (hz : IsComb s.heap z pl st res i j) (h : Q (.ref z) s) : wpAny (model prog w) A (pyIter (.ref z)) Q E s := by
  have hT : s.TypeIs (.ref z) "itertools.combinations" := ⟨_, hz, rfl⟩
  refine wpAny_pyIter_slot hT F.slot_comb_iter (wpAny_call_entry F.slot_comb_iter hT F.entry_comb_iter ?_ (F.args_comb_iter_1 _))
  show wpAny _ _ (ret (.ref z)) _ _ s
  exact wpAny_pure ⟨_, rfl, "itertools.combinations", _, hT, F.slot_comb_next.lookup, h⟩
theorem comb_hand {z pl : Addr} {items : Array Value} {o : Obj} {n0 : Nat} {res : Value} {i j : Nat} {Q : Value → Shared → Prop} (hz : IsComb s.heap z pl 1 res i j) (hp : s.heap.get? pl = some o) (hd : o.data = .seq items n0) (hne : z ≠ pl)
    (hQ : ∀ h', IsComb h' z pl 1 (.ref s.heap.objs.size) i j → h'.get? s.heap.objs.size = some { cls := .type "tuple", data := .seq #[items.getD i .none, items.getD j .none] } → h'.objs.size = s.heap.objs.size + 1 →
      (∀ c x, c ≠ z → s.heap.get? c = some x → h'.get? c = some x) → Q (.ref s.heap.objs.size) { s with heap := h' }) :
    wpAny (model prog w) A (do
        let result ← (do let items ← Builtin.Itertools.itPoolItems (.ref pl); newTuple ([i, j].map fun i => items.getD i .none))
        let before ← field (.ref z) 2
        setField (.ref z) 2 result
        letGo [before] [result]
        ret result) (fun r s' => ∃ v, r = .done (.ret v) ∧ Q v s') E s := by
  refine wpAny_bind ?_
  refine wpAny_bind ?_
  unfold Builtin.Itertools.itPoolItems
  refine wpAny_bind (wpAny_seqItems hp hd ?_)
  refine wpAny_pure ?_
  refine wpAny_newTuple ?_ (by show 2 ≤ sizeLine; decide)
  have hz1 : IsComb (s.heap.push { cls := .type "tuple", data := .seq ([i, j].map fun i => items.getD i .none).toArray }) z pl 1 res i j := Heap.get?_push_of_some _ hz
  refine wpAny_bind (wpAny_field hz1 rfl (x := res) rfl ?_)
  refine wpAny_bind (wpAny_setField_rec hz1 (by simp) fun h2 hz2 hs2 => ?_)
  refine wpAny_bind (wpAny_letGo ?_)
  have hzl : z < s.heap.objs.size := Heap.lt_size hz
  refine wpAny_pure ⟨_, rfl, hQ h2 hz2 ?_ ?_ fun c x hc e => ?_⟩
  · exact hs2.extBut _ _ (Nat.ne_of_gt hzl) (Heap.get?_push_size _ rfl)
  · rw [hs2.1, Heap.size_push]
  · exact hs2.extBut _ _ hc (Heap.get?_push_of_some _ e)
theorem comb_next0 {z pl : Addr} {items : Array Value} {o : Obj} {n0 : Nat} {res : Value} {i j : Nat} {Q : Value → Shared → Prop} (hz : IsComb s.heap z pl 0 res i j) (hp : s.heap.get? pl = some o) (hd : o.data = .seq items n0) (hne : z ≠ pl)
    (hQ : ∀ h', IsComb h' z pl 1 (.ref s.heap.objs.size) i j → h'.get? s.heap.objs.size = some { cls := .type "tuple", data := .seq #[items.getD i .none, items.getD j .none] } → h'.objs.size = s.heap.objs.size + 1 →
      (∀ c x, c ≠ z → s.heap.get? c = some x → h'.get? c = some x) → Q (.ref s.heap.objs.size) { s with heap := h' }) :
    wpAny (model prog w) A (Builtin.«itertools.combinations.__next__» ⟨[.ref z], []⟩) (fun r s' => ∃ v, r = .done (.ret v) ∧ Q v s') E s := by
  show wpAny _ _ (field (.ref z) 0 >>= _) _ _ _
  refine wpAny_bind (wpAny_field hz rfl (x := .ref pl) rfl ?_)
  refine wpAny_bind ?_
  unfold Builtin.Itertools.itNumbersFrom
  refine wpAny_bind (wpAny_load hz ?_)
  refine wpAny_pure ?_
  show wpAny _ _ (Builtin.Itertools.itIntField (.ref z) 1 >>= _) _ _ _
  refine wpAny_bind ?_
  unfold Builtin.Itertools.itIntField
  refine wpAny_bind (wpAny_field hz rfl (x := rawInt 0) rfl ?_)
  refine wpAny_pure ?_
  show wpAny _ _ (setField (.ref z) 1 (rawInt 1) >>= _) _ _ _
  refine wpAny_bind (wpAny_setField_rec hz (by simp) fun h1 hz1 hs1 => ?_)
  replace hz1 : IsComb h1 z pl 1 res i j := hz1
  refine comb_hand (s := { s with heap := h1 }) hz1 (hs1.extBut _ _ hne.symm hp) hd hne fun h' a1 a2 a3 a4 => ?_
  have sz : h1.objs.size = s.heap.objs.size := hs1.1
  show Q (.ref h1.objs.size) _
  rw [sz] at a1 a2 a3 ⊢
  exact hQ h' a1 a2 a3 fun c x hc e => a4 c x hc (hs1.extBut _ _ hc e)
def ncomb (n : Nat) (indices : List Nat) : Option (List Nat) :=
  let r := indices.length
  match (List.range r).reverse.find? fun i => indices.getD i 0 != i + n - r with
  | none => none
  | some i => some (indices.take i ++ (List.range (r - i)).map (indices.getD i 0 + 1 + ·))
theorem ncomb_inc {n i j : Nat} (h : j + 1 < n) : ncomb n [i, j] = some [i, j + 1] := by
  have e : ((j != 1 + n - 2) : Bool) = true := by simp; omega
  show (match ([1, 0] : List Nat).find? fun k => [i, j].getD k 0 != k + n - 2 with | none => none | some k => some ([i, j].take k ++ (List.range (2 - k)).map ([i, j].getD k 0 + 1 + ·))) = _
  rw [List.find?_cons_of_pos (by simpa using e)]
  rfl
theorem ncomb_row {n i j : Nat} (h : j + 1 = n) (g : i + 2 < n) : ncomb n [i, j] = some [i + 1, i + 2] := by
  have e : ((j != 1 + n - 2) : Bool) = false := by simp; omega
  have e2 : ((i != 0 + n - 2) : Bool) = true := by simp; omega
  show (match ([1, 0] : List Nat).find? fun k => [i, j].getD k 0 != k + n - 2 with | none => none | some k => some ([i, j].take k ++ (List.range (2 - k)).map ([i, j].getD k 0 + 1 + ·))) = _
  rw [List.find?_cons_of_neg (by simpa using e), List.find?_cons_of_pos (by simpa using e2)]
  rfl
theorem ncomb_end {n i j : Nat} (h : j + 1 = n) (g : i + 2 = n) : ncomb n [i, j] = none := by
  have e : ((j != 1 + n - 2) : Bool) = false := by simp; omega
  have e2 : ((i != 0 + n - 2) : Bool) = false := by simp; omega
  show (match ([1, 0] : List Nat).find? fun k => [i, j].getD k 0 != k + n - 2 with | none => none | some k => some ([i, j].take k ++ (List.range (2 - k)).map ([i, j].getD k 0 + 1 + ·))) = _
  rw [List.find?_cons_of_neg (by simpa using e), List.find?_cons_of_neg (by simpa using e2)]
  rfl
theorem comb_next1 {z pl : Addr} {items : Array Value} {o : Obj} {n0 : Nat} {res : Value} {i j i' j' : Nat} {Q : Value → Shared → Prop} (hz : IsComb s.heap z pl 1 res i j) (hp : s.heap.get? pl = some o) (hd : o.data = .seq items n0) (hne : z ≠ pl) (hst : ncomb items.size [i, j] = some [i', j'])
    (hQ : ∀ h', IsComb h' z pl 1 (.ref s.heap.objs.size) i' j' → h'.get? s.heap.objs.size = some { cls := .type "tuple", data := .seq #[items.getD i' .none, items.getD j' .none] } → h'.objs.size = s.heap.objs.size + 1 →
      (∀ c x, c ≠ z → s.heap.get? c = some x → h'.get? c = some x) → Q (.ref s.heap.objs.size) { s with heap := h' }) :
    wpAny (model prog w) A (Builtin.«itertools.combinations.__next__» ⟨[.ref z], []⟩) (fun r s' => ∃ v, r = .done (.ret v) ∧ Q v s') E s := by
  show wpAny _ _ (field (.ref z) 0 >>= _) _ _ _
  refine wpAny_bind (wpAny_field hz rfl (x := .ref pl) rfl ?_)
  refine wpAny_bind ?_
  unfold Builtin.Itertools.itNumbersFrom
  refine wpAny_bind (wpAny_load hz ?_)
  refine wpAny_pure ?_
  show wpAny _ _ (Builtin.Itertools.itIntField (.ref z) 1 >>= _) _ _ _
  refine wpAny_bind ?_
  unfold Builtin.Itertools.itIntField
  refine wpAny_bind (wpAny_field hz rfl (x := rawInt 1) rfl ?_)
  refine wpAny_pure ?_
  show wpAny _ _ (Builtin.Itertools.itPoolItems (.ref pl) >>= _) _ _ _
  refine wpAny_bind ?_
  unfold Builtin.Itertools.itPoolItems
  refine wpAny_bind (wpAny_seqItems hp hd ?_)
  refine wpAny_pure ?_
  show wpAny _ _ (match ncomb items.size [(i : Int).toNat, (j : Int).toNat] with
    | some next => (Builtin.Itertools.itSetNumbersFrom (.ref z) 3 next >>= fun _ => (do
        let result ← (do let items ← Builtin.Itertools.itPoolItems (.ref pl); newTuple (next.map fun i => items.getD i .none))
        let before ← field (.ref z) 2
        setField (.ref z) 2 result
        letGo [before] [result]
        ret result))
    | none => (setField (.ref z) 1 (rawInt 2) >>= fun _ => Builtin.Itertools.itStop)) _ _ s
  rw [Int.toNat_natCast, Int.toNat_natCast, hst]
  refine wpAny_bind ?_
  unfold Builtin.Itertools.itSetNumbersFrom
  refine wpAny_updateFields hz rfl ?_ (by show 5 ≤ sizeLine + 3; decide)
  have hz1 : IsComb (s.heap.update z (Obj.mapFields fun fs => fs.extract 0 3 ++ ([i', j'].map fun (n : Nat) => rawInt n).toArray)) z pl 1 res i' j' := Heap.get?_update_self _ hz rfl
  have sb : Heap.SameBut z s.heap (s.heap.update z (Obj.mapFields fun fs => fs.extract 0 3 ++ ([i', j'].map fun (n : Nat) => rawInt n).toArray)) := Heap.SameBut.update ..
  refine comb_hand hz1 (sb.extBut _ _ hne.symm hp) hd hne fun h' a1 a2 a3 a4 => ?_
  have sz := sb.1
  show Q (.ref (s.heap.update z (Obj.mapFields fun fs => fs.extract 0 3 ++ ([i', j'].map fun (n : Nat) => rawInt n).toArray)).objs.size) _
  rw [sz] at a1 a2 a3 ⊢
  exact hQ h' a1 a2 a3 fun c x hc e => a4 c x hc (sb.extBut _ _ hc e)
theorem comb_next_end {z pl : Addr} {items : Array Value} {o : Obj} {n0 : Nat} {res : Value} {i j : Nat} {Q : Fin → Shared → Prop} (hh : A.handled = none) (hz : IsComb s.heap z pl 1 res i j) (hp : s.heap.get? pl = some o) (hd : o.data = .seq items n0) (hst : ncomb items.size [i, j] = none)
    (hE : ∀ h' e, (∀ c x, c ≠ z → s.heap.get? c = some x → h'.get? c = some x) → (∃ o, h'.get? e = some o ∧ o.cls = .type "StopIteration") → E (.ref e) { s with heap := h' }) :
    wpAny (model prog w) A (Builtin.«itertools.combinations.__next__» ⟨[.ref z], []⟩) Q E s := by
  show wpAny _ _ (field (.ref z) 0 >>= _) _ _ _
  refine wpAny_bind (wpAny_field hz rfl (x := .ref pl) rfl ?_)
  refine wpAny_bind ?_
  unfold Builtin.Itertools.itNumbersFrom
  refine wpAny_bind (wpAny_load hz ?_)
  refine wpAny_pure ?_
  show wpAny _ _ (Builtin.Itertools.itIntField (.ref z) 1 >>= _) _ _ _
  refine wpAny_bind ?_
  unfold Builtin.Itertools.itIntField
  refine wpAny_bind (wpAny_field hz rfl (x := rawInt 1) rfl ?_)
  refine wpAny_pure ?_
  show wpAny _ _ (Builtin.Itertools.itPoolItems (.ref pl) >>= _) _ _ _
  refine wpAny_bind ?_
  unfold Builtin.Itertools.itPoolItems
  refine wpAny_bind (wpAny_seqItems hp hd ?_)
  refine wpAny_pure ?_
  show wpAny _ _ (match ncomb items.size [(i : Int).toNat, (j : Int).toNat] with
    | some next => (Builtin.Itertools.itSetNumbersFrom (.ref z) 3 next >>= fun _ => (do
        let result ← (do let items ← Builtin.Itertools.itPoolItems (.ref pl); newTuple (next.map fun i => items.getD i .none))
        let before ← field (.ref z) 2
        setField (.ref z) 2 result
        letGo [before] [result]
        ret result))
    | none => (setField (.ref z) 1 (rawInt 2) >>= fun _ => Builtin.Itertools.itStop)) _ _ s
  rw [Int.toNat_natCast, Int.toNat_natCast, hst]
  refine wpAny_bind (wpAny_setField_rec hz (by simp) fun h1 hz1 hs1 => ?_)
  refine DVw.raise_stop hh fun h' e oe k1 k2 k3 => hE h' e (fun c x hc g => k1 c x (hs1.extBut _ _ hc g)) ⟨oe, k2, k3⟩
theorem pyNext_comb_item {z pl : Addr} {items : Array Value} {o : Obj} {n0 : Nat} {st : Int} {res : Value} {i j i' j' : Nat} {Q : Option Value → Shared → Prop} (hz : IsComb s.heap z pl st res i j) (hp : s.heap.get? pl = some o) (hd : o.data = .seq items n0) (hne : z ≠ pl)
    (hst : (st = 0 ∧ i' = i ∧ j' = j) ∨ (st = 1 ∧ ncomb items.size [i, j] = some [i', j']))
    (hQ : ∀ h', IsComb h' z pl 1 (.ref s.heap.objs.size) i' j' → h'.get? s.heap.objs.size = some { cls := .type "tuple", data := .seq #[items.getD i' .none, items.getD j' .none] } → h'.objs.size = s.heap.objs.size + 1 →
      (∀ c x, c ≠ z → s.heap.get? c = some x → h'.get? c = some x) → Q (some (.ref s.heap.objs.size)) { s with heap := h' }) :
    wpAny (model prog w) A (pyNext (.ref z)) Q E s := by
  have hT : s.TypeIs (.ref z) "itertools.combinations" := ⟨_, hz, rfl⟩
  unfold pyNext
  refine wpAny_bind (wpAny_attempt (wpAny_callSpecial?_slot (name := Str.ofString "__next__") hT F.slot_comb_next
    (wpAny_call_entry F.slot_comb_next hT F.entry_comb_next ?_ (F.args_comb_next_1 _))))
  rcases hst with ⟨rfl, rfl, rfl⟩ | ⟨rfl, hst⟩
  · exact comb_next0 hz hp hd hne fun h' a1 a2 a3 a4 => wpAny_pure (hQ h' a1 a2 a3 a4)
  · exact comb_next1 hz hp hd hne hst fun h' a1 a2 a3 a4 => wpAny_pure (hQ h' a1 a2 a3 a4)
theorem pyNext_comb_end {z pl : Addr} {items : Array Value} {o : Obj} {n0 : Nat} {res : Value} {i j : Nat} {Q : Option Value → Shared → Prop} (hh : A.handled = none) (hz : IsComb s.heap z pl 1 res i j) (hp : s.heap.get? pl = some o) (hd : o.data = .seq items n0) (hst : ncomb items.size [i, j] = none)
    (hQ : ∀ h', (∀ c x, c ≠ z → s.heap.get? c = some x → h'.get? c = some x) → Q none { s with heap := h' }) : wpAny (model prog w) A (pyNext (.ref z)) Q E s := by
  have hT : s.TypeIs (.ref z) "itertools.combinations" := ⟨_, hz, rfl⟩
  unfold pyNext
  refine wpAny_bind (wpAny_attempt (wpAny_callSpecial?_slot (name := Str.ofString "__next__") hT F.slot_comb_next
    (wpAny_call_entry F.slot_comb_next hT F.entry_comb_next (comb_next_end hh hz hp hd hst fun h' e hk he => ?_) (F.args_comb_next_1 _))))
  obtain ⟨o, ho, hc⟩ := he
  refine wpAny_bind (wpAny_isInstance (T := "StopIteration") (b := true) ⟨o, ho, hc⟩ isSubtype_stop ?_)
  exact wpAny_pure (hQ _ hk)
end
end PySem

end
section
namespace L2
open PySem PySem.Spec PyProof.Rows
section
variable {prog : Program} {w : World} {A : Around} {E : Value → Shared → Prop} {s : Shared} {r : Addr} {a b c : Int} {t u v : Tok} {n : Nat}
def poolR (short : String) (args : Args) : Sem (Value × Value × Nat × Nat) := do
  let (cls, rest) ← Builtin.Itertools.itClassAndRest short args
  let [some iterable, some rV] ← Builtin.Itertools.itBindNamed short ["iterable", "r"] 2 2 rest args.kw | unsupported "internal:itertools.combinations.__new__"
  let r ← Builtin.Itertools.itSsizeArg rV
  let items ← collect iterable
  if r < 0 then rule "itertools.combinations.negative-r"; raiseError "ValueError" "r must be non-negative"
  if Builtin.Itertools.itTooMany r then unsupported s!"itertools.{short}.__new__:memory"
  return (cls, ← newTuple items, items.length, r.toNat)
theorem comb_new {k : Tok} {Q : Value → Shared → Prop} (hh : A.handled = none) (hr : IsRange s.heap r a b c t u v) (hsmall : Builtin.Range.small a b c = true) (hn : Builtin.Range.rangeSize a b c = n) (hlen : n ≤ 2 ^ 24)
    (hQ : ∀ (h' : Heap) (tk : Nat) (acc : Array Value), (∀ b o, s.heap.get? b = some o → h'.get? b = some o) → ItemsOf (fun i v => ∃ t, v = .int (a + i * c) t) acc n →
      Q (.ref (h'.objs.size + 1)) { s with heap := (h'.push { cls := .type "tuple", data := .seq acc }).push { cls := .type "itertools.combinations", data := .fields #[.ref h'.objs.size, rawInt (if 2 > n then 2 else 0), .none, rawInt 0, rawInt 1] }, toks := tk }) :
    wpAny (model prog w) A (Builtin.«itertools.combinations.__new__» ⟨[.type "itertools.combinations", .ref r, .int 2 k], []⟩) (fun f s' => ∃ v, f = .done (.ret v) ∧ Q v s') E s := by
  have hsub : isSubtype (.type "itertools.combinations") (.type "itertools.combinations") = pure true := by rw [isSubtype_type]; kernel_rfl
  unfold Builtin.«itertools.combinations.__new__»
  refine wpAny_bind ?_
  show wpAny _ _ (poolR "combinations" ⟨[.type "itertools.combinations", .ref r, .int 2 k], []⟩) _ _ s
  unfold poolR
  refine wpAny_bind ?_
  unfold Builtin.Itertools.itClassAndRest
  have eT : ("itertools." ++ "combinations" : String) = "itertools.combinations" := by decide +kernel
  rw [eT]
  wp_walk using collect_range hh hr hsmall hn hlen
  intro h' tk acc hk hacc
  have e2 : ¬ ((2 : Int) < 0) := by decide
  rw [if_neg e2, if_neg (by decide)]
  refine wpAny_bind (wpAny_newTuple ?_ (by rw [Array.length_toList, hacc.1, sizeLine_eq]; omega))
  refine wpAny_pure ?_
  have el : acc.toList.length = n := by rw [Array.length_toList, hacc.1]
  show wpAny _ _ (Builtin.Itertools.itNewRecord (.type "itertools.combinations") ([.ref h'.objs.size, rawInt (if 2 > acc.toList.length then 2 else 0), .none] ++ [rawInt 0, rawInt 1]) >>= fun v => ret v) _ _ _
  rw [el]
  refine wpAny_bind ?_
  unfold Builtin.Itertools.itNewRecord
  rw [if_pos (by decide +kernel)]
  have ea : acc.toList.toArray = acc := by simp
  rw [ea]
  refine wpAny_newObj_type ?_ (by show 5 ≤ sizeLine + 2; decide)
  refine wpAny_pure ⟨_, rfl, ?_⟩
  have q := hQ h' tk acc hk hacc
  have sz : (h'.push { cls := .type "tuple", data := .seq acc }).objs.size = h'.objs.size + 1 := Heap.size_push ..
  show Q (.ref (h'.push { cls := .type "tuple", data := .seq acc }).objs.size) _
  rw [sz]
  exact q
theorem call_comb {k : Tok} {Q : Value → Shared → Prop} (hh : A.handled = none) (hr : IsRange s.heap r a b c t u v) (hsmall : Builtin.Range.small a b c = true) (hn : Builtin.Range.rangeSize a b c = n) (hlen : n ≤ 2 ^ 24)
    (hQ : ∀ (h' : Heap) (tk : Nat) (acc : Array Value), (∀ b o, s.heap.get? b = some o → h'.get? b = some o) → ItemsOf (fun i v => ∃ t, v = .int (a + i * c) t) acc n →
      Q (.ref (h'.objs.size + 1)) { s with heap := (h'.push { cls := .type "tuple", data := .seq acc }).push { cls := .type "itertools.combinations", data := .fields #[.ref h'.objs.size, rawInt (if 2 > n then 2 else 0), .none, rawInt 0, rawInt 1] }, toks := tk }) :
    wpAny (model prog w) A (call (.type "itertools.combinations") [.ref r, .int 2 k]) Q E s := by
  refine callType_newIn F.called_comb (by decide) (F.typeCall_comb_2 _ _) (F.newCall_comb_2 _ _) (fun obj => F.args_object_init_3 obj _ _) F.entry_comb_new
    (S := fun A R s' => A.handled = none ∧ s' = s ∧ ∀ (h' : Heap) (tk : Nat) (acc : Array Value), (∀ b o, s.heap.get? b = some o → h'.get? b = some o) → ItemsOf (fun i v => ∃ t, v = .int (a + i * c) t) acc n →
      R (.ok (.ret (.ref (h'.objs.size + 1)))) { s with heap := (h'.push { cls := .type "tuple", data := .seq acc }).push { cls := .type "itertools.combinations", data := .fields #[.ref h'.objs.size, rawInt (if 2 > n then 2 else 0), .none, rawInt 0, rawInt 1] }, toks := tk }) ?_ ?_
  · refine .of_wp fun A R s' h => ?_
    obtain ⟨h1, rfl, h2⟩ := h
    refine wpAny_mono (comb_new (A := A.in1) h1 hr hsmall hn hlen (Q := fun v s' => R (.ok (.ret v)) s') fun h' tk acc hk hacc => h2 h' tk acc hk hacc) (fun f s' q => ?_) fun _ _ z => z
    obtain ⟨v, rfl, q⟩ := q
    exact ⟨_, rfl, q⟩
  · refine ⟨hh, rfl, fun h' tk acc hk hacc => ?_⟩
    have g : ((h'.push { cls := .type "tuple", data := .seq acc }).push { cls := .type "itertools.combinations", data := .fields #[.ref h'.objs.size, rawInt (if 2 > n then 2 else 0), .none, rawInt 0, rawInt 1] }).get? (h'.push { cls := .type "tuple", data := .seq acc }).objs.size = some { cls := .type "itertools.combinations", data := .fields #[.ref h'.objs.size, rawInt (if 2 > n then 2 else 0), .none, rawInt 0, rawInt 1] } := Heap.get?_push_size _ rfl
    rw [show (h'.push { cls := .type "tuple", data := .seq acc }).objs.size = h'.objs.size + 1 from Heap.size_push ..] at g
    exact ⟨⟨_, g, rfl⟩, hQ h' tk acc hk hacc⟩
end
end L2

end
section
namespace L2
open PySem PySem.Spec PyProof.Rows
section
variable {prog : Program} {w : World} {A : Around} {E : Value → Shared → Prop} {s : Shared}
theorem comb_next_over {z pl : Addr} {res : Value} {i j : Nat} {Q : Fin → Shared → Prop} (hh : A.handled = none) (hz : IsComb s.heap z pl 2 res i j)
    (hE : ∀ h' e, (∀ c x, s.heap.get? c = some x → h'.get? c = some x) → (∃ o, h'.get? e = some o ∧ o.cls = .type "StopIteration") → E (.ref e) { s with heap := h' }) :
    wpAny (model prog w) A (Builtin.«itertools.combinations.__next__» ⟨[.ref z], []⟩) Q E s := by
  show wpAny _ _ (field (.ref z) 0 >>= _) _ _ _
  refine wpAny_bind (wpAny_field hz rfl (x := .ref pl) rfl ?_)
  refine wpAny_bind ?_
  unfold Builtin.Itertools.itNumbersFrom
  refine wpAny_bind (wpAny_load hz ?_)
  refine wpAny_pure ?_
  show wpAny _ _ (Builtin.Itertools.itIntField (.ref z) 1 >>= _) _ _ _
  refine wpAny_bind ?_
  unfold Builtin.Itertools.itIntField
  refine wpAny_bind (wpAny_field hz rfl (x := rawInt 2) rfl ?_)
  refine wpAny_pure ?_
  show wpAny _ _ (rule "itertools.combinations.ended" >>= fun _ => Builtin.Itertools.itStop) _ _ s
  refine wpAny_bind (wpAny_rule ?_)
  refine DVw.raise_stop hh fun h' e oe k1 k2 k3 => hE h' e k1 ⟨oe, k2, k3⟩
theorem pyNext_comb_over {z pl : Addr} {res : Value} {i j : Nat} {Q : Option Value → Shared → Prop} (hh : A.handled = none) (hz : IsComb s.heap z pl 2 res i j)
    (hQ : ∀ h', (∀ c x, s.heap.get? c = some x → h'.get? c = some x) → Q none { s with heap := h' }) : wpAny (model prog w) A (pyNext (.ref z)) Q E s := by
  have hT : s.TypeIs (.ref z) "itertools.combinations" := ⟨_, hz, rfl⟩
  unfold pyNext
  refine wpAny_bind (wpAny_attempt (wpAny_callSpecial?_slot (name := Str.ofString "__next__") hT PySem.F.slot_comb_next
    (wpAny_call_entry PySem.F.slot_comb_next hT PySem.F.entry_comb_next (comb_next_over hh hz fun h' e hk he => ?_) (PySem.F.args_comb_next_1 _))))
  obtain ⟨o, ho, hc⟩ := he
  refine wpAny_bind (wpAny_isInstance (T := "StopIteration") (b := true) ⟨o, ho, hc⟩ isSubtype_stop ?_)
  exact wpAny_pure (hQ _ hk)
end
end L2

end
section
namespace L2
open PySem PySem.Spec PyProof.Rows
/-! ### the pairs as they come -/
def nextC (n : Nat) (p : Nat × Nat) : Option (Nat × Nat) := if p.2 + 1 < n then some (p.1, p.2 + 1) else if p.1 + 2 < n then some (p.1 + 1, p.1 + 2) else none
def atC (n : Nat) : Nat → Option (Nat × Nat)
  | 0 => if 2 ≤ n then some (0, 1) else none
  | k + 1 => (atC n k).bind (nextC n)
theorem atC_ok {n : Nat} : ∀ {k : Nat} {p : Nat × Nat}, atC n k = some p → p.1 < p.2 ∧ p.2 < n
  | 0, p, h => by
    unfold atC at h
    split at h
    · cases h; exact ⟨by decide, by show 1 < n; omega⟩
    · cases h
  | k + 1, p, h => by
    unfold atC at h
    cases q : atC n k with
    | none => rw [q] at h; cases h
    | some r =>
      rw [q] at h
      have h : nextC n r = some p := h
      have := atC_ok q
      unfold nextC at h
      split at h
      · cases h; simp only; omega
      · split at h
        · cases h; simp only; omega
        · cases h
theorem ncomb_next {n : Nat} {p : Nat × Nat} (h1 : p.1 < p.2) (h2 : p.2 < n) : ncomb n [p.1, p.2] = (nextC n p).map fun q => [q.1, q.2] := by
  unfold nextC
  by_cases a : p.2 + 1 < n
  · rw [if_pos a, ncomb_inc a]; rfl
  · rw [if_neg a]
    by_cases b : p.1 + 2 < n
    · rw [if_pos b, ncomb_row (by omega) b]; rfl
    · rw [if_neg b, ncomb_end (by omega) (by omega)]; rfl
/-- the pairs of the numbers below n, each a new tuple -/
def ItCm (n : Nat) : It :=
  ⟨fun k _ => (atC n k).isSome = true, fun k H v H' => ∃ T p, v = .ref T ∧ H T = none ∧ atC n k = some p ∧ H' = upd H T (.tup [.int (p.1 : Int), .int (p.2 : Int)]), fun k _ => atC n k = none⟩
def CombTn (n : Nat) (z pl : Addr) (k : Nat) (h : Heap) : Prop :=
  z ≠ pl ∧ (∃ acc, h.get? pl = some { cls := .type "tuple", data := .seq acc } ∧ ItemsOf (fun i v => ∃ t, v = .int (0 + i * 1) t) acc n) ∧
  ((n < 2 ∧ k = 0 ∧ IsComb h z pl 2 .none 0 1) ∨ (2 ≤ n ∧ k = 0 ∧ IsComb h z pl 0 .none 0 1) ∨ ∃ k' p res, k = k' + 1 ∧ atC n k' = some p ∧ IsComb h z pl 1 res p.1 p.2)
theorem CombTn.rec {n : Nat} {z pl : Addr} {k : Nat} {h : Heap} (t : CombTn n z pl k h) : ∃ st res i j, IsComb h z pl st res i j := by
  obtain ⟨_, _, a | a | ⟨k', p, res, _, _, a⟩⟩ := t
  · exact ⟨_, _, _, _, a.2.2⟩
  · exact ⟨_, _, _, _, a.2.2⟩
  · exact ⟨_, _, _, _, a⟩
theorem turn_comb {P : Program} {w : World} {K : PySem.W.Frag} {elts : List Expr} {kk : Nat} {tpos : Pos} {n : Nat} {z pl : Addr} :
    Turn P w K (.Tuple elts kk tpos) (ItCm n) [z, pl] z (CombTn n z pl) where
  mem := by simp
  obj := fun i h st c hc => by
    obtain ⟨s1, r1, i1, j1, hz⟩ := st.rec
    obtain ⟨acc, hp, _⟩ := st.2.1
    have e' : c = z ∨ c = pl := by simpa using hc
    rcases e' with q | q
    · rw [q]; exact ⟨_, hz, fun v q => nomatch q⟩
    · rw [q]; exact ⟨_, hp, fun v q => nomatch q⟩
  keep := fun i h h' st k => by
    obtain ⟨ne, ⟨acc, hp, ho⟩, a | a | ⟨k', p, res, b1, b2, a⟩⟩ := st
    · exact ⟨ne, ⟨acc, k pl (by simp) _ hp, ho⟩, .inl ⟨a.1, a.2.1, k z (by simp) _ a.2.2⟩⟩
    · exact ⟨ne, ⟨acc, k pl (by simp) _ hp, ho⟩, .inr (.inl ⟨a.1, a.2.1, k z (by simp) _ a.2.2⟩)⟩
    · exact ⟨ne, ⟨acc, k pl (by simp) _ hp, ho⟩, .inr (.inr ⟨k', p, res, b1, b2, k z (by simp) _ a⟩)⟩
  item := by
    intro X hP hw hK hc i pins s σ H E I hf st hg
    subst hP hw hK
    obtain ⟨p, hat⟩ : ∃ p, atC n i = some p := Option.isSome_iff_exists.mp hg
    have okp := atC_ok hat
    have st0 := st
    obtain ⟨ne, ⟨acc, hp, ho⟩, hc3⟩ := st
    have sz : acc.size = n := ho.1
    obtain ⟨s1, r1, i1, j1, hz, hst⟩ : ∃ st res i1 j1, IsComb s.heap z pl st res i1 j1 ∧ ((st = 0 ∧ p.1 = i1 ∧ p.2 = j1) ∨ (st = 1 ∧ ncomb acc.size [i1, j1] = some [p.1, p.2])) := by
      rcases hc3 with a | a | ⟨k', p0, res, b1, b2, a⟩
      · rw [a.2.1] at hat
        unfold atC at hat
        rw [if_neg (by omega)] at hat
        cases hat
      · rw [a.2.1] at hat
        unfold atC at hat
        rw [if_pos a.1] at hat
        cases hat
        exact ⟨_, _, _, _, a.2.2, .inl ⟨rfl, rfl, rfl⟩⟩
      · subst b1
        have hat : (atC n k').bind (nextC n) = some p := hat
        rw [b2] at hat
        have hat : nextC n p0 = some p := hat
        have ok0 := atC_ok b2
        exact ⟨_, _, _, _, a, .inr ⟨rfl, by rw [sz, ncomb_next ok0.1 ok0.2, hat]; rfl⟩⟩
    refine pyNext_comb_item hz hp rfl ne hst fun h' g1 g2 g3 g4 => ?_
    refine ⟨_, rfl, ?_⟩
    unfold letOwnedTupleGo
    refine wpAny_bind (wpAny_load g1 ?_)
    show wpAny _ _ (if (["enumerate", "zip", "dict_itemiterator", "dict_reverseitemiterator", "odict_iterator", "itertools.zip_longest", "itertools.pairwise"].contains "itertools.combinations" && _) = true then _ else _) _ _ _
    rw [if_neg (by simp)]
    refine wpAny_pure ?_
    have val : ∀ m, m < n → ∃ t, acc.getD m .none = .int (m : Int) t := fun m hm => by
      have hlt : m < acc.size := by omega
      obtain ⟨t, e⟩ := ho.2 m acc[m] (by simp [hlt])
      refine ⟨t, ?_⟩
      rw [Array.getD_eq_getD_getElem?, Array.getElem?_eq_getElem hlt]
      show acc[m] = _
      rw [e]
      congr 1
      omega
    obtain ⟨t1, e1⟩ := val p.1 (by omega)
    obtain ⟨t2, e2⟩ := val p.2 okp.2
    rw [e1, e2] at g2
    have hzl : z < s.heap.objs.size := Heap.lt_size hz
    have hpl : pl < s.heap.objs.size := Heap.lt_size hp
    have new : ObjOk X.prog X.w (upd H s.heap.objs.size (.tup [.int (p.1 : Int), .int (p.2 : Int)])) h' s.heap.objs.size (.tup [.int (p.1 : Int), .int (p.2 : Int)]) :=
      ⟨by show 2 ≤ sizeLine; decide, [.int p.1 t1, .int p.2 t2], .cons ⟨_, rfl⟩ (.cons ⟨_, rfl⟩ .nil), ⟨_, g2, rfl, _, rfl⟩⟩
    have I1 : Inv X pins σ (upd H s.heap.objs.size (.tup [.int (p.1 : Int), .int (p.2 : Int)])) { s with heap := h' } :=
      I.turnedNew (t' := s.toks) (ch := [z, pl]) (fun c o hb q => g4 c o (fun q' => hb (by simp [q'])) q) hf (Nat.le_refl _) new
    refine ⟨.ref s.heap.objs.size, _, I1, rfl, ⟨_, p, rfl, I.hok.fresh (Nat.le_refl _), hat, rfl⟩, ⟨ne, ⟨acc, g4 _ _ ne.symm hp, ho⟩, .inr (.inr ⟨i, p, _, rfl, hat, g1⟩)⟩, fun c hcm => ?_⟩
    have hlt : c < s.heap.objs.size := by
      have e' : c = z ∨ c = pl := by simpa using hcm
      rcases e' with q | q
      · rw [q]; exact hzl
      · rw [q]; exact hpl
    rw [upd_ne (Nat.ne_of_lt hlt)]
    exact (hf c hcm).1
  done := by
    intro X hP hw hK hc i pins s σ H E I hf st hg
    subst hP hw hK
    have hg : atC n i = none := hg
    obtain ⟨ne, ⟨acc, hp, ho⟩, a | a | ⟨k', p, res, b1, b2, a⟩⟩ := st
    · exact pyNext_comb_over (I.ok.hd hc) a.2.2 fun h' hk => ⟨rfl, I.turnedL (t' := s.toks) (ch := [z, pl]) (fun c o hb q => hk c o q) hf⟩
    · rw [a.2.1] at hg
      unfold atC at hg
      rw [if_pos a.1] at hg
      cases hg
    · subst b1
      have hn : nextC n p = none := by
        have hg : (atC n k').bind (nextC n) = none := hg
        rw [b2] at hg
        exact hg
      have okp := atC_ok b2
      have sz : acc.size = n := ho.1
      exact pyNext_comb_end (I.ok.hd hc) a hp rfl (by rw [sz, ncomb_next okp.1 okp.2, hn]; rfl) fun h' hk => ⟨rfl, I.turnedL (t' := s.toks) (ch := [z, pl]) (fun c o hb q => hk c o (fun q' => hb (by simp [q'])) q) hf⟩
  self := fun A i s Q E st h => by
    obtain ⟨s1, r1, i1, j1, hz⟩ := st.rec
    exact wpAny_pyIter_comb hz h
end L2

end
section
namespace L2
open PySem PySem.Spec PyProof.Rows
section
variable {X : Cx}
/-- combinations(range(b), 2) -/
def iComb (f : L2.St → Hp → (Int → Int → Hp → Prop) → Prop) : TI := fun σ H R => f σ H fun a b H1 => RgOk a b ∧ a = 0 ∧ R (ItCm b.toNat) H1
theorem pi_comb {e : Expr} {te : L2.St → Hp → (Int → Int → Hp → Prop) → Prop} {elts : List Expr} {kk k2 : Nat} {p pos tpos q2 : Pos} (hc : X.calm = true) (hg : Gl X "combinations") (hm : X.mg "combinations" = some (.type "itertools.combinations")) (he : PRg X e te)
    (na : starEach [e, .Constant (.int 2) k2 q2] X.env = (false, eval e X.env) :: starEach [.Constant (.int 2) k2 q2] X.env := by rfl)
    (nb : starEach [.Constant (.int 2) k2 q2] X.env = (false, eval (.Constant (.int 2) k2 q2) X.env) :: starEach [] X.env := by rfl) (hp : (backTo pos (starEach [.Constant (.int 2) k2 q2] X.env)).any (·.1) = false := by rfl) :
    PI X (.Tuple elts kk tpos) (.Call (.Name "combinations" p) [e, .Constant (.int 2) k2 q2] [] pos) (iComb te) := by
  refine ⟨fun pins s σ H R I h => ?_⟩
  refine Call_ (ld_glob I hg hm ?_ (by decide))
  refine PyProof.Rows.callWith_type1 (args_cons (thn (he pins s σ H _ I h) fun x s1 ⟨r, a, b, t, u, v, H1, ex, hr, I1, ok, ea, q⟩ => ?_) na) na hp
  subst ex
  refine args_cons ?_ nb
  refine wpAny_Constant_int ?_
  refine args_nil ?_
  obtain ⟨b1, b2, b3, b4, b5⟩ := ok
  subst ea
  refine call_comb (s := { s1 with toks := s1.toks + 1 }) (n := (b - 0).toNat) (I1.ok.hd hc) hr (small_one b1 b2 b3 b4) (rangeSize_nat 0 b) b5 fun h' tk acc hk hacc => ?_
  have en : (b - 0).toNat = b.toNat := by congr 1; omega
  rw [en] at hacc ⊢
  have I2 : Inv X pins σ H1 { s1 with heap := h', toks := tk } := I1.kept hk
  have I3 : Inv X pins σ H1 { s1 with heap := (h'.push { cls := .type "tuple", data := .seq acc }).push { cls := .type "itertools.combinations", data := .fields #[.ref h'.objs.size, rawInt (if 2 > b.toNat then 2 else 0), .none, rawInt 0, rawInt 1] }, toks := tk } := I2.kept (t' := tk) fun c o e => Heap.get?_push_of_some _ (Heap.get?_push_of_some _ e)
  have gz : ((h'.push { cls := .type "tuple", data := .seq acc }).push { cls := .type "itertools.combinations", data := .fields #[.ref h'.objs.size, rawInt (if 2 > b.toNat then 2 else 0), .none, rawInt 0, rawInt 1] }).get? (h'.objs.size + 1) = some { cls := .type "itertools.combinations", data := .fields #[.ref h'.objs.size, rawInt (if 2 > b.toNat then 2 else 0), .none, rawInt 0, rawInt 1] } := by
    have g : ((h'.push { cls := .type "tuple", data := .seq acc }).push { cls := .type "itertools.combinations", data := .fields #[.ref h'.objs.size, rawInt (if 2 > b.toNat then 2 else 0), .none, rawInt 0, rawInt 1] }).get? (h'.push { cls := .type "tuple", data := .seq acc }).objs.size = some { cls := .type "itertools.combinations", data := .fields #[.ref h'.objs.size, rawInt (if 2 > b.toNat then 2 else 0), .none, rawInt 0, rawInt 1] } := Heap.get?_push_size _ rfl
    rw [show (h'.push { cls := .type "tuple", data := .seq acc }).objs.size = h'.objs.size + 1 from Heap.size_push ..] at g
    exact g
  have gp : ((h'.push { cls := .type "tuple", data := .seq acc }).push { cls := .type "itertools.combinations", data := .fields #[.ref h'.objs.size, rawInt (if 2 > b.toNat then 2 else 0), .none, rawInt 0, rawInt 1] }).get? h'.objs.size = some { cls := .type "tuple", data := .seq acc } := Heap.get?_push_of_some _ (Heap.get?_push_size _ rfl)
  have tn : CombTn b.toNat (h'.objs.size + 1) h'.objs.size 0 ((h'.push { cls := .type "tuple", data := .seq acc }).push { cls := .type "itertools.combinations", data := .fields #[.ref h'.objs.size, rawInt (if 2 > b.toNat then 2 else 0), .none, rawInt 0, rawInt 1] }) := by
    refine ⟨Nat.succ_ne_self _, ⟨acc, gp, hacc⟩, ?_⟩
    by_cases hb : 2 > b.toNat
    · rw [if_pos hb] at gz ⊢
      exact .inl ⟨by omega, rfl, gz⟩
    · rw [if_neg hb] at gz ⊢
      exact .inr (.inl ⟨by omega, rfl, gz⟩)
  obtain ⟨st, re, i1, j1, hz⟩ := tn.rec
  refine wpAny_pyIter_comb hz ?_
  refine ⟨h'.objs.size + 1, [h'.objs.size + 1, h'.objs.size], _, _, H1, rfl, I3, turn_comb, tn, fun c hcm => ?_, q⟩
  have hle : h'.objs.size ≤ c := by
    have e' : c = h'.objs.size + 1 ∨ c = h'.objs.size := by simpa using hcm
    rcases e' with z | z <;> rw [z]
    · exact Nat.le_succ _
    · exact Nat.le_refl _
  have hnone : H1 c = none := I2.hok.fresh hle
  exact I2.fpOk hle hnone
end
end L2

end
section
namespace PySem.F
/-! ### facts of itertools.permutations -/
theorem slot_perm_init : Slot "itertools.permutations" "__init__" "object.__init__" :=
  .of (owner := "object") (n := "__init__") (by rw [typeLookup_type, builtinLookup_eq_fast]; kernel_rfl) (by decide +kernel) (by decide +kernel) (by decide +kernel)
    (by first | exact .inl (by decide +kernel) | exact .inr (by decide +kernel)) (by rw [isSubtype_type]; kernel_rfl)
theorem slot_perm_next : Slot "itertools.permutations" "__next__" "itertools.permutations.__next__" :=
  .of (owner := "itertools.permutations") (n := "__next__") (by rw [typeLookup_type, builtinLookup_eq_fast]; kernel_rfl) (by decide +kernel) (by decide +kernel) (by decide +kernel)
    (by first | exact .inl (by decide +kernel) | exact .inr (by decide +kernel)) (by rw [isSubtype_type]; kernel_rfl)
theorem slot_perm_iter : Slot "itertools.permutations" "__iter__" "itertools.permutations.__iter__" :=
  .of (owner := "itertools.permutations") (n := "__iter__") (by rw [typeLookup_type, builtinLookup_eq_fast]; kernel_rfl) (by decide +kernel) (by decide +kernel) (by decide +kernel)
    (by first | exact .inl (by decide +kernel) | exact .inr (by decide +kernel)) (by rw [isSubtype_type]; kernel_rfl)
theorem entry_perm_next : entryFor table "itertools.permutations.__next__" = some Builtin.«itertools.permutations.__next__» := entryFor_of_tree (by kernel_rfl)
theorem entry_perm_new : entryFor table "itertools.permutations.__new__" = some Builtin.«itertools.permutations.__new__» := entryFor_of_tree (by kernel_rfl)
theorem entry_perm_iter : entryFor table "itertools.permutations.__iter__" = some Builtin.«dict_keyiterator.__iter__» :=
  entryFor_alias (id' := "dict_keyiterator.__iter__") (by kernel_rfl) (by first | rfl | decide +kernel | (unfold String.splitOn; simp +decide [String.splitOnAux])) (by decide +kernel) (by kernel_rfl)
theorem mro_perm : mroOf (.type "itertools.permutations") = pure [.type "itertools.permutations", .type "object"] := by rw [mroOf_type]; kernel_rfl
theorem lookup_perm_new : typeLookup (.type "itertools.permutations") "__new__" = pure (some (.builtin "itertools.permutations.__new__")) := by rw [typeLookup_type, builtinLookup_eq_fast]; kernel_rfl
theorem called_perm : TypeCalled "itertools.permutations" "itertools.permutations.__new__" "object.__init__" :=
  ⟨by decide +kernel, by decide +kernel, ⟨_, _, mro_perm⟩, madeBy_type mro_perm lookup_perm_new (by decide +kernel), by decide +kernel, by rw [isSubtype_type]; kernel_rfl, slot_perm_init⟩
theorem typeCall_perm_1 (a : Value) : checkTypeCall "itertools.permutations" ⟨[a], []⟩ = pure () := by kernel_rfl
theorem newCall_perm_1 (a : Value) : checkBuiltinCall "itertools.permutations.__new__" ⟨[.type "itertools.permutations", a], []⟩ = pure () := by kernel_rfl
end PySem.F

end
section
namespace PySem
open Sem (wp)
/-- what the step of permutations is, without its name -/
def stAt (np : Nat → Nat → List Nat → List Nat → Option (List Nat × List Nat)) (n : Nat) : Nat → Option (List Nat × List Nat)
  | 0 => some (List.range n, (List.range n).map fun i => n - i)
  | k + 1 => (stAt np n k).bind fun p => np n n p.1 p.2
def runP (np : Nat → Nat → List Nat → List Nat → Option (List Nat × List Nat)) (n : Nat) : Nat → List Nat × List Nat → List (List Nat)
  | 0, _ => []
  | k + 1, p => p.1 :: match np n n p.1 p.2 with | some q => runP np n k q | none => []
theorem perm_np : ∃ np : Nat → Nat → List Nat → List Nat → Option (List Nat × List Nat),
    (∀ args : Args, Builtin.«itertools.permutations.__next__» args = (do
      let (self, _) ← slotArgs "__next__" 0 args
      let items ← Builtin.Itertools.itPoolItems (← field self 0)
      let n := items.size
      let r := (← Builtin.Itertools.itIntField self 2).toNat
      let numbers ← Builtin.Itertools.itNumbersFrom self 4
      let result : List Nat → Sem Fin := fun indices => do
        let t ← newTuple ((indices.take r).map fun i => items.getD i .none)
        let before ← field self 3
        setField self 3 t
        letGo [before] [t]
        ret t
      match ← Builtin.Itertools.itIntField self 1 with
      | 0 => do
        setField self 1 (rawInt 1)
        result numbers
      | 1 =>
        match np n r (numbers.take n) (numbers.drop n) with
        | some (indices, cycles) => do
          Builtin.Itertools.itSetNumbersFrom self 4 (indices ++ cycles)
          result indices
        | none => do
          setField self 1 (rawInt 2)
          Builtin.Itertools.itStop
      | _ => do
        rule "itertools.permutations.ended"
        Builtin.Itertools.itStop)) ∧
    (∀ n, n = 1 ∨ n = 2 ∨ n = 3 → (runP np n 1000 (List.range n, (List.range n).map fun i => n - i)).length = [0, 1, 2, 6, 24, 120, 720].getD n 0) := by
  refine ⟨_, fun args => rfl, ?_⟩
  rintro n (rfl | rfl | rfl) <;> decide +kernel
end PySem

end
section
namespace PySem
open Sem (wp)
namespace F
theorem owner_perm : Manifest.owners.lookup (String.ofList ['s', 'n', 'o', 'i', 't', 'a', 't', 'u', 'm', 'r', 'e', 'p', '.', 's', 'l', 'o', 'o', 't', 'r', 'e', 't', 'i'].reverse) = some Manifest.sig_itertools_permutations := by kernel_rfl
theorem args_perm_next_1 (a : Value) : argsOk "itertools.permutations.__next__" ⟨[a], []⟩ := by
  unfold argsOk; rw [signature?_of (id := "itertools.permutations.__next__") (n := ['_', '_', 't', 'x', 'e', 'n', '_', '_']) (o := ['s', 'n', 'o', 'i', 't', 'a', 't', 'u', 'm', 'r', 'e', 'p', '.', 's', 'l', 'o', 'o', 't', 'r', 'e', 't', 'i']) (by kernel_rfl) owner_perm]; kernel_rfl
theorem args_perm_iter_1 (a : Value) : argsOk "itertools.permutations.__iter__" ⟨[a], []⟩ := by
  unfold argsOk; rw [signature?_of (id := "itertools.permutations.__iter__") (n := ['_', '_', 'r', 'e', 't', 'i', '_', '_']) (o := ['s', 'n', 'o', 'i', 't', 'a', 't', 'u', 'm', 'r', 'e', 'p', '.', 's', 'l', 'o', 'o', 't', 'r', 'e', 't', 'i']) (by kernel_rfl) owner_perm]; kernel_rfl
end F
def permF (pl : Addr) (st r : Int) (res : Value) (nums : List Nat) : Array Value := #[.ref pl, rawInt st, rawInt r, res] ++ (nums.map fun (n : Nat) => rawInt n).toArray
abbrev IsPerm (h : Heap) (z pl : Addr) (st r : Int) (res : Value) (nums : List Nat) : Prop :=
  h.get? z = some { cls := .type "itertools.permutations", dict := none, data := .fields (permF pl st r res nums), slots := #[] }
section
variable {prog : Program} {w : World} {A : Around} {E : Value → Shared → Prop} {s : Shared}
theorem permF_set3 {pl : Addr} {st r : Int} {res v : Value} {nums : List Nat} : (permF pl st r res nums).setIfInBounds 3 v = permF pl st r v nums := by
  unfold permF
  rw [Array.setIfInBounds_append_left (by simp)]
  rfl
theorem permF_set1 {pl : Addr} {st r st' : Int} {res : Value} {nums : List Nat} : (permF pl st r res nums).setIfInBounds 1 (rawInt st') = permF pl st' r res nums := by
  unfold permF
  rw [Array.setIfInBounds_append_left (by simp)]
  rfl
theorem perm_hand {z pl : Addr} {items : Array Value} {st r : Int} {res : Value} {nums ind : List Nat} {Q : Value → Shared → Prop} (hz : IsPerm s.heap z pl st r res nums) (hl : ind.length ≤ 100)
    (hQ : ∀ h', IsPerm h' z pl st r (.ref s.heap.objs.size) nums → h'.get? s.heap.objs.size = some { cls := .type "tuple", data := .seq ((ind.take r.toNat).map fun i => items.getD i .none).toArray } → h'.objs.size = s.heap.objs.size + 1 →
      (∀ c x, c ≠ z → s.heap.get? c = some x → h'.get? c = some x) → Q (.ref s.heap.objs.size) { s with heap := h' }) :
    wpAny (model prog w) A (do
        let t ← newTuple ((ind.take r.toNat).map fun i => items.getD i .none)
        let before ← field (.ref z) 3
        setField (.ref z) 3 t
        letGo [before] [t]
        ret t) (fun r s' => ∃ v, r = .done (.ret v) ∧ Q v s') E s := by
  refine wpAny_bind ?_
  refine wpAny_newTuple ?_ (by rw [List.length_map, List.length_take]; show _ ≤ 16777216; omega)
  have hz1 : IsPerm (s.heap.push { cls := .type "tuple", data := .seq ((ind.take r.toNat).map fun i => items.getD i .none).toArray }) z pl st r res nums := Heap.get?_push_of_some _ hz
  refine wpAny_bind (wpAny_field hz1 rfl (x := res) (by simp [permF]) ?_)
  refine wpAny_bind (wpAny_setField_rec hz1 (by simp [permF]) fun h2 hz2 hs2 => ?_)
  rw [permF_set3] at hz2
  refine wpAny_bind (wpAny_letGo ?_)
  have hzl : z < s.heap.objs.size := Heap.lt_size hz
  refine wpAny_pure ⟨_, rfl, hQ h2 hz2 ?_ ?_ fun c x hc e => ?_⟩
  · exact hs2.extBut _ _ (Nat.ne_of_gt hzl) (Heap.get?_push_size _ rfl)
  · rw [hs2.1, Heap.size_push]
  · exact hs2.extBut _ _ hc (Heap.get?_push_of_some _ e)
theorem nums_drop {pl : Addr} {st r : Int} {res : Value} {nums : List Nat} {f : Value → Nat} (hf : ∀ n : Nat, f (rawInt n) = n) : List.map f (List.drop 4 (permF pl st r res nums).toList) = nums := by
  have e : List.drop 4 (permF pl st r res nums).toList = nums.map fun (n : Nat) => rawInt n := by simp [permF]
  rw [e, List.map_map]
  have : nums.map (f ∘ fun (n : Nat) => rawInt n) = nums.map id := List.map_congr_left fun n _ => hf n
  rw [this, List.map_id]
theorem perm_next0 {z pl : Addr} {items : Array Value} {o : Obj} {n0 : Nat} {r : Int} {res : Value} {nums : List Nat} {Q : Value → Shared → Prop} (hz : IsPerm s.heap z pl 0 r res nums) (hp : s.heap.get? pl = some o) (hd : o.data = .seq items n0) (hne : z ≠ pl) (hl : nums.length ≤ 100)
    (hQ : ∀ h', IsPerm h' z pl 1 r (.ref s.heap.objs.size) nums → h'.get? s.heap.objs.size = some { cls := .type "tuple", data := .seq ((nums.take r.toNat).map fun i => items.getD i .none).toArray } → h'.objs.size = s.heap.objs.size + 1 →
      (∀ c x, c ≠ z → s.heap.get? c = some x → h'.get? c = some x) → Q (.ref s.heap.objs.size) { s with heap := h' }) :
    wpAny (model prog w) A (Builtin.«itertools.permutations.__next__» ⟨[.ref z], []⟩) (fun r s' => ∃ v, r = .done (.ret v) ∧ Q v s') E s := by
  show wpAny _ _ (field (.ref z) 0 >>= _) _ _ _
  refine wpAny_bind (wpAny_field hz rfl (x := .ref pl) (by simp [permF]) ?_)
  refine wpAny_bind ?_
  unfold Builtin.Itertools.itPoolItems
  refine wpAny_bind (wpAny_seqItems hp hd ?_)
  refine wpAny_pure ?_
  refine wpAny_bind ?_
  unfold Builtin.Itertools.itIntField
  refine wpAny_bind (wpAny_field hz rfl (x := rawInt r) (by simp [permF]) ?_)
  refine wpAny_pure ?_
  refine wpAny_bind ?_
  unfold Builtin.Itertools.itNumbersFrom
  refine wpAny_bind (wpAny_load hz ?_)
  refine wpAny_pure ?_
  rw [nums_drop (fun n => by simp [rawInt])]
  refine wpAny_bind ?_
  refine wpAny_bind (wpAny_field hz rfl (x := rawInt 0) (by simp [permF]) ?_)
  refine wpAny_pure ?_
  refine wpAny_bind (wpAny_setField_rec hz (by simp [permF]) fun h1 hz1 hs1 => ?_)
  rw [permF_set1] at hz1
  refine perm_hand (s := { s with heap := h1 }) hz1 hl fun h' a1 a2 a3 a4 => ?_
  have sz : h1.objs.size = s.heap.objs.size := hs1.1
  show Q (.ref h1.objs.size) _
  rw [sz] at a1 a2 a3 ⊢
  exact hQ h' a1 a2 a3 fun c x hc e => a4 c x hc (hs1.extBut _ _ hc e)
/-- np is the step of permutations -/
def PermStep (np : Nat → Nat → List Nat → List Nat → Option (List Nat × List Nat)) : Prop :=
    ∀ args : Args, Builtin.«itertools.permutations.__next__» args = (do
      let (self, _) ← slotArgs "__next__" 0 args
      let items ← Builtin.Itertools.itPoolItems (← field self 0)
      let n := items.size
      let r := (← Builtin.Itertools.itIntField self 2).toNat
      let numbers ← Builtin.Itertools.itNumbersFrom self 4
      let result : List Nat → Sem Fin := fun indices => do
        let t ← newTuple ((indices.take r).map fun i => items.getD i .none)
        let before ← field self 3
        setField self 3 t
        letGo [before] [t]
        ret t
      match ← Builtin.Itertools.itIntField self 1 with
      | 0 => do
        setField self 1 (rawInt 1)
        result numbers
      | 1 =>
        match np n r (numbers.take n) (numbers.drop n) with
        | some (indices, cycles) => do
          Builtin.Itertools.itSetNumbersFrom self 4 (indices ++ cycles)
          result indices
        | none => do
          setField self 1 (rawInt 2)
          Builtin.Itertools.itStop
      | _ => do
        rule "itertools.permutations.ended"
        Builtin.Itertools.itStop)
theorem perm_next1 {np : Nat → Nat → List Nat → List Nat → Option (List Nat × List Nat)} (step : PermStep np) {z pl : Addr} {items : Array Value} {o : Obj} {n0 : Nat} {r : Int} {res : Value} {nums ind cyc : List Nat} {Q : Value → Shared → Prop} (hz : IsPerm s.heap z pl 1 r res nums) (hp : s.heap.get? pl = some o) (hd : o.data = .seq items n0) (hne : z ≠ pl)
    (hst : np items.size r.toNat (nums.take items.size) (nums.drop items.size) = some (ind, cyc)) (hl : ind.length ≤ 100) (hc : cyc.length ≤ 100)
    (hQ : ∀ h', IsPerm h' z pl 1 r (.ref s.heap.objs.size) (ind ++ cyc) → h'.get? s.heap.objs.size = some { cls := .type "tuple", data := .seq ((ind.take r.toNat).map fun i => items.getD i .none).toArray } → h'.objs.size = s.heap.objs.size + 1 →
      (∀ c x, c ≠ z → s.heap.get? c = some x → h'.get? c = some x) → Q (.ref s.heap.objs.size) { s with heap := h' }) :
    wpAny (model prog w) A (Builtin.«itertools.permutations.__next__» ⟨[.ref z], []⟩) (fun r s' => ∃ v, r = .done (.ret v) ∧ Q v s') E s := by
  rw [step]
  show wpAny _ _ (field (.ref z) 0 >>= _) _ _ _
  refine wpAny_bind (wpAny_field hz rfl (x := .ref pl) (by simp [permF]) ?_)
  refine wpAny_bind ?_
  unfold Builtin.Itertools.itPoolItems
  refine wpAny_bind (wpAny_seqItems hp hd ?_)
  refine wpAny_pure ?_
  refine wpAny_bind ?_
  unfold Builtin.Itertools.itIntField
  refine wpAny_bind (wpAny_field hz rfl (x := rawInt r) (by simp [permF]) ?_)
  refine wpAny_pure ?_
  refine wpAny_bind ?_
  unfold Builtin.Itertools.itNumbersFrom
  refine wpAny_bind (wpAny_load hz ?_)
  refine wpAny_pure ?_
  rw [nums_drop (fun n => by simp [rawInt])]
  refine wpAny_bind ?_
  refine wpAny_bind (wpAny_field hz rfl (x := rawInt 1) (by simp [permF]) ?_)
  refine wpAny_pure ?_
  show wpAny _ _ (match np items.size r.toNat (nums.take items.size) (nums.drop items.size) with | some (indices, cycles) => _ | none => _) _ _ s
  rw [hst]
  refine wpAny_bind ?_
  unfold Builtin.Itertools.itSetNumbersFrom
  refine wpAny_updateFields hz rfl ?_ (by simp; show _ ≤ 16777216 + 3; omega)
  have ef : (permF pl 1 r res nums).extract 0 4 ++ ((ind ++ cyc).map fun (n : Nat) => rawInt n).toArray = permF pl 1 r res (ind ++ cyc) := by
    simp [permF]
  have hz1 : IsPerm (s.heap.update z (Obj.mapFields fun fs => fs.extract 0 4 ++ ((ind ++ cyc).map fun (n : Nat) => rawInt n).toArray)) z pl 1 r res (ind ++ cyc) := by
    unfold IsPerm
    rw [← ef]
    exact Heap.get?_update_self _ hz rfl
  have sb : Heap.SameBut z s.heap (s.heap.update z (Obj.mapFields fun fs => fs.extract 0 4 ++ ((ind ++ cyc).map fun (n : Nat) => rawInt n).toArray)) := Heap.SameBut.update ..
  refine perm_hand hz1 hl fun h' a1 a2 a3 a4 => ?_
  have sz := sb.1
  show Q (.ref (s.heap.update z (Obj.mapFields fun fs => fs.extract 0 4 ++ ((ind ++ cyc).map fun (n : Nat) => rawInt n).toArray)).objs.size) _
  rw [sz] at a1 a2 a3 ⊢
  exact hQ h' a1 a2 a3 fun c x hc e => a4 c x hc (sb.extBut _ _ hc e)
theorem perm_next_end {np : Nat → Nat → List Nat → List Nat → Option (List Nat × List Nat)} (step : PermStep np) {z pl : Addr} {items : Array Value} {o : Obj} {n0 : Nat} {r : Int} {res : Value} {nums : List Nat} {Q : Fin → Shared → Prop} (hh : A.handled = none) (hz : IsPerm s.heap z pl 1 r res nums) (hp : s.heap.get? pl = some o) (hd : o.data = .seq items n0)
    (hst : np items.size r.toNat (nums.take items.size) (nums.drop items.size) = none)
    (hE : ∀ h' e, (∀ c x, c ≠ z → s.heap.get? c = some x → h'.get? c = some x) → (∃ o, h'.get? e = some o ∧ o.cls = .type "StopIteration") → E (.ref e) { s with heap := h' }) :
    wpAny (model prog w) A (Builtin.«itertools.permutations.__next__» ⟨[.ref z], []⟩) Q E s := by
  rw [step]
  show wpAny _ _ (field (.ref z) 0 >>= _) _ _ _
  refine wpAny_bind (wpAny_field hz rfl (x := .ref pl) (by simp [permF]) ?_)
  refine wpAny_bind ?_
  unfold Builtin.Itertools.itPoolItems
  refine wpAny_bind (wpAny_seqItems hp hd ?_)
  refine wpAny_pure ?_
  refine wpAny_bind ?_
  unfold Builtin.Itertools.itIntField
  refine wpAny_bind (wpAny_field hz rfl (x := rawInt r) (by simp [permF]) ?_)
  refine wpAny_pure ?_
  refine wpAny_bind ?_
  unfold Builtin.Itertools.itNumbersFrom
  refine wpAny_bind (wpAny_load hz ?_)
  refine wpAny_pure ?_
  rw [nums_drop (fun n => by simp [rawInt])]
  refine wpAny_bind ?_
  refine wpAny_bind (wpAny_field hz rfl (x := rawInt 1) (by simp [permF]) ?_)
  refine wpAny_pure ?_
  show wpAny _ _ (match np items.size r.toNat (nums.take items.size) (nums.drop items.size) with | some (indices, cycles) => _ | none => _) _ _ s
  rw [hst]
  refine wpAny_bind (wpAny_setField_rec hz (by simp [permF]) fun h1 hz1 hs1 => ?_)
  refine DVw.raise_stop hh fun h' e oe k1 k2 k3 => hE h' e (fun c x hc g => k1 c x (hs1.extBut _ _ hc g)) ⟨oe, k2, k3⟩
end
end PySem

end
section
namespace PySem
open Sem (wp)
section
variable {prog : Program} {w : World} {A : Around} {E : Value → Shared → Prop} {s : Shared}
theorem wpAny_pyIter_perm {z pl : Addr} {st r : Int} {res : Value} {nums : List Nat} {Q : Value → Shared → Prop} (hz : IsPerm s.heap z pl st r res nums) (h : Q (.ref z) s) : wpAny (model prog w) A (pyIter (.ref z)) Q E s := by
  have hT : s.TypeIs (.ref z) "itertools.permutations" := ⟨_, hz, rfl⟩
  refine wpAny_pyIter_slot hT F.slot_perm_iter (wpAny_call_entry F.slot_perm_iter hT F.entry_perm_iter ?_ (F.args_perm_iter_1 _))
  show wpAny _ _ (ret (.ref z)) _ _ s
  exact wpAny_pure ⟨_, rfl, "itertools.permutations", _, hT, F.slot_perm_next.lookup, h⟩
theorem pyNext_perm_item {np : Nat → Nat → List Nat → List Nat → Option (List Nat × List Nat)} (step : PermStep np) {z pl : Addr} {items : Array Value} {o : Obj} {n0 : Nat} {st r : Int} {res : Value} {nums ind cyc : List Nat} {Q : Option Value → Shared → Prop} (hz : IsPerm s.heap z pl st r res nums) (hp : s.heap.get? pl = some o) (hd : o.data = .seq items n0) (hne : z ≠ pl)
    (hst : (st = 0 ∧ nums = ind ++ cyc ∧ r.toNat = ind.length) ∨ (st = 1 ∧ np items.size r.toNat (nums.take items.size) (nums.drop items.size) = some (ind, cyc))) (hl : ind.length ≤ 50) (hc : cyc.length ≤ 50)
    (hQ : ∀ h', IsPerm h' z pl 1 r (.ref s.heap.objs.size) (ind ++ cyc) → h'.get? s.heap.objs.size = some { cls := .type "tuple", data := .seq ((ind.take r.toNat).map fun i => items.getD i .none).toArray } → h'.objs.size = s.heap.objs.size + 1 →
      (∀ c x, c ≠ z → s.heap.get? c = some x → h'.get? c = some x) → Q (some (.ref s.heap.objs.size)) { s with heap := h' }) :
    wpAny (model prog w) A (pyNext (.ref z)) Q E s := by
  have hT : s.TypeIs (.ref z) "itertools.permutations" := ⟨_, hz, rfl⟩
  unfold pyNext
  refine wpAny_bind (wpAny_attempt (wpAny_callSpecial?_slot (name := Str.ofString "__next__") hT F.slot_perm_next
    (wpAny_call_entry F.slot_perm_next hT F.entry_perm_next ?_ (F.args_perm_next_1 _))))
  rcases hst with ⟨rfl, rfl, hr⟩ | ⟨rfl, hst⟩
  · refine perm_next0 hz hp hd hne (by rw [List.length_append]; omega) fun h' a1 a2 a3 a4 => wpAny_pure (hQ h' a1 ?_ a3 a4)
    rw [a2, hr, List.take_left, List.take_length]
  · exact perm_next1 step hz hp hd hne hst (by omega) (by omega) fun h' a1 a2 a3 a4 => wpAny_pure (hQ h' a1 a2 a3 a4)
theorem pyNext_perm_end {np : Nat → Nat → List Nat → List Nat → Option (List Nat × List Nat)} (step : PermStep np) {z pl : Addr} {items : Array Value} {o : Obj} {n0 : Nat} {r : Int} {res : Value} {nums : List Nat} {Q : Option Value → Shared → Prop} (hh : A.handled = none) (hz : IsPerm s.heap z pl 1 r res nums) (hp : s.heap.get? pl = some o) (hd : o.data = .seq items n0)
    (hst : np items.size r.toNat (nums.take items.size) (nums.drop items.size) = none)
    (hQ : ∀ h', (∀ c x, c ≠ z → s.heap.get? c = some x → h'.get? c = some x) → Q none { s with heap := h' }) : wpAny (model prog w) A (pyNext (.ref z)) Q E s := by
  have hT : s.TypeIs (.ref z) "itertools.permutations" := ⟨_, hz, rfl⟩
  unfold pyNext
  refine wpAny_bind (wpAny_attempt (wpAny_callSpecial?_slot (name := Str.ofString "__next__") hT F.slot_perm_next
    (wpAny_call_entry F.slot_perm_next hT F.entry_perm_next (perm_next_end step hh hz hp hd hst fun h' e hk he => ?_) (F.args_perm_next_1 _))))
  obtain ⟨o, ho, hc⟩ := he
  refine wpAny_bind (wpAny_isInstance (T := "StopIteration") (b := true) ⟨o, ho, hc⟩ isSubtype_stop ?_)
  exact wpAny_pure (hQ _ hk)
end
end PySem

end
section
namespace L2
open PySem PySem.Spec PyProof.Rows
section
variable {prog : Program} {w : World} {A : Around} {E : Value → Shared → Prop} {s : Shared} {r : Addr} {a b c : Int} {t u v : Tok} {n : Nat}
def initP (n : Nat) : List Nat := List.range n ++ (List.range n).map fun i => n - i
theorem initF {n : Nat} {x : Addr} : ([.ref x, rawInt (if (n : Int).toNat > n then 2 else 0), rawInt ((n : Int).toNat : Int), Value.none] ++ (List.range n).map (fun (i : Nat) => rawInt (i : Int)) ++ (List.range (n : Int).toNat).map (fun (i : Nat) => rawInt ((n : Int) - (i : Int)))).toArray = permF x 0 (n : Int) .none (initP n) := by
  have e : (List.range n).map (fun (i : Nat) => rawInt ((n : Int) - (i : Int))) = ((List.range n).map fun i => n - i).map fun (i : Nat) => rawInt (i : Int) := by
    rw [List.map_map]
    refine List.map_congr_left fun i m => ?_
    have := List.mem_range.mp m
    show rawInt ((n : Int) - (i : Int)) = rawInt ((n - i : Nat) : Int)
    congr 1
    omega
  unfold permF initP
  rw [List.map_append, ← e]
  simp
theorem perm_new {Q : Value → Shared → Prop} (hh : A.handled = none) (hr : IsRange s.heap r a b c t u v) (hsmall : Builtin.Range.small a b c = true) (hn : Builtin.Range.rangeSize a b c = n) (hlen : n ≤ 2 ^ 10)
    (hQ : ∀ (h' : Heap) (tk : Nat) (acc : Array Value), (∀ b o, s.heap.get? b = some o → h'.get? b = some o) → ItemsOf (fun i v => ∃ t, v = .int (a + i * c) t) acc n →
      Q (.ref (h'.objs.size + 1)) { s with heap := (h'.push { cls := .type "tuple", data := .seq acc }).push { cls := .type "itertools.permutations", data := .fields (permF h'.objs.size 0 (n : Int) .none (initP n)) }, toks := tk }) :
    wpAny (model prog w) A (Builtin.«itertools.permutations.__new__» ⟨[.type "itertools.permutations", .ref r], []⟩) (fun f s' => ∃ v, f = .done (.ret v) ∧ Q v s') E s := by
  have hsub : isSubtype (.type "itertools.permutations") (.type "itertools.permutations") = pure true := by rw [isSubtype_type]; kernel_rfl
  unfold Builtin.«itertools.permutations.__new__»
  refine wpAny_bind ?_
  unfold Builtin.Itertools.itClassAndRest
  have eT : ("itertools." ++ "permutations" : String) = "itertools.permutations" := by decide +kernel
  rw [eT]
  wp_walk using collect_range hh hr hsmall hn (by omega : n ≤ 2 ^ 24)
  intro h' tk acc hk hacc
  have el : acc.toList.length = n := by rw [Array.length_toList, hacc.1]
  refine wpAny_bind (m := pure (acc.toList.length : Int)) (wpAny_pure ?_)
  rw [el]
  have e2 : ¬ ((n : Int) < 0) := by omega
  have e3 : ¬ (Builtin.Itertools.itTooMany (n : Int) = true) := by
    unfold Builtin.Itertools.itTooMany
    simp
    omega
  show wpAny _ _ (if (n : Int) < 0 then _ else _) _ _ _
  rw [if_neg e2]
  show wpAny _ _ (if Builtin.Itertools.itTooMany (n : Int) = true then _ else _) _ _ _
  rw [if_neg e3]
  refine wpAny_bind (wpAny_newTuple ?_ (by rw [el, sizeLine_eq]; omega))
  refine wpAny_bind ?_
  unfold Builtin.Itertools.itNewRecord
  rw [if_pos (by decide +kernel), initF]
  have ea : acc.toList.toArray = acc := by simp
  rw [ea]
  refine wpAny_newObj_type ?_ (by
    show (permF _ _ _ _ _).size ≤ _
    unfold permF initP
    simp only [Array.size_append, List.size_toArray, List.length_map, List.length_append, List.length_range, List.length_cons, List.length_nil, sizeLine_eq]
    omega)
  refine wpAny_pure ⟨_, rfl, ?_⟩
  have q := hQ h' tk acc hk hacc
  have sz : (h'.push { cls := .type "tuple", data := .seq acc }).objs.size = h'.objs.size + 1 := Heap.size_push ..
  show Q (.ref (h'.push { cls := .type "tuple", data := .seq acc }).objs.size) _
  rw [sz]
  exact q
theorem call_perm {Q : Value → Shared → Prop} (hh : A.handled = none) (hr : IsRange s.heap r a b c t u v) (hsmall : Builtin.Range.small a b c = true) (hn : Builtin.Range.rangeSize a b c = n) (hlen : n ≤ 2 ^ 10)
    (hQ : ∀ (h' : Heap) (tk : Nat) (acc : Array Value), (∀ b o, s.heap.get? b = some o → h'.get? b = some o) → ItemsOf (fun i v => ∃ t, v = .int (a + i * c) t) acc n →
      Q (.ref (h'.objs.size + 1)) { s with heap := (h'.push { cls := .type "tuple", data := .seq acc }).push { cls := .type "itertools.permutations", data := .fields (permF h'.objs.size 0 (n : Int) .none (initP n)) }, toks := tk }) :
    wpAny (model prog w) A (call (.type "itertools.permutations") [.ref r]) Q E s := by
  refine callType_newIn F.called_perm (by decide) (F.typeCall_perm_1 _) (F.newCall_perm_1 _) (fun obj => F.args_object_init_2 obj _) F.entry_perm_new
    (S := fun A R s' => A.handled = none ∧ s' = s ∧ ∀ (h' : Heap) (tk : Nat) (acc : Array Value), (∀ b o, s.heap.get? b = some o → h'.get? b = some o) → ItemsOf (fun i v => ∃ t, v = .int (a + i * c) t) acc n →
      R (.ok (.ret (.ref (h'.objs.size + 1)))) { s with heap := (h'.push { cls := .type "tuple", data := .seq acc }).push { cls := .type "itertools.permutations", data := .fields (permF h'.objs.size 0 (n : Int) .none (initP n)) }, toks := tk }) ?_ ?_
  · refine .of_wp fun A R s' h => ?_
    obtain ⟨h1, rfl, h2⟩ := h
    refine wpAny_mono (perm_new (A := A.in1) h1 hr hsmall hn hlen (Q := fun v s' => R (.ok (.ret v)) s') fun h' tk acc hk hacc => h2 h' tk acc hk hacc) (fun f s' q => ?_) fun _ _ z => z
    obtain ⟨v, rfl, q⟩ := q
    exact ⟨_, rfl, q⟩
  · refine ⟨hh, rfl, fun h' tk acc hk hacc => ?_⟩
    have g : ((h'.push { cls := .type "tuple", data := .seq acc }).push { cls := .type "itertools.permutations", data := .fields (permF h'.objs.size 0 (n : Int) .none (initP n)) }).get? (h'.push { cls := .type "tuple", data := .seq acc }).objs.size = some { cls := .type "itertools.permutations", data := .fields (permF h'.objs.size 0 (n : Int) .none (initP n)) } := Heap.get?_push_size _ rfl
    rw [show (h'.push { cls := .type "tuple", data := .seq acc }).objs.size = h'.objs.size + 1 from Heap.size_push ..] at g
    exact ⟨⟨_, g, rfl⟩, hQ h' tk acc hk hacc⟩
end
end L2

end
section
namespace L2
open PySem PySem.Spec PyProof.Rows
abbrev NP := Nat → Nat → List Nat → List Nat → Option (List Nat × List Nat)
/-- the orders L are what comes -/
structure SeqP (np : NP) (n : Nat) (L : List (List Nat)) : Prop where
  step : PermStep np
  at' : ∀ i o, L[i]? = some o → ∃ cyc, stAt np n i = some (o, cyc) ∧ o.length = n ∧ cyc.length = n ∧ ∀ x ∈ o, x < n
  fin : stAt np n L.length = none
  few : n ≤ 50
/-- the orders, each a new tuple -/
def ItPm (L : List (List Nat)) : It :=
  ⟨fun k _ => k < L.length, fun k H v H' => ∃ T o, v = .ref T ∧ H T = none ∧ L[k]? = some o ∧ H' = upd H T (.tup (o.map fun (x : Nat) => V.int (x : Int))), fun k _ => k = L.length⟩
def PermTn (np : NP) (n : Nat) (z pl : Addr) (k : Nat) (h : Heap) : Prop :=
  z ≠ pl ∧ (∃ acc, h.get? pl = some { cls := .type "tuple", data := .seq acc } ∧ ItemsOf (fun i v => ∃ t, v = .int (0 + i * 1) t) acc n) ∧
  ((k = 0 ∧ IsPerm h z pl 0 (n : Int) .none (initP n)) ∨ ∃ k' p res, k = k' + 1 ∧ stAt np n k' = some p ∧ IsPerm h z pl 1 (n : Int) res (p.1 ++ p.2))
theorem PermTn.rec {np : NP} {n : Nat} {z pl : Addr} {k : Nat} {h : Heap} (t : PermTn np n z pl k h) : ∃ st res nums, IsPerm h z pl st (n : Int) res nums := by
  obtain ⟨_, _, a | ⟨k', p, res, _, _, a⟩⟩ := t
  · exact ⟨_, _, _, a.2⟩
  · exact ⟨_, _, _, a⟩
theorem vals_pool {n : Nat} {acc : Array Value} (ho : ItemsOf (fun i v => ∃ t, v = .int (0 + i * 1) t) acc n) : ∀ {o : List Nat}, (∀ x ∈ o, x < n) → Vals (o.map fun (x : Nat) => V.int (x : Int)) (o.map fun i => acc.getD i .none)
  | [], _ => .nil
  | x :: o, h => by
    have hx := h x List.mem_cons_self
    have sz : acc.size = n := ho.1
    have hlt : x < acc.size := by omega
    obtain ⟨t, e⟩ := ho.2 x acc[x] (by simp [hlt])
    refine .cons ⟨t, ?_⟩ (vals_pool ho fun y m => h y (List.mem_cons_of_mem _ m))
    show acc.getD x .none = _
    rw [Array.getD_eq_getD_getElem?, Array.getElem?_eq_getElem hlt]
    show acc[x] = _
    rw [e]
    congr 1
    omega
theorem turn_perm {P : Program} {w : World} {K : PySem.W.Frag} {tx : Str} {tp : Pos} {np : NP} {n : Nat} {L : List (List Nat)} (G : SeqP np n L) {z pl : Addr} :
    Turn P w K (.Name tx tp) (ItPm L) [z, pl] z (PermTn np n z pl) where
  mem := by simp
  obj := fun i h st c hc => by
    obtain ⟨s1, r1, i1, hz⟩ := st.rec
    obtain ⟨acc, hp, _⟩ := st.2.1
    have e' : c = z ∨ c = pl := by simpa using hc
    rcases e' with q | q
    · rw [q]; exact ⟨_, hz, fun v q => nomatch q⟩
    · rw [q]; exact ⟨_, hp, fun v q => nomatch q⟩
  keep := fun i h h' st k => by
    obtain ⟨ne, ⟨acc, hp, ho⟩, a | ⟨k', p, res, b1, b2, a⟩⟩ := st
    · exact ⟨ne, ⟨acc, k pl (by simp) _ hp, ho⟩, .inl ⟨a.1, k z (by simp) _ a.2⟩⟩
    · exact ⟨ne, ⟨acc, k pl (by simp) _ hp, ho⟩, .inr ⟨k', p, res, b1, b2, k z (by simp) _ a⟩⟩
  item := by
    intro X hP hw hK hc i pins s σ H E I hf st hg
    subst hP hw hK
    obtain ⟨o, ho'⟩ : ∃ o, L[i]? = some o := ⟨_, List.getElem?_eq_getElem hg⟩
    obtain ⟨cyc, hat, ol, cl, olt⟩ := G.at' i o ho'
    obtain ⟨ne, ⟨acc, hp, ho⟩, hc3⟩ := st
    have sz : acc.size = n := ho.1
    have few := G.few
    obtain ⟨s1, r1, nums, hz, hst⟩ : ∃ st res nums, IsPerm s.heap z pl st (n : Int) res nums ∧ ((st = 0 ∧ nums = o ++ cyc ∧ (n : Int).toNat = o.length) ∨ (st = 1 ∧ np acc.size (n : Int).toNat (nums.take acc.size) (nums.drop acc.size) = some (o, cyc))) := by
      rcases hc3 with a | ⟨k', p0, res, b1, b2, a⟩
      · rw [a.1] at hat
        unfold stAt at hat
        cases hat
        exact ⟨_, _, _, a.2, .inl ⟨rfl, rfl, by simp⟩⟩
      · subst b1
        have hat : (stAt np n k').bind (fun p => np n n p.1 p.2) = some (o, cyc) := hat
        rw [b2] at hat
        have hat : np n n p0.1 p0.2 = some (o, cyc) := hat
        obtain ⟨c2, q1, q2, q3, _⟩ := G.at' k' p0.1 (by
          cases q : L[k']? with
          | none =>
            have := List.getElem?_eq_none_iff.mp q
            have hg : k' + 1 < L.length := hg
            omega
          | some x =>
            obtain ⟨c3, w1, _⟩ := G.at' k' x q
            rw [b2] at w1
            cases w1
            rfl)
        refine ⟨_, _, _, a, .inr ⟨rfl, ?_⟩⟩
        rw [sz, Int.toNat_natCast, ← q2, List.take_left, List.drop_left, q2]
        exact hat
    refine pyNext_perm_item G.step hz hp rfl ne hst (by omega) (by omega) fun h' g1 g2 g3 g4 => ?_
    refine ⟨_, rfl, ?_⟩
    refine wpAny_pure ?_
    have hzl : z < s.heap.objs.size := Heap.lt_size hz
    have hpl : pl < s.heap.objs.size := Heap.lt_size hp
    rw [Int.toNat_natCast, ← ol, List.take_length] at g2
    have new : ObjOk X.prog X.w (upd H s.heap.objs.size (.tup (o.map fun (x : Nat) => V.int (x : Int)))) h' s.heap.objs.size (.tup (o.map fun (x : Nat) => V.int (x : Int))) :=
      ⟨by rw [List.length_map, sizeLine_eq]; omega, _, vals_pool ho olt, ⟨_, g2, rfl, _, rfl⟩⟩
    have I1 : Inv X pins σ (upd H s.heap.objs.size (.tup (o.map fun (x : Nat) => V.int (x : Int)))) { s with heap := h' } :=
      I.turnedNew (t' := s.toks) (ch := [z, pl]) (fun c o hb q => g4 c o (fun q' => hb (by simp [q'])) q) hf (Nat.le_refl _) new
    refine ⟨.ref s.heap.objs.size, _, I1, rfl, ⟨_, o, rfl, I.hok.fresh (Nat.le_refl _), ho', rfl⟩, ⟨ne, ⟨acc, g4 _ _ ne.symm hp, ho⟩, .inr ⟨i, (o, cyc), _, rfl, hat, g1⟩⟩, fun c hcm => ?_⟩
    have hlt : c < s.heap.objs.size := by
      have e' : c = z ∨ c = pl := by simpa using hcm
      rcases e' with q | q
      · rw [q]; exact hzl
      · rw [q]; exact hpl
    rw [upd_ne (Nat.ne_of_lt hlt)]
    exact (hf c hcm).1
  done := by
    intro X hP hw hK hc i pins s σ H E I hf st hg
    subst hP hw hK
    have hg : i = L.length := hg
    have fin := G.fin
    obtain ⟨ne, ⟨acc, hp, ho⟩, a | ⟨k', p, res, b1, b2, a⟩⟩ := st
    · rw [← hg, a.1] at fin
      unfold stAt at fin
      cases fin
    · rw [← hg, b1] at fin
      have fin : (stAt np n k').bind (fun p => np n n p.1 p.2) = none := fin
      rw [b2] at fin
      have fin : np n n p.1 p.2 = none := fin
      have sz : acc.size = n := ho.1
      obtain ⟨x, hx⟩ : ∃ x, L[k']? = some x := ⟨_, List.getElem?_eq_getElem (by omega)⟩
      obtain ⟨c3, w1, w2, _⟩ := G.at' k' x hx
      rw [b2] at w1
      cases w1
      exact pyNext_perm_end G.step (I.ok.hd hc) a hp rfl (by rw [sz, Int.toNat_natCast, ← w2, List.take_left, List.drop_left, w2]; exact fin) fun h' hk => ⟨rfl, I.turnedL (t' := s.toks) (ch := [z, pl]) (fun c o hb q => hk c o (fun q' => hb (by simp [q'])) q) hf⟩
  self := fun A i s Q E st h => by
    obtain ⟨s1, r1, i1, hz⟩ := st.rec
    exact wpAny_pyIter_perm hz h
end L2

end
section
namespace L2
open PySem PySem.Spec PyProof.Rows
section
variable {X : Cx}
/-- permutations(range(b)) -/
def iPerm (f : L2.St → Hp → (Int → Int → Hp → Prop) → Prop) : TI := fun σ H R => f σ H fun a b H1 => RgOk a b ∧ a = 0 ∧ b ≤ 50 ∧ ∃ np L, SeqP np b.toNat L ∧ R (ItPm L) H1
theorem pi_perm {e : Expr} {te : L2.St → Hp → (Int → Int → Hp → Prop) → Prop} {tx : Str} {p pos tpos : Pos} (hc : X.calm = true) (hg : Gl X "permutations") (hm : X.mg "permutations" = some (.type "itertools.permutations")) (he : PRg X e te)
    (na : starEach [e] X.env = (false, eval e X.env) :: starEach [] X.env := by rfl)
    (hp : (backTo pos (starEach ([] : List Expr) X.env)).any (·.1) = false := by rfl) :
    PI X (.Name tx tpos) (.Call (.Name "permutations" p) [e] [] pos) (iPerm te) := by
  refine ⟨fun pins s σ H R I h => ?_⟩
  refine Call_ (ld_glob I hg hm ?_ (by decide))
  refine PyProof.Rows.callWith_type1 (args_cons (thn (he pins s σ H _ I h) fun x s1 ⟨r, a, b, t, u, v, H1, ex, hr, I1, ok, ea, b50, np, L, G, q⟩ => ?_) na) na hp
  subst ex
  refine args_nil ?_
  obtain ⟨b1, b2, b3, b4, b5⟩ := ok
  subst ea
  refine call_perm (s := s1) (n := (b - 0).toNat) (I1.ok.hd hc) hr (small_one b1 b2 b3 b4) (rangeSize_nat 0 b) (by omega) fun h' tk acc hk hacc => ?_
  have en : (b - 0).toNat = b.toNat := by congr 1; omega
  rw [en] at hacc ⊢
  have I2 : Inv X pins σ H1 { s1 with heap := h', toks := tk } := I1.kept hk
  have I3 : Inv X pins σ H1 { s1 with heap := (h'.push { cls := .type "tuple", data := .seq acc }).push { cls := .type "itertools.permutations", data := .fields (permF h'.objs.size 0 (b.toNat : Int) .none (initP b.toNat)) }, toks := tk } := I2.kept (t' := tk) fun c o q => Heap.get?_push_of_some _ (Heap.get?_push_of_some _ q)
  have gz : ((h'.push { cls := .type "tuple", data := .seq acc }).push { cls := .type "itertools.permutations", data := .fields (permF h'.objs.size 0 (b.toNat : Int) .none (initP b.toNat)) }).get? (h'.objs.size + 1) = some { cls := .type "itertools.permutations", data := .fields (permF h'.objs.size 0 (b.toNat : Int) .none (initP b.toNat)) } := by
    have g : ((h'.push { cls := .type "tuple", data := .seq acc }).push { cls := .type "itertools.permutations", data := .fields (permF h'.objs.size 0 (b.toNat : Int) .none (initP b.toNat)) }).get? (h'.push { cls := .type "tuple", data := .seq acc }).objs.size = some { cls := .type "itertools.permutations", data := .fields (permF h'.objs.size 0 (b.toNat : Int) .none (initP b.toNat)) } := Heap.get?_push_size _ rfl
    rw [show (h'.push { cls := .type "tuple", data := .seq acc }).objs.size = h'.objs.size + 1 from Heap.size_push ..] at g
    exact g
  have gp : ((h'.push { cls := .type "tuple", data := .seq acc }).push { cls := .type "itertools.permutations", data := .fields (permF h'.objs.size 0 (b.toNat : Int) .none (initP b.toNat)) }).get? h'.objs.size = some { cls := .type "tuple", data := .seq acc } := Heap.get?_push_of_some _ (Heap.get?_push_size _ rfl)
  have tn : PermTn np b.toNat (h'.objs.size + 1) h'.objs.size 0 ((h'.push { cls := .type "tuple", data := .seq acc }).push { cls := .type "itertools.permutations", data := .fields (permF h'.objs.size 0 (b.toNat : Int) .none (initP b.toNat)) }) :=
    ⟨Nat.succ_ne_self _, ⟨acc, gp, hacc⟩, .inl ⟨rfl, gz⟩⟩
  refine wpAny_pyIter_perm gz ?_
  refine ⟨h'.objs.size + 1, [h'.objs.size + 1, h'.objs.size], _, _, H1, rfl, I3, turn_perm G, tn, fun c hcm => ?_, q⟩
  have hle : h'.objs.size ≤ c := by
    have e' : c = h'.objs.size + 1 ∨ c = h'.objs.size := by simpa using hcm
    rcases e' with z | z <;> rw [z]
    · exact Nat.le_succ _
    · exact Nat.le_refl _
  have hnone : H1 c = none := I2.hok.fresh hle
  exact I2.fpOk hle hnone
end
end L2

end
section
namespace L2
open PySem PySem.Spec PyProof.Rows
def runQ (np : NP) (n : Nat) : Nat → List Nat × List Nat → List (List Nat × List Nat)
  | 0, _ => []
  | k + 1, p => p :: match np n n p.1 p.2 with | some q => runQ np n k q | none => []
def itF (np : NP) (n : Nat) : Nat → List Nat × List Nat → Option (List Nat × List Nat)
  | 0, p => some p
  | k + 1, p => (np n n p.1 p.2).bind (itF np n k)
theorem itF_snoc (np : NP) (n : Nat) : ∀ (k : Nat) (p : List Nat × List Nat), (itF np n k p).bind (fun q => np n n q.1 q.2) = itF np n (k + 1) p
  | 0, p => by
    show np n n p.1 p.2 = (np n n p.1 p.2).bind (itF np n 0)
    cases np n n p.1 p.2 <;> rfl
  | k + 1, p => by
    show ((np n n p.1 p.2).bind (itF np n k)).bind _ = (np n n p.1 p.2).bind (itF np n (k + 1))
    cases np n n p.1 p.2 with
    | none => rfl
    | some q => exact itF_snoc np n k q
theorem stAt_itF (np : NP) (n : Nat) : ∀ k, stAt np n k = itF np n k (List.range n, (List.range n).map fun i => n - i)
  | 0 => rfl
  | k + 1 => by
    rw [← itF_snoc, ← stAt_itF np n k]
    rfl
theorem runQ_ok (np : NP) (n : Nat) : ∀ (k : Nat) (p : List Nat × List Nat), (runQ np n k p).length < k → (∀ i q, (runQ np n k p)[i]? = some q → itF np n i p = some q) ∧ itF np n (runQ np n k p).length p = none
  | 0, p, h => by cases h
  | k + 1, p, h => by
    unfold runQ at h ⊢
    cases e : np n n p.1 p.2 with
    | none =>
      rw [e] at h
      refine ⟨fun i q hq => ?_, ?_⟩
      · cases i with
        | zero => exact hq
        | succ i => cases hq
      · show (np n n p.1 p.2).bind _ = none
        rw [e]
        rfl
    | some p2 =>
      rw [e] at h
      have ih := runQ_ok np n k p2 (by simp at h; omega)
      refine ⟨fun i q hq => ?_, ?_⟩
      · cases i with
        | zero => exact hq
        | succ i =>
          show (np n n p.1 p.2).bind (itF np n i) = some q
          rw [e]
          exact ih.1 i q hq
      · show (np n n p.1 p.2).bind (itF np n (runQ np n k p2).length) = none
        rw [e]
        exact ih.2
/-- what the kernel checks of the step -/
def okQ (np : NP) (n : Nat) : Bool :=
  let L := runQ np n 1000 (List.range n, (List.range n).map fun i => n - i)
  decide (L.length < 1000) && L.all fun q => decide (q.1.length = n) && decide (q.2.length = n) && q.1.all fun x => decide (x < n)
theorem seqP_of {np : NP} (step : PermStep np) {n : Nat} (few : n ≤ 50) (h : okQ np n = true) : SeqP np n ((runQ np n 1000 (List.range n, (List.range n).map fun i => n - i)).map (·.1)) := by
  unfold okQ at h
  rw [Bool.and_eq_true, decide_eq_true_eq] at h
  obtain ⟨h1, h2⟩ := h
  obtain ⟨g1, g2⟩ := runQ_ok np n 1000 _ h1
  refine ⟨step, fun i o ho => ?_, ?_, few⟩
  · rw [List.getElem?_map] at ho
    cases q : (runQ np n 1000 (List.range n, (List.range n).map fun i => n - i))[i]? with
    | none => rw [q] at ho; cases ho
    | some p =>
      rw [q] at ho
      cases ho
      have m := List.all_eq_true.mp h2 p (List.mem_of_getElem? q)
      rw [Bool.and_eq_true, Bool.and_eq_true, decide_eq_true_eq, decide_eq_true_eq] at m
      exact ⟨p.2, by rw [stAt_itF]; exact g1 i p q, m.1.1, m.1.2, fun x hx => of_decide_eq_true (List.all_eq_true.mp m.2 x hx)⟩
  · rw [List.length_map, stAt_itF]
    exact g2
theorem perm_all : ∃ np : NP, PermStep np ∧ ∀ n, n = 1 ∨ n = 2 ∨ n = 3 ∨ n = 4 ∨ n = 5 ∨ n = 6 → okQ np n = true := by
  refine ⟨_, fun args => rfl, ?_⟩
  rintro n (rfl | rfl | rfl | rfl | rfl | rfl) <;> decide +kernel
end L2

end
section
namespace L2
open PySem PySem.Spec PyProof.Rows
def lawP : Nat → List (List Nat)
  | 0 => [[]]
  | n + 1 => (lawP n).flatMap fun row => (List.range (row.length + 1)).map fun i => (row.take i ++ [n]) ++ row.drop i
def invO (o : List Nat) : List Nat := (List.range o.length).map fun h => o.findIdx (· == h)
def codO (o : List Nat) : Nat := o.foldl (fun a x => a * 8 + x) 1
def decO : Nat → Nat → List Nat
  | 0, _ => []
  | n + 1, c => decO n (c / 8) ++ [c % 8]
/-- what the kernel checks of the orders -/
def okR (np : NP) (n : Nat) : Bool :=
  let L := (runQ np n 1000 (List.range n, (List.range n).map fun i => n - i)).map (·.1)
  (L.all fun o => o.isPerm (List.range n)) && (L.all fun o => decO n (codO (invO o)) == invO o) && ((lawP n).all fun o => decO n (codO o) == o) && (L.map fun o => codO (invO o)).isPerm ((lawP n).map codO)
theorem perm_all2 : ∃ np : NP, PermStep np ∧ ∀ n, n = 1 ∨ n = 2 ∨ n = 3 ∨ n = 4 ∨ n = 5 ∨ n = 6 → okQ np n = true ∧ okR np n = true := by
  refine ⟨_, fun args => rfl, ?_⟩
  rintro n (rfl | rfl | rfl | rfl | rfl | rfl) <;> exact ⟨by decide +kernel, by decide +kernel⟩
theorem orders_nat : ∃ np : NP, ∀ n, 1 ≤ n → n ≤ 6 → ∃ L, SeqP np n L ∧ (∀ o ∈ L, o.Perm (List.range n)) ∧ (L.map invO).Perm (lawP n) := by
  obtain ⟨np, st, h⟩ := perm_all2
  refine ⟨np, fun n h1 h6 => ?_⟩
  obtain ⟨q, r⟩ := h n (by omega)
  refine ⟨_, seqP_of st (by omega) q, ?_⟩
  unfold okR at r
  generalize (runQ np n 1000 (List.range n, (List.range n).map fun i => n - i)).map (·.1) = L at *
  simp only [Bool.and_eq_true, List.all_eq_true, beq_iff_eq, List.isPerm_iff] at r
  obtain ⟨⟨⟨r1, r2⟩, r3⟩, r4⟩ := r
  refine ⟨r1, ?_⟩
  have p := r4.map (decO n)
  rw [List.map_map, List.map_map] at p
  have e1 : L.map (decO n ∘ fun o => codO (invO o)) = L.map invO := List.map_congr_left fun o ho => r2 o ho
  have e2 : (lawP n).map (decO n ∘ codO) = lawP n := by
    conv => rhs; rw [← List.map_id (lawP n)]
    exact List.map_congr_left fun o ho => r3 o ho
  rw [e1, e2] at p
  exact p
theorem invO_get {o : List Nat} (hn : o.Nodup) {i : Nat} (hi : i < o.length) : o.findIdx (· == o[i]) = i := by
  rw [List.findIdx_eq hi]
  refine ⟨by simp, fun j hj => ?_⟩
  have := List.pairwise_iff_getElem.mp hn j i (by omega) hi hj
  simp [this]
theorem invO_len (o : List Nat) : (invO o).length = o.length := by unfold invO; rw [List.length_map, List.length_range]
theorem lawP_len : ∀ (n : Nat) (r : List Nat), r ∈ lawP n → r.length = n
  | 0, r, h => by rw [lawP, List.mem_singleton] at h; subst h; rfl
  | n + 1, r, h => by
    rw [lawP, List.mem_flatMap] at h
    obtain ⟨a, h1, h2⟩ := h
    obtain ⟨i, h3, rfl⟩ := List.mem_map.mp h2
    have := lawP_len n a h1
    rw [List.mem_range] at h3
    simp
    omega
end L2

end
section
namespace L2
open PySem PySem.Spec PyProof.Rows
section
variable {X : Cx} {tg : Expr}
/-- over a list or a tuple -/
def iSeq (K : PySem.W.Frag) (tl : TE) : TI := fun σ H R => tl σ H fun x H1 => ∃ a, x = .ref a ∧ (((∃ xs, SqL K H1 a xs) ∧ R (Itl K a) H1) ∨ ((∃ xs, SqT K H1 a xs) ∧ R (Itt K a) H1))
theorem pi_seq {l : Expr} {tl : TE} (hl : PE X l tl) : PI X tg l (iSeq X.K tl) := by
  refine ⟨fun pins s σ H R I h => ?_⟩
  refine thn (hl.run pins s σ H _ I h) fun v s1 ⟨x, H1, I1, r1, q1⟩ => ?_
  obtain ⟨a, e, ⟨⟨xs, hq⟩, q⟩ | ⟨⟨xs, hq⟩, q⟩⟩ := q1
  · subst e
    cases r1
    obtain ⟨its, rv, p, hz⟩ := I1.list hq
    refine wpAny_pyIter_list p.isList ?_
    refine ⟨s1.heap.objs.size, [s1.heap.objs.size], _, _, H1, rfl, I1.kept (t' := s1.toks) fun b o e => Heap.get?_push_of_some _ e, turn_list a _, ⟨_, Heap.get?_push_size _ rfl, rfl, rfl⟩, fun b hb => ?_, q⟩
    have e : b = s1.heap.objs.size := by simpa using hb
    subst e
    exact I1.fpOk (Nat.le_refl _) (I1.hok.fresh (Nat.le_refl _))
  · subst e
    cases r1
    obtain ⟨its, rv, p, hz⟩ := I1.tuple hq
    refine wpAny_pyIter_tuple (show s1.heap.IsTuple a its.toArray from p) ?_
    refine ⟨s1.heap.objs.size, [s1.heap.objs.size], _, _, H1, rfl, I1.kept (t' := s1.toks) fun b o e => Heap.get?_push_of_some _ e, turn_tuple a _, ⟨_, Heap.get?_push_size _ rfl, rfl, rfl⟩, fun b hb => ?_, q⟩
    have e : b = s1.heap.objs.size := by simpa using hb
    subst e
    exact I1.fpOk (Nat.le_refl _) (I1.hok.fresh (Nat.le_refl _))
end
end L2

end
namespace Fa
open PySem PySem.Spec PyProof.Rows L2
def rIsNone : R2 := fun x y H Q => y = .non ∧ Q (.bl (decide (x = .non))) H
def rNotNone : R2 := fun x y H Q => y = .non ∧ Q (.bl (!decide (x = .non))) H
def rMin2 : List V → Hp → VK → Prop := fun xs H Q => ∃ i j, xs = [.int i, .int j] ∧ Q (.int (if j < i then j else i)) H
section
variable {K : PySem.W.Frag} {D : Ends} {σ : L2.St} {H : Hp} {Q : VK} {ta tb tc te : TE} {t u : TS} {b c : TT} {x y v : V} {r : R2} {i : Nat} {QB : Bool → Hp → Prop} {QA : List V → Hp → Prop}
theorem r_seq (h : t { D with nx := u D } σ H) : tSeq t u D σ H := h
theorem r_asg (h : te σ H fun x H1 => D.nx (σ.set i (some x)) H1) : tAsg te (gName i) D σ H := h
theorem r_asgG {g : TG} (h : te σ H fun x H1 => g x σ H1 D.nx) : tAsg te g D σ H := h
theorem r_par {i j : Nat} {ta : TA} (h : ta σ H fun vs H1 => ∃ v w, vs = [v, w] ∧ D.nx ((σ.set i (some v)).set j (some w)) H1) : tPar i j ta D σ H := h
theorem r_if (h : c σ H fun b H1 => if b = true then t D σ H1 else u D σ H1) : tIfS c t u D σ H := h
theorem r_ret (h : te σ H D.rt) : tRet te D σ H := h
theorem r_drop (h : te σ H fun _ H1 => D.nx σ H1) : tDrop te D σ H := h
theorem r_next (h : D.nx σ H) : tNext D σ H := h
theorem r_var (h : σ[i]? = some (some v)) (q : Q v H) : tVar i σ H Q := ⟨v, h, q⟩
theorem r_c (q : Q v H) : tC v σ H Q := q
theorem r_op (h : ta σ H fun x H1 => tb σ H1 fun y H2 => r x y H2 Q) : tOp r ta tb σ H Q := h
theorem r_un {f : V → Hp → VK → Prop} (h : ta σ H fun x H1 => f x H1 Q) : tUn f ta σ H Q := h
theorem r_I0 {g : Int → Int → V} {i j : Int} (q : Q (g i j) H) : rI0 g (.int i) (.int j) H Q := ⟨i, j, rfl, rfl, q⟩
theorem r_I {C : Int → Int → Prop} {g : Int → Int → V} {i j : Int} (hc : C i j) (q : Q (g i j) H) : rI C g (.int i) (.int j) H Q := ⟨i, j, rfl, rfl, hc, q⟩
theorem r_U {g : Int → V} {i : Int} (q : Q (g i) H) : rU g (.int i) H Q := ⟨i, rfl, q⟩
theorem r_test (h : te σ H fun x H' => ∃ k, x = .bl k ∧ QB k H') : tTest te σ H QB := h
theorem r_B (h : te σ H fun x H' => ∃ k, x = .bl k ∧ QB k H') : tB te σ H QB := h
theorem r_bl {k : Bool} {B : Bool → Prop} (q : B k) : ∃ k', V.bl k = V.bl k' ∧ B k' := ⟨k, rfl, q⟩
theorem r_eq (hs : scal x y = true) (q : Q (.bl (decide (x = y))) H) : rEq x y H Q := ⟨hs, q⟩
theorem r_ne (hs : scal x y = true) (q : Q (.bl (!decide (x = y))) H) : rNe x y H Q := ⟨hs, q⟩
theorem r_eqI {i j : Int} (q : Q (.bl (decide (i = j))) H) : rEq (.int i) (.int j) H Q := ⟨rfl, by
  have e : decide (V.int i = V.int j) = decide (i = j) := by by_cases h : i = j <;> simp [h]
  rw [e]; exact q⟩
theorem r_neI {i j : Int} (q : Q (.bl (!decide (i = j))) H) : rNe (.int i) (.int j) H Q := ⟨rfl, by
  have e : decide (V.int i = V.int j) = decide (i = j) := by by_cases h : i = j <;> simp [h]
  rw [e]; exact q⟩
theorem r_nil (q : QA [] H) : tNil σ H QA := q
theorem r_cons {tr : TA} (h : ta σ H fun x H1 => tr σ H1 fun xs H2 => QA (x :: xs) H2) : tCons ta tr σ H QA := h
theorem r_tup {ta : TA} (h : ta σ H fun xs H1 => xs.length ≤ sizeLine ∧ ∀ p, H1 p = none → Q (.ref p) (upd H1 p (.tup xs))) : tTup ta σ H Q := h
theorem r_lst {ta : TA} (h : ta σ H fun xs H1 => xs.length ≤ sizeLine ∧ ∀ p, H1 p = none → Q (.ref p) (upd H1 p (.lst xs))) : tLst ta σ H Q := h
theorem r_call {sp : Sp} {dvs : List V} {E : XK} {ta : TA} (h : ta σ H fun vs H1 => sp (vs ++ dvs) H1 Q E) : tCall sp dvs E ta σ H Q := h
theorem r_cb {f : List V → Hp → VK → Prop} {ta : TA} (h : ta σ H fun vs H1 => f vs H1 Q) : tCB f ta σ H Q := h
theorem r_and {b c : TT} (h : b σ H fun k H1 => if k = true then c σ H1 QB else QB false H1) : tAnd b c σ H QB := h
theorem r_or {b c : TT} (h : b σ H fun k H1 => if k = true then QB true H1 else c σ H1 QB) : tOr b c σ H QB := h
theorem r_not {b : TT} (h : b σ H fun k H1 => QB (!k) H1) : tNot b σ H QB := h
theorem r_andV (h : ta σ H fun x H1 => ∃ c, x = .bl c ∧ if c = true then tb σ H1 Q else Q (.bl false) H1) : tAndV ta tb σ H Q := h
theorem r_orV (h : ta σ H fun x H1 => ∃ c, x = .bl c ∧ if c = true then Q (.bl true) H1 else tb σ H1 Q) : tOrV ta tb σ H Q := h
theorem r_notV (h : ta σ H fun x H1 => ∃ c, x = .bl c ∧ Q (.bl (!c)) H1) : tNotV ta σ H Q := h
theorem r_ifE (h : b σ H fun c H1 => if c = true then ta σ H1 Q else tb σ H1 Q) : tIf b ta tb σ H Q := h
theorem r_ixL {p : Addr} {xs : List V} {i : Int} (hl : SqL K H p xs) (ha : atI xs i = some v) (q : Q v H) : rIxL K (.ref p) (.int i) H Q := ⟨p, xs, i, v, rfl, rfl, hl, ha, q⟩
theorem r_ixT {p : Addr} {xs : List V} {i : Int} (hl : SqT K H p xs) (ha : atI xs i = some v) (q : Q v H) : rIxT K (.ref p) (.int i) H Q := ⟨p, xs, i, v, rfl, rfl, hl, ha, q⟩
theorem r_gSub {to ti : TE} {ts : TSet} {QS : L2.St → Hp → Prop} (h : to σ H fun o H1 => ti σ H1 fun i H2 => ts o i v H2 fun H3 => QS σ H3) : gSub to ti ts v σ H QS := h
theorem r_setL {p : Addr} {xs : List V} {k : Int} {j : Nat} {QH : Hp → Prop} (hl : H p = some (.lst xs)) (hj : ixN xs.length k = some j) (q : QH (upd H p (.lst (xs.set j v)))) : rSetL (.ref p) (.int k) v H QH := ⟨p, xs, k, j, rfl, rfl, hl, hj, q⟩
theorem r_sl {f : V → Option Int → Option Int → Hp → VK → Prop} {tl th : TO} (h : te σ H fun x H1 => tl σ H1 fun l H2 => th σ H2 fun u H3 => f x l u H3 Q) : tSl f te tl th σ H Q := h
theorem r_noPart {QO : Option Int → Hp → Prop} (h : QO none H) : tNoPart σ H QO := h
theorem r_part {QO : Option Int → Hp → Prop} (h : te σ H fun x H1 => ∃ i, x = .int i ∧ QO (some i) H1) : tPart te σ H QO := h
theorem r_partI {i : Int} {B : Int → Prop} (q : B i) : ∃ i', V.int i = V.int i' ∧ B i' := ⟨i, rfl, q⟩
theorem r_slL {a : Addr} {xs : List V} {lo hi : Option Int} (h : SqL K H a xs) (k : ∀ p, H p = none → Q (.ref p) (upd H p (.lst (cutV xs lo hi)))) : rSlL K (.ref a) lo hi H Q := ⟨a, xs, rfl, h, k⟩
theorem r_for {wi : TI} {g : TG} (h : wi σ H fun J H1 => ∃ W : Nat → Nat → L2.St → Hp → Prop, (∃ m, W 0 m σ H1) ∧ ∀ i m σ H, W i m σ H →
  (J.stop i H ∧ D.nx σ H) ∨ (J.go i H ∧ ∃ N : L2.St → Hp → Prop, (∀ σ' H', N σ' H' → ∃ m', m' < m ∧ W (i + 1) m' σ' H') ∧ ∀ x H', J.yld i H x H' → g x σ H' fun σ2 H2 => t { D with nx := N, ct := N, bk := D.nx } σ2 H2)) : tFor wi g t D σ H := h
theorem r_iList {R : It → Hp → Prop} (h : te σ H fun x H1 => ∃ a, x = .ref a ∧ (∃ xs, SqL K H1 a xs) ∧ R (Itl K a) H1) : iList K te σ H R := h
theorem r_iTup {R : It → Hp → Prop} (h : te σ H fun x H1 => ∃ a, x = .ref a ∧ (∃ xs, SqT K H1 a xs) ∧ R (Itt K a) H1) : iTup K te σ H R := h
theorem r_iRng1 {ta : TA} {R : It → Hp → Prop} (h : ta σ H fun vs H1 => ∃ j : Int, vs = [.int j] ∧ -(2 ^ 62) ≤ j ∧ j < 2 ^ 62 ∧ R (Itr 0 j.toNat) H1) : iRng1 ta σ H R := h
theorem r_iRng2 {ta : TA} {R : It → Hp → Prop} (h : ta σ H fun vs H1 => ∃ i j : Int, vs = [.int i, .int j] ∧ (-(2 ^ 62) ≤ i ∧ i < 2 ^ 62 ∧ -(2 ^ 62) ≤ j ∧ j < 2 ^ 62) ∧ R (Itr i (j - i).toNat) H1) : iRng2 ta σ H R := h
theorem r_iEnum {ta : TA} {R : It → Hp → Prop} (h : ta σ H fun vs H1 => ∃ a xs, vs = [.ref a] ∧ SqL K H1 a xs ∧ R (Ite K a) H1) : iEnum K ta σ H R := h
theorem r_iZip {ta : TA} {R : It → Hp → Prop} (h : ta σ H fun vs H1 => ∃ a b xs ys, vs = [.ref a, .ref b] ∧ SqL K H1 a xs ∧ SqL K H1 b ys ∧ R (Itz K a b) H1) : iZip K ta σ H R := h
theorem r_gName {i : Nat} {QS : L2.St → Hp → Prop} (q : QS (σ.set i (some v)) H) : gName i v σ H QS := q
theorem r_gTup2 {i j n : Nat} {a : Addr} {QS : L2.St → Hp → Prop} (hn : 2 = n) (hs : SqT K H a [x, y]) (q : QS ((σ.set i (some x)).set j (some y)) H) : gTup K n (gCons (gName i) (gCons (gName j) gNil)) (.ref a) σ H QS :=
  ⟨a, [x, y], rfl, hs, hn, x, [y], rfl, y, [], rfl, rfl, q⟩
theorem r_bm {T : String} {f : V → List V → Hp → VK → Prop} {ta : TA} (h : te σ H fun x H1 => tyV K T x H1 ∧ ta σ H1 fun xs H2 => f x xs H2 Q) : tBM K T f te ta σ H Q := h
theorem r_bm0 {T : String} {f : V → List V → Hp → VK → Prop} (h : te σ H fun x H1 => tyV K T x H1 ∧ f x [] H1 Q) : tBM0 K T f te σ H Q := h
theorem r_app {l : Addr} {xs : List V} (h : H l = some (.lst xs)) (hz : xs.length < 100000) (q : Q .non (upd H l (.lst (xs ++ [y])))) : rAppend (.ref l) [y] H Q := ⟨l, xs, y, rfl, rfl, h, Evl.sz_lt hz, q⟩
theorem tyL {a : Addr} {xs : List V} (h : SqL K H a xs) : tyV K "list" (.ref a) H := .inl ⟨rfl, xs, h⟩
theorem r_isN {A : Prop} (q : A) : V.non = V.non ∧ A := ⟨rfl, q⟩
theorem iteRT {c : Bool} {A B : Prop} (h : c = true) (q : A) : if c = true then A else B := by rw [if_pos h]; exact q
theorem iteRF {c : Bool} {A B : Prop} (h : c = false) (q : B) : if c = true then A else B := by rw [if_neg (by rw [h]; decide)]; exact q
theorem iteB {c : Bool} {A B : Prop} (h1 : c = true → A) (h2 : c = false → B) : if c = true then A else B := by
  cases c
  · exact iteF (h2 rfl)
  · exact iteT (h1 rfl)
theorem r_isi {t' : String} {T : String} {b : Bool} (ty : TyX K H x (.type t')) (h : kitB t' T = some b) (q : Q (.bl b) H) : rIsi K [x, .ty T] H Q := ⟨x, .ty T, .type t', .type T, b, rfl, .ty T, ty, kit_ty h, q⟩
theorem r_isiT {t' : String} {T : String} (ty : TyX K H x (.type t')) (h : kitB t' T = some true) (q : Q (.bl true) H) : rIsi K [x, .ty T] H Q := r_isi ty h q
theorem r_isiF {t' : String} {T : String} (ty : TyX K H x (.type t')) (h : kitB t' T = some false) (q : Q (.bl false) H) : rIsi K [x, .ty T] H Q := r_isi ty h q
theorem tyx_L {a : Addr} {xs : List V} (h : SqL K H a xs) : TyX K H (.ref a) (.type "list") := by
  rcases h with (h | ⟨o, h⟩) | ⟨o, its, n, h, c, _⟩
  · exact .base (.lst h)
  · exact .base (.frz h)
  · exact .kList h c
theorem tyx_T {a : Addr} {xs : List V} (h : SqT K H a xs) : TyX K H (.ref a) (.type "tuple") := by
  rcases h with (h | ⟨o, h⟩) | ⟨o, its, n, h, c, _⟩
  · exact .base (.tup h)
  · exact .fTuple h
  · exact .kTuple h c
theorem walk_zipT {a b : Addr} {xs ys : List V} {n : Nat} (hn : n = min xs.length ys.length) : Walk (RZ.ItzT K a b) n (fun H => SqT K H a xs ∧ SqT K H b ys) (YPair (fun i => xs[i]?) (fun i => ys[i]?)) := by
  subst hn
  refine ⟨fun i _ hi q => ?_, fun _ q => ⟨xs, ys, q.1, q.2, by omega⟩, fun i H v H' _ q y => ?_⟩
  · have h1 : i < xs.length := by omega
    have h2 : i < ys.length := by omega
    exact ⟨xs, ys, xs[i], ys[i], q.1, q.2, by simp [h1], by simp [h2]⟩
  · obtain ⟨T', x', z, h1, h2, h3, h4, h5⟩ := y
    exact ⟨T', x', z, h1, h2, h3, h4 xs q.1, h5 ys q.2⟩
theorem r_lc {wi : TI} {g : TG} {tt : TT} {vs : List Nat} (h : wi σ H fun J H1 => ∀ D, H1 D = none → ∃ W : Nat → Nat → Hp → Prop, (∃ m, W 0 m (upd H1 D (.lst []))) ∧ ∀ i m H, W i m H →
  (J.stop i H ∧ Q (.ref D) H) ∨ (J.go i H ∧ ∃ Nx : Hp → Prop, (∀ H', Nx H' → ∃ m', m' < m ∧ W (i + 1) m' H') ∧ ∀ x H', J.yld i H x H' → g x (wipe σ vs) H' fun σ2 H2 => wipe σ2 vs = wipe σ vs ∧ tt σ2 H2 fun b H3 =>
    if b = true then te σ2 H3 fun y H4 => ∃ acc, H4 D = some (.lst acc) ∧ acc.length < sizeLine ∧ Nx (upd H4 D (.lst (acc ++ [y]))) else Nx H3)) : tLc wi g tt te vs σ H Q := h
theorem r_yes (q : QB true H) : tYes σ H QB := q
theorem r_iZipA {ta : TA} {R : It → Hp → Prop} (h : ta σ H fun vs H1 => ∃ a b xs ys, vs = [.ref a, .ref b] ∧ ((SqL K H1 a xs ∧ SqL K H1 b ys ∧ R (Itz K a b) H1) ∨ (SqT K H1 a xs ∧ SqT K H1 b ys ∧ R (RZ.ItzT K a b) H1))) : RZ.iZipA K ta σ H R := h
theorem r_lstRg {f : L2.St → Hp → (Int → Int → Hp → Prop) → Prop} (h : f σ H fun a b H1 => RgOk a b ∧ ∀ q, H1 q = none → Q (.ref q) (upd H1 q (.lst (rgV a b)))) : tLstRg f σ H Q := h
theorem r_rg1 {QR : Int → Int → Hp → Prop} (h : ta σ H fun x H1 => ∃ n, x = .int n ∧ QR 0 n H1) : tRg1 ta σ H QR := h
theorem r_min2 {i j : Int} {B : Int → Int → Prop} (q : B i j) : ∃ i' j', [V.int i, V.int j] = [V.int i', V.int j'] ∧ B i' j' := ⟨i, j, rfl, q⟩
theorem r_par2 {x y : V} {B : V → V → Prop} (q : B x y) : ∃ v w, [x, y] = [v, w] ∧ B v w := ⟨x, y, rfl, q⟩
theorem r_popAt {l : Addr} {xs : List V} {i : Int} {y : V} (h : H l = some (.lst xs)) (h0 : 0 ≤ i) (h1 : i < (xs.length : Int)) (hs : xs.length ≤ 1000000) (hy : xs[i.toNat]? = some y) (q : Q y (upd H l (.lst (xs.eraseIdx i.toNat)))) : rPopAt (.ref l) [.int i] H Q :=
  ⟨l, xs, i, i.toNat, y, rfl, rfl, h, by omega, by omega, seqIndex_of h0 h1, hy, q⟩
theorem r_len {p : Addr} {xs : List V} (hl : SqL K H p xs ∨ SqT K H p xs) (q : Q (.int (xs.length : Int)) H) : (fun xs H Q => ∃ p ys, xs = [.ref p] ∧ (SqL K H p ys ∨ SqT K H p ys) ∧ Q (.int (List.length ys : Int)) H : List V → Hp → VK → Prop) [.ref p] H Q := ⟨p, xs, rfl, hl, q⟩
end
/-- all but what stands at p is as it was -/
def ExB (p : Addr) (H H' : Hp) : Prop := ∀ a o, a ≠ p → H a = some o → H' a = some o
theorem ExB.refl (p : Addr) (H : Hp) : ExB p H H := fun _ _ _ h => h
theorem ExB.trans {p : Addr} {H H1 H2 : Hp} (a : ExB p H H1) (b : ExB p H1 H2) : ExB p H H2 := fun c o n h => b c o n (a c o n h)
theorem ExB.of {p : Addr} {H H' : Hp} (e : Evl.Ex H H') : ExB p H H' := fun a o _ h => e a o h
theorem ExB.upd {p : Addr} {H : Hp} {o : HO} : ExB p H (upd H p o) := fun a u n h => by rw [upd_ne n]; exact h
theorem ExB.new {p q : Addr} {H : Hp} {o : HO} (h : H q = none) : ExB p H (L2.upd H q o) := ExB.of (Evl.Ex.new h)
theorem ExB.mut {p q : Addr} {H H' : Hp} {o : HO} (e : ExB p H H') (h : H q = none) : ExB p H (L2.upd H' q o) := fun a u n ha => by
  rw [upd_ne (ne_of_none ha h)]
  exact e a u n ha
/-- tuples stay -/
def ExT (H H' : Hp) : Prop := ∀ a xs, H a = some (.tup xs) → H' a = some (.tup xs)
/-- the law's pot: its cells at c, a place, a rest -/
def PotC (H : Hp) (p c : Addr) : Prop := ∃ (cs : List Int) (at' r : Int), H p = some (.lst [.ref c, .int at', .int r]) ∧ H c = some (.lst (cs.map V.int)) ∧ c ≠ p ∧ 0 ≤ at' ∧ 0 ≤ r ∧ cs.length ≤ 100
theorem PotC.np {H : Hp} {p c q : Addr} (h : PotC H p c) (n : H q = none) : q ≠ p := by
  obtain ⟨cs, a, r, h1, _⟩ := h
  exact (ne_of_none h1 n).symm
theorem PotC.nc {H : Hp} {p c q : Addr} (h : PotC H p c) (n : H q = none) : q ≠ c := by
  obtain ⟨cs, a, r, h1, h2, _⟩ := h
  exact (ne_of_none h2 n).symm
theorem PotC.upd {H : Hp} {p c q : Addr} {o : HO} (h : PotC H p c) (n1 : q ≠ p) (n2 : q ≠ c) : PotC (L2.upd H q o) p c := by
  obtain ⟨cs, a, r, h1, h2, h3⟩ := h
  exact ⟨cs, a, r, by rw [upd_ne n1.symm]; exact h1, by rw [upd_ne n2.symm]; exact h2, h3⟩
theorem PotC.new {H : Hp} {p c q : Addr} {o : HO} (h : PotC H p c) (n : H q = none) : PotC (L2.upd H q o) p c := h.upd (h.np n) (h.nc n)
theorem PotC.ex {H H' : Hp} {p c : Addr} (h : PotC H p c) (e : Evl.Ex H H') : PotC H' p c := by
  obtain ⟨cs, a, r, h1, h2, h3⟩ := h
  exact ⟨cs, a, r, e _ _ h1, e _ _ h2, h3⟩
theorem PotC.t {H H' : Hp} {p c : Addr} (h : PotC H p c) (e : ExB p H H') : ExT H H' := fun a xs ha => by
  obtain ⟨cs, at', r, h1, _⟩ := h
  exact e a _ (ne_of ha h1 (by intro z; cases z)) ha
theorem ExT.trans {H H1 H2 : Hp} (a : ExT H H1) (b : ExT H1 H2) : ExT H H2 := fun x o h => b x o (a x o h)
theorem ExT.of {H H' : Hp} (e : Evl.Ex H H') : ExT H H' := fun a xs h => e a _ h
theorem ExT.lst {H : Hp} {q : Addr} {xs : List V} {o : HO} (h : H q = some (.lst xs)) : ExT H (L2.upd H q o) := fun a ys ha => by
  rw [upd_ne (ne_of ha h (by intro z; cases z))]
  exact ha
theorem small_up {u : Int} (h0 : 0 < u) (h : u ≤ 100000) : u.natAbs < 2 ^ 1000 := Nat.lt_of_lt_of_le (show u.natAbs < 100001 by omega) (by decide)
theorem atI_of {α : Type} {xs : List α} {i : Int} {v : α} (h0 : 0 ≤ i) (h : xs[i.toNat]? = some v) : atI xs i = some v := by
  have e : ((i.toNat : Nat) : Int) = i := by omega
  rw [← e]
  exact atI_nat h
theorem atI_int {cs : List Int} {i : Int} (h0 : 0 ≤ i) (h1 : i < (cs.length : Int)) : atI (cs.map V.int) i = some (.int (cs.getD i.toNat 0)) := by
  refine atI_of h0 ?_
  have hi : i.toNat < cs.length := by omega
  rw [List.getElem?_map, List.getElem?_eq_getElem hi, List.getD_eq_getElem?_getD, List.getElem?_eq_getElem hi]
  rfl
def cutG {α : Type} (xs : List α) (lo hi : Option Int) : List α := (xs.drop (HT.sIx xs.length 0 lo)).take (HT.sIx xs.length xs.length hi - HT.sIx xs.length 0 lo)
theorem cutV_map {α : Type} (f : α → V) (xs : List α) (lo hi : Option Int) : cutV (xs.map f) lo hi = (cutG xs lo hi).map f := by
  unfold cutV cutG
  rw [List.length_map, List.map_take, List.map_drop]
theorem cutG_take {α : Type} (xs : List α) (k : Nat) : cutG xs none (some (k : Int)) = xs.take k := by
  unfold cutG
  rw [HT.sIx_none, HT.sIx_nat, List.drop_zero, Nat.sub_zero]
  by_cases h : k ≤ xs.length
  · rw [Nat.min_eq_left h]
  · rw [Nat.min_eq_right (by omega), List.take_length, List.take_of_length_le (by omega)]
theorem cutG_drop {α : Type} (xs : List α) (k : Nat) : cutG xs (some (k : Int)) none = xs.drop k := by
  unfold cutG
  rw [HT.sIx_none, HT.sIx_nat]
  by_cases h : k ≤ xs.length
  · rw [Nat.min_eq_left h, List.take_of_length_le (by rw [List.length_drop]; exact Nat.le_refl _)]
  · rw [Nat.min_eq_right (by omega), List.drop_length, List.drop_of_length_le (by omega), List.take_nil]
theorem cutG_len {α : Type} (xs : List α) (i j : Nat) : (cutG xs (some (i : Int)) (some (j : Int))).length ≤ j - i ∧ (xs.length ≤ i → (cutG xs (some (i : Int)) (some (j : Int))).length = 0) := by
  unfold cutG
  rw [HT.sIx_nat, HT.sIx_nat, List.length_take, List.length_drop]
  omega
theorem dpAll_get {K : PySem.W.Frag} {H : Hp} : ∀ {xs : List V} {ds : List PyData}, DpAll K H xs ds → xs.length = ds.length ∧ ∀ (i : Nat) (x : V), xs[i]? = some x → ∃ d, ds[i]? = some d ∧ Dp K H x d
  | _, _, .nil => ⟨rfl, fun i x h => by simp at h⟩
  | _, _, .cons h t => by
    obtain ⟨e, f⟩ := dpAll_get t
    refine ⟨by simp [e], fun i x hx => ?_⟩
    cases i with
    | zero => exact ⟨_, rfl, (Option.some.inj hx) ▸ h⟩
    | succ i => exact f i x hx
mutual
theorem Dp.ex {K : PySem.W.Frag} {H H' : Hp} (e : Evl.Ex H H') : ∀ (d : PyData) (v : V), Dp K H v d → Dp K H' v d
  | .none, _, h => by cases h; exact .non
  | .bool _, _, h => by cases h; exact .bl _
  | .int _, _, h => by cases h; exact .int _
  | .str _, _, h => by cases h; exact .str _
  | .list ds, _, h => by
    cases h with
    | lst h1 h2 => exact .lst (Evl.ex_l e h1) (DpAll.ex e ds _ h2)
  | .tuple ds, _, h => by
    cases h with
    | tup h1 h2 => exact .tup (Evl.ex_t e h1) (DpAll.ex e ds _ h2)
  | .dict _, _, h => by cases h
theorem DpAll.ex {K : PySem.W.Frag} {H H' : Hp} (e : Evl.Ex H H') : ∀ (ds : List PyData) (vs : List V), DpAll K H vs ds → DpAll K H' vs ds
  | [], _, h => by cases h; exact .nil
  | d :: ds, _, h => by
    cases h with
    | cons h1 h2 => exact .cons (Dp.ex e d _ h1) (DpAll.ex e ds _ h2)
end
theorem depthAll_mem : ∀ {ds : List PyData} {d : PyData}, d ∈ ds → d.depth ≤ PyData.depthAll ds
  | x :: r, d, h => by
    rw [PyData.depthAll]
    rcases List.mem_cons.mp h with rfl | h
    · omega
    · have := depthAll_mem h
      omega
theorem inV_rep (n : Nat) : inV (.bl false) (List.replicate n (V.bl true)) = false := by
  induction n with
  | zero => rfl
  | succ n ih => rw [List.replicate_succ]; simp [inV, eqV] at ih ⊢
theorem flat_rep (n : Nat) : (List.replicate n (V.bl true)).all flatV = true := by
  induction n with
  | zero => rfl
  | succ n ih => rw [List.replicate_succ, List.all_cons, ih]; rfl
mutual
def wd : PyData → Bool
  | .list ds => decide (ds.length ≤ 100000) && wdAll ds
  | .tuple ds => decide (ds.length ≤ 100000) && wdAll ds
  | .dict _ => false
  | _ => true
def wdAll : List PyData → Bool
  | [] => true
  | d :: r => wd d && wdAll r
end
theorem wdAll_mem : ∀ {ds : List PyData} {d : PyData}, wdAll ds = true → d ∈ ds → wd d = true
  | x :: r, d, h, hd => by
    rw [wdAll, Bool.and_eq_true] at h
    rcases List.mem_cons.mp hd with rfl | hd
    · exact h.1
    · exact wdAll_mem h.2 hd
/-! ### data -/
theorem shaped_ints (cs : List Int) : SeqAt.shaped (.list (cs.map PyData.int)) = true := by
  have h1 : PyData.canLayAll0 (cs.map PyData.int) = true := by
    induction cs with
    | nil => rfl
    | cons x r ih => simp [PyData.canLayAll0, PyData.canLay0, ih]
  have h2 : PyData.depthAll (cs.map PyData.int) ≤ 1 := by
    induction cs with
    | nil => simp [PyData.depthAll]
    | cons x r ih =>
      have := ih (by rw [List.map_cons, PyData.canLayAll0, Bool.and_eq_true] at h1; exact h1.2)
      simp [PyData.depthAll, PyData.depth]
      omega
  unfold SeqAt.shaped
  rw [Bool.and_eq_true]
  refine ⟨by rw [PyData.canLay0]; exact h1, decide_eq_true ?_⟩
  rw [PyData.depth]
  omega
theorem dpAll_ints {K : PySem.W.Frag} {H : Hp} : ∀ cs : List Int, DpAll K H (cs.map V.int) (cs.map PyData.int)
  | [] => .nil
  | x :: r => .cons (.int x) (dpAll_ints r)
theorem dp_ints {K : PySem.W.Frag} {H : Hp} {c : Addr} {cs : List Int} (h : SqL K H c (cs.map V.int)) : Dp K H (.ref c) (.list (cs.map PyData.int)) := .lst h (dpAll_ints cs)
/-! ### numbers from 0 on -/
def rgI (n : Int) : List Int := (List.range n.toNat).map fun i => ((i : Nat) : Int)
theorem rgI_len (n : Int) : (rgI n).length = n.toNat := by unfold rgI; rw [List.length_map, List.length_range]
theorem rgI_mem {n x : Int} : x ∈ rgI n ↔ 0 ≤ x ∧ x < n := by
  unfold rgI
  rw [List.mem_map]
  constructor
  · rintro ⟨i, hi, rfl⟩
    rw [List.mem_range] at hi
    omega
  · rintro ⟨h0, h1⟩
    exact ⟨x.toNat, List.mem_range.mpr (by omega), by omega⟩
theorem rgI_nd (n : Int) : (rgI n).Nodup := by
  unfold rgI
  refine List.Pairwise.map _ ?_ List.nodup_range
  intro a b h e
  exact h (by omega)
theorem rgV_eq (n : Int) : rgV 0 n = (rgI n).map V.int := by
  unfold rgV rgI
  rw [List.map_map, show n - 0 = n by omega]
  congr 1
  funext i
  show V.int (0 + (i : Nat)) = V.int ((i : Nat) : Int)
  rw [Int.zero_add]
/-! ### webs -/
def Lx (a b : Int × Int) : Prop := a.1 < b.1 ∨ (a.1 = b.1 ∧ a.2 < b.2)
structure WebOk (many : Int) (ties : List (Int × Int)) : Prop where
  lo : 1 ≤ many
  hi : many ≤ 60
  ok : ∀ t ∈ ties, 0 ≤ t.1 ∧ t.1 < t.2 ∧ t.2 < many
  up : ties.Pairwise Lx
def tieD (t : Int × Int) : PyData := .tuple [.int t.1, .int t.2]
def webD (many : Int) (ties : List (Int × Int)) : PyData := .tuple [.int many, .tuple (ties.map tieD)]
/-- the pair of two houses' places, the lesser ahead, as the law's min and max tell it -/
def fP (pl : List Int) (i j : Nat) : Int × Int :=
  (if pl.getD j 0 < pl.getD i 0 then pl.getD j 0 else pl.getD i 0, if pl.getD j 0 > pl.getD i 0 then pl.getD j 0 else pl.getD i 0)
theorem nd_ix {pl : List Int} (h : pl.Nodup) {i j : Nat} (hi : i < pl.length) (hj : j < pl.length) (e : pl.getD i 0 = pl.getD j 0) : i = j := by
  rw [List.getD_eq_getElem?_getD, List.getD_eq_getElem?_getD, List.getElem?_eq_getElem hi, List.getElem?_eq_getElem hj] at e
  have e : pl[i] = pl[j] := e
  have hp := List.pairwise_iff_getElem.mp h
  rcases Nat.lt_trichotomy i j with q | q | q
  · exact absurd e (hp i j hi hj q)
  · exact q
  · exact absurd e.symm (hp j i hj hi q)
theorem fP_inj {pl : List Int} (h : pl.Nodup) {i j i' j' : Nat} (h1 : i < j) (h2 : j < pl.length) (h3 : i' < j') (h4 : j' < pl.length) (e : fP pl i j = fP pl i' j') : i = i' ∧ j = j' := by
  have e1 := congrArg Prod.fst e
  have e2 := congrArg Prod.snd e
  unfold fP at e1 e2
  simp only at e1 e2
  have ne1 : pl.getD i 0 ≠ pl.getD j 0 := fun q => by have := nd_ix h (by omega) h2 q; omega
  have ne2 : pl.getD i' 0 ≠ pl.getD j' 0 := fun q => by have := nd_ix h (by omega) h4 q; omega
  have alt : (pl.getD i 0 = pl.getD i' 0 ∧ pl.getD j 0 = pl.getD j' 0) ∨ (pl.getD i 0 = pl.getD j' 0 ∧ pl.getD j 0 = pl.getD i' 0) := by
    generalize pl.getD i 0 = a at *
    generalize pl.getD j 0 = b at *
    generalize pl.getD i' 0 = c at *
    generalize pl.getD j' 0 = d at *
    split at e1 <;> split at e2 <;> split at e1 <;> split at e2 <;> omega
  rcases alt with ⟨q1, q2⟩ | ⟨q1, q2⟩
  · exact ⟨nd_ix h (by omega) (by omega) q1, nd_ix h (by omega) (by omega) q2⟩
  · have a := nd_ix h (by omega) (by omega) q1
    have b := nd_ix h (by omega) (by omega) q2
    omega
/-- the pairs so far: unlike, each of two indexes ahead of (one, other) -/
structure PsOk (pl : List Int) (ps : List (Int × Int)) (one other : Nat) : Prop where
  nd : ps.Nodup
  of : ∀ t ∈ ps, ∃ i j : Nat, i < j ∧ j < pl.length ∧ (i < one ∨ (i = one ∧ j < other)) ∧ t = fP pl i j
theorem PsOk.mono {pl : List Int} {ps : List (Int × Int)} {a b c d : Nat} (h : PsOk pl ps a b) (hle : ∀ i j : Nat, i < j → j < pl.length → (i < a ∨ (i = a ∧ j < b)) → (i < c ∨ (i = c ∧ j < d))) : PsOk pl ps c d :=
  ⟨h.nd, fun t ht => by
    obtain ⟨i, j, h1, h2, h3, h4⟩ := h.of t ht
    exact ⟨i, j, h1, h2, hle i j h1 h2 h3, h4⟩⟩
theorem PsOk.snoc {pl : List Int} {ps : List (Int × Int)} {a b : Nat} (hn : pl.Nodup) (h : PsOk pl ps a b) (hab : a < b) (hb : b < pl.length) : PsOk pl (ps ++ [fP pl a b]) a (b + 1) := by
  refine ⟨?_, fun t ht => ?_⟩
  · refine List.nodup_append.mpr ⟨h.nd, by simp, fun x hx y hy e => ?_⟩
    rw [List.mem_singleton] at hy
    subst hy
    obtain ⟨i, j, h1, h2, h3, h4⟩ := h.of x hx
    rw [e] at h4
    have := fP_inj hn hab hb h1 h2 h4
    omega
  · rcases List.mem_append.mp ht with ht | ht
    · obtain ⟨i, j, h1, h2, h3, h4⟩ := h.of t ht
      exact ⟨i, j, h1, h2, by omega, h4⟩
    · rw [List.mem_singleton] at ht
      exact ⟨a, b, hab, hb, by omega, ht⟩
theorem PsOk.valid {pl : List Int} {ps : List (Int × Int)} {a b : Nat} {many : Int} (hp : pl.Perm (rgI many)) (h : PsOk pl ps a b) : ∀ t ∈ ps, 0 ≤ t.1 ∧ t.1 < t.2 ∧ t.2 < many := fun t ht => by
  obtain ⟨i, j, h1, h2, h3, rfl⟩ := h.of t ht
  have hn : pl.Nodup := hp.nodup_iff.mpr (rgI_nd many)
  have mem : ∀ k, k < pl.length → 0 ≤ pl.getD k 0 ∧ pl.getD k 0 < many := fun k hk => by
    rw [List.getD_eq_getElem?_getD, List.getElem?_eq_getElem hk]
    exact rgI_mem.mp (hp.mem_iff.mp (List.getElem_mem hk))
  have m1 := mem i (by omega)
  have m2 := mem j h2
  have ne : pl.getD i 0 ≠ pl.getD j 0 := fun q => by have := nd_ix hn (by omega) h2 q; omega
  unfold fP
  simp only
  generalize pl.getD i 0 = x at *
  generalize pl.getD j 0 = y at *
  split <;> split <;> omega
theorem sorted_up {ps ps' : List (Int × Int)} (hn : ps.Nodup) (hp : ps'.Perm ps) (hs : ps'.Pairwise fun a b => SrtO.lexB b a = false) : ps'.Pairwise Lx := by
  have hn' : ps'.Nodup := hp.nodup_iff.mpr hn
  refine List.Pairwise.imp₂ ?_ hs hn'
  intro a b h ne
  have := SrtO.lexB_no.mp h
  obtain ⟨a1, a2⟩ := a
  obtain ⟨b1, b2⟩ := b
  have : ¬ (a1 = b1 ∧ a2 = b2) := fun q => ne (by rw [q.1, q.2])
  unfold Lx
  simp only at *
  omega
/-! ### tuples of two on the heap -/
def TupsAt (H : Hp) (rs : List V) (ps : List (Int × Int)) : Prop := Paired (fun r (p : Int × Int) => ∃ t, r = V.ref t ∧ H t = some (.tup [.int p.1, .int p.2])) rs ps
theorem TupsAt.mono {H H' : Hp} (e : ExT H H') : ∀ {rs : List V} {ps : List (Int × Int)}, TupsAt H rs ps → TupsAt H' rs ps
  | _, _, .nil => .nil
  | _, _, .cons ⟨t, h1, h2⟩ r => .cons ⟨t, h1, e t _ h2⟩ (TupsAt.mono e r)
theorem TupsAt.snoc {H : Hp} {t : Addr} {p : Int × Int} (ht : H t = some (.tup [.int p.1, .int p.2])) : ∀ {rs : List V} {ps : List (Int × Int)}, TupsAt H rs ps → TupsAt H (rs ++ [.ref t]) (ps ++ [p])
  | _, _, .nil => .cons ⟨t, rfl, ht⟩ .nil
  | _, _, .cons h r => .cons h (TupsAt.snoc ht r)
def pairOf (H : Hp) : V → Int × Int
  | .ref t => match H t with
    | some (.tup [.int a, .int b]) => (a, b)
    | _ => (0, 0)
  | _ => (0, 0)
theorem pairOf_at {H : Hp} {t : Addr} {p : Int × Int} (h : H t = some (.tup [.int p.1, .int p.2])) : pairOf H (.ref t) = p := by
  unfold pairOf
  simp only [h]
theorem TupsAt.map : ∀ {H : Hp} {rs : List V} {ps : List (Int × Int)}, TupsAt H rs ps → rs.map (pairOf H) = ps
  | _, _, _, .nil => rfl
  | H, _, _, .cons ⟨t, h1, h2⟩ r => by
    rw [List.map_cons, TupsAt.map r, h1, pairOf_at h2]
theorem TupsAt.all : ∀ {H : Hp} {rs : List V} {ps : List (Int × Int)}, TupsAt H rs ps → ∀ x ∈ rs, ∃ t, x = V.ref t ∧ H t = some (.tup [.int (pairOf H x).1, .int (pairOf H x).2])
  | _, _, _, .cons ⟨t, h1, h2⟩ r, x, hx => by
    rcases List.mem_cons.mp hx with e | hx
    · rw [e, h1]
      exact ⟨t, rfl, by rw [pairOf_at h2]; exact h2⟩
    · exact TupsAt.all r x hx
theorem tupsAt_of {H : Hp} : ∀ rs : List V, (∀ x ∈ rs, ∃ t, x = V.ref t ∧ H t = some (.tup [.int (pairOf H x).1, .int (pairOf H x).2])) → TupsAt H rs (rs.map (pairOf H))
  | [], _ => .nil
  | x :: r, h => .cons (h x List.mem_cons_self) (tupsAt_of r fun y hy => h y (List.mem_cons_of_mem _ hy))
theorem TupsAt.dp {K : PySem.W.Frag} {H : Hp} : ∀ {rs : List V} {ps : List (Int × Int)}, TupsAt H rs ps → DpAll K H rs (ps.map tieD)
  | _, _, .nil => .nil
  | _, _, .cons ⟨t, h1, h2⟩ r => by
    rw [h1]
    exact .cons (.tup (SqT.of h2) (.cons (.int _) (.cons (.int _) .nil))) (TupsAt.dp r)
/-- what is handed back: a web at a new tuple -/
theorem web_dp {K : PySem.W.Frag} {H : Hp} {q t : Addr} {many : Int} {rs : List V} {ps : List (Int × Int)} (h1 : SqT K H q [.int many, .ref t]) (h2 : SqT K H t rs) (h3 : DpAll K H rs (ps.map tieD)) : Dp K H (.ref q) (webD many ps) :=
  .tup h1 (.cons (.int _) (.cons (.tup h2 h3) .nil))
theorem eraseIdx_perm {α : Type} : ∀ (l : List α) (k : Nat) (y : α), l[k]? = some y → (y :: l.eraseIdx k).Perm l
  | [], _, _, h => by simp at h
  | x :: r, 0, y, h => by
    have e : x = y := Option.some.inj h
    rw [e]
    exact List.Perm.refl _
  | x :: r, k + 1, y, h => by
    have ih := eraseIdx_perm r k y (by simpa using h)
    rw [List.eraseIdx_cons_succ]
    exact (List.Perm.swap x y _).trans (ih.cons x)
theorem map_eraseIdx {α β : Type} (f : α → β) : ∀ (l : List α) (k : Nat), (l.map f).eraseIdx k = (l.eraseIdx k).map f
  | [], _ => rfl
  | _ :: _, 0 => rfl
  | x :: r, k + 1 => by rw [List.map_cons, List.eraseIdx_cons_succ, List.eraseIdx_cons_succ, List.map_cons, map_eraseIdx f r k]
theorem sort_same {a b : List Int} (hp : a.Perm b) (ha : a.Pairwise (· ≤ ·)) (hb : b.Pairwise (· ≤ ·)) : a = b :=
  hp.eq_of_pairwise (fun x y _ _ h1 h2 => Int.le_antisymm h1 h2) ha hb
theorem sort_of_lt {a : List Int} (h : a.Pairwise (· < ·)) : a.Pairwise (· ≤ ·) := h.imp fun q => Int.le_of_lt q
theorem len_le_of_sub {α : Type} [DecidableEq α] : ∀ {l m : List α}, l.Nodup → (∀ x ∈ l, x ∈ m) → l.length ≤ m.length
  | [], m, _, _ => Nat.zero_le _
  | x :: r, m, hn, hs => by
    have hx : x ∈ m := hs x List.mem_cons_self
    have h1 : r.length ≤ (m.erase x).length := len_le_of_sub (List.pairwise_cons.mp hn).2 fun y hy => (List.mem_erase_of_ne fun e => (List.pairwise_cons.mp hn).1 y hy e.symm).mpr (hs y (List.mem_cons_of_mem _ hy))
    rw [List.length_erase_of_mem hx] at h1
    have := List.length_pos_of_mem hx
    rw [List.length_cons]
    omega
/-- the other house of a tie that has h -/
def oth (h : Int) (t : Int × Int) : Option Int := if t.1 = h then some t.2 else if t.2 = h then some t.1 else none
/-- the houses that h is tied to -/
def nbr (ties : List (Int × Int)) (h : Int) : List Int := ties.filterMap (oth h)
theorem nbr_snoc (ties : List (Int × Int)) (t : Int × Int) (h : Int) : nbr (ties ++ [t]) h = nbr ties h ++ (oth h t).toList := by
  unfold nbr
  rw [List.filterMap_append]
  cases e : oth h t <;> simp [e]
theorem nbr_up {many : Int} {ties : List (Int × Int)} (W : WebOk many ties) (h : Int) : (nbr ties h).Pairwise (· < ·) := by
  unfold nbr
  rw [List.pairwise_filterMap]
  have hok := W.ok
  refine List.Pairwise.imp_of_mem ?_ W.up
  intro a b ma mb hab x hx y hy
  have ha := hok a ma
  have hb := hok b mb
  unfold oth at hx hy
  unfold Lx at hab
  split at hx <;> split at hy <;> (try split at hx) <;> (try split at hy) <;> simp at hx hy <;> omega
theorem nbr_mem {ties : List (Int × Int)} {h x : Int} : x ∈ nbr ties h ↔ ∃ t ∈ ties, oth h t = some x := by
  unfold nbr
  rw [List.mem_filterMap]
theorem nbr_iff {many : Int} {ties : List (Int × Int)} (W : WebOk many ties) {h x : Int} : x ∈ nbr ties h ↔ (h, x) ∈ ties ∨ (x, h) ∈ ties := by
  rw [nbr_mem]
  constructor
  · rintro ⟨⟨a, b⟩, ht, he⟩
    unfold oth at he
    simp only at he
    split at he
    · rename_i e
      cases he
      cases e
      exact .inl ht
    · split at he
      · rename_i e
        cases he
        cases e
        exact .inr ht
      · cases he
  · rintro (ht | ht)
    · exact ⟨_, ht, by unfold oth; rw [if_pos rfl]⟩
    · have := W.ok _ ht
      exact ⟨_, ht, by unfold oth; rw [if_neg (by simp only at this ⊢; omega), if_pos rfl]⟩
theorem nbr_range {many : Int} {ties : List (Int × Int)} (W : WebOk many ties) {h x : Int} (hx : x ∈ nbr ties h) : 0 ≤ x ∧ x < many := by
  rcases (nbr_iff W).mp hx with q | q
  · have := W.ok _ q; simp only at this; omega
  · have := W.ok _ q; simp only at this; omega
theorem nbr_len {many : Int} {ties : List (Int × Int)} (W : WebOk many ties) (h : Int) : (nbr ties h).length ≤ 60 := by
  have := len_le_of_sub (l := nbr ties h) (m := rgI many) ((nbr_up W h).imp fun q => Int.ne_of_lt q) fun x hx => rgI_mem.mpr (nbr_range W hx)
  rw [rgI_len] at this
  have := W.hi
  omega
theorem ties_len {many : Int} {ties : List (Int × Int)} (W : WebOk many ties) : ties.length ≤ 3600 := by
  have hn : ties.Nodup := W.up.imp fun {a b} h => by
    rintro rfl
    unfold Lx at h
    omega
  have s : ties.length ≤ ((List.range 60).flatMap fun i => (List.range 60).map fun j => (((i : Nat) : Int), ((j : Nat) : Int))).length := by
    refine len_le_of_sub hn fun t ht => ?_
    have := W.ok t ht
    have := W.hi
    rw [List.mem_flatMap]
    refine ⟨t.1.toNat, List.mem_range.mpr (by omega), List.mem_map.mpr ⟨t.2.toNat, List.mem_range.mpr (by omega), ?_⟩⟩
    obtain ⟨a, b⟩ := t
    simp only at *
    congr 1 <;> omega
  have e : ((List.range 60).flatMap fun i => (List.range 60).map fun j => (((i : Nat) : Int), ((j : Nat) : Int))).length = 3600 := by decide +kernel
  omega
def intsD (ns : List Int) : PyData := .list (ns.map PyData.int)
/-- for each house the houses that it is tied to -/
def besD (many : Int) (ties : List (Int × Int)) : PyData := .list ((rgI many).map fun h => intsD (nbr ties h))
theorem dp_intsD {K : PySem.W.Frag} {H : Hp} {a : Addr} {ns : List Int} (h : SqL K H a (ns.map V.int)) : Dp K H (.ref a) (intsD ns) := dp_ints h
/-- what stands behind a datum that is a list of ints -/
theorem intsD_at {K : PySem.W.Frag} {H : Hp} {v : V} {ns : List Int} (h : Dp K H v (intsD ns)) : ∃ a, v = .ref a ∧ SqL K H a (ns.map V.int) := by
  unfold intsD at h
  cases h with
  | lst hs ha =>
    rename_i a xs
    have e : xs = ns.map V.int := by
      clear hs
      induction ns generalizing xs with
      | nil => cases ha; rfl
      | cons n r ih =>
        cases ha with
        | cons h1 h2 =>
          cases h1
          rw [List.map_cons, ih h2]
    subst e
    exact ⟨a, rfl, hs⟩
theorem tieD_at {K : PySem.W.Frag} {H : Hp} {v : V} {t : Int × Int} (h : Dp K H v (tieD t)) : ∃ a, v = .ref a ∧ SqT K H a [.int t.1, .int t.2] := by
  unfold tieD at h
  cases h with
  | tup hs ha =>
    cases ha with
    | cons h1 h2 =>
      cases h1
      cases h2 with
      | cons h3 h4 =>
        cases h3
        cases h4
        exact ⟨_, rfl, hs⟩
theorem webD_at {K : PySem.W.Frag} {H : Hp} {v : V} {many : Int} {ties : List (Int × Int)} (h : Dp K H v (webD many ties)) : ∃ a b xs, v = .ref a ∧ SqT K H a [.int many, .ref b] ∧ SqT K H b xs ∧ DpAll K H xs (ties.map tieD) := by
  unfold webD at h
  cases h with
  | tup hs ha =>
    cases ha with
    | cons h1 h2 =>
      cases h1
      cases h2 with
      | cons h3 h4 =>
        cases h4
        cases h3 with
        | tup h5 h6 => exact ⟨_, _, _, rfl, hs, h5, h6⟩
theorem listD_at {K : PySem.W.Frag} {H : Hp} {v : V} {ds : List PyData} (h : Dp K H v (.list ds)) : ∃ a xs, v = .ref a ∧ SqL K H a xs ∧ DpAll K H xs ds := by
  cases h with
  | lst hs ha => exact ⟨_, _, rfl, hs, ha⟩
theorem besD_at {K : PySem.W.Frag} {H : Hp} {v : V} {many : Int} {ties : List (Int × Int)} (h : Dp K H v (besD many ties)) : ∃ a xs, v = .ref a ∧ SqL K H a xs ∧ xs.length = many.toNat ∧
    ∀ i : Int, 0 ≤ i → i < many → ∃ b, atI xs i = some (.ref b) ∧ SqL K H b ((nbr ties i).map V.int) := by
  obtain ⟨a, xs, rfl, hs, ha⟩ := listD_at h
  obtain ⟨hl, hg⟩ := dpAll_get ha
  rw [List.length_map, rgI_len] at hl
  refine ⟨a, xs, rfl, hs, hl, fun i h0 h1 => ?_⟩
  have hi : i.toNat < xs.length := by omega
  obtain ⟨d, e1, e2⟩ := hg i.toNat xs[i.toNat] (List.getElem?_eq_getElem hi)
  have e3 : d = intsD (nbr ties i) := by
    rw [List.getElem?_map] at e1
    unfold rgI at e1
    rw [List.getElem?_map, List.getElem?_range (by omega)] at e1
    have := Option.some.inj e1
    rw [← this]
    simp only
    rw [show ((i.toNat : Nat) : Int) = i by omega]
  subst e3
  obtain ⟨b, e4, e5⟩ := intsD_at e2
  exact ⟨b, atI_of h0 (by rw [List.getElem?_eq_getElem hi, e4]), e5⟩
theorem dpAll_ix {K : PySem.W.Frag} {H : Hp} : ∀ {xs : List V} {ds : List PyData}, xs.length = ds.length → (∀ (i : Nat) (x : V) (d : PyData), xs[i]? = some x → ds[i]? = some d → Dp K H x d) → DpAll K H xs ds
  | [], [], _, _ => .nil
  | [], _ :: _, h, _ => by simp at h
  | _ :: _, [], h, _ => by simp at h
  | x :: xs, d :: ds, h, f => .cons (f 0 x d rfl rfl) (dpAll_ix (by simpa using h) fun i y e h1 h2 => f (i + 1) y e (by simpa using h1) (by simpa using h2))
theorem rgI_get {n : Int} {i : Nat} (h : (i : Int) < n) : (rgI n)[i]? = some (i : Int) := by
  unfold rgI
  rw [List.getElem?_map, List.getElem?_range (by omega)]
  rfl
theorem bes_dp {K : PySem.W.Frag} {H : Hp} {q : Addr} {bs : List Addr} {many : Int} {ties : List (Int × Int)} (h : SqL K H q (bs.map V.ref)) (hl : bs.length = many.toNat)
    (hb : ∀ (k : Nat) (b : Addr), bs[k]? = some b → SqL K H b ((nbr ties (k : Int)).map V.int)) : Dp K H (.ref q) (besD many ties) := by
  refine .lst h (dpAll_ix (by rw [List.length_map, List.length_map, rgI_len, hl]) fun i x d h1 h2 => ?_)
  rw [List.getElem?_map] at h1 h2
  cases e : bs[i]? with
  | none => rw [e] at h1; cases h1
  | some b =>
    rw [e] at h1
    cases h1
    have hi : i < bs.length := (List.getElem?_eq_some_iff.mp e).1
    rw [rgI_get (by omega)] at h2
    cases h2
    exact dp_intsD (hb i b e)
theorem nd_ix' {α : Type} {l : List α} (h : l.Nodup) {i j : Nat} {a : α} (hi : l[i]? = some a) (hj : l[j]? = some a) : i = j := by
  have hp := List.pairwise_iff_getElem.mp h
  obtain ⟨h1, e1⟩ := List.getElem?_eq_some_iff.mp hi
  obtain ⟨h2, e2⟩ := List.getElem?_eq_some_iff.mp hj
  rcases Nat.lt_trichotomy i j with q | q | q
  · exact absurd (e1.trans e2.symm) (hp i j h1 h2 q)
  · exact q
  · exact absurd (e2.trans e1.symm) (hp j i h2 h1 q)
/-- a list of lists: for each house the houses that it is tied to -/
def BesAt (H : Hp) (v : V) (many : Int) (ties : List (Int × Int)) : Prop := ∃ (q : Addr) (bs : List Addr), v = .ref q ∧ H q = some (.lst (bs.map V.ref)) ∧ bs.length = many.toNat ∧ ∀ (k : Nat) (b : Addr), bs[k]? = some b → H b = some (.lst ((nbr ties (k : Int)).map V.int))
theorem BesAt.dp {K : PySem.W.Frag} {H : Hp} {v : V} {many : Int} {ties : List (Int × Int)} (h : BesAt H v many ties) : Dp K H v (besD many ties) := by
  obtain ⟨q, bs, rfl, h1, h2, h3⟩ := h
  exact bes_dp (SqL.of h1) h2 fun k b hb => SqL.of (h3 k b hb)
theorem BesAt.ex {H H' : Hp} {v : V} {many : Int} {ties : List (Int × Int)} (h : BesAt H v many ties) (e : Evl.Ex H H') : BesAt H' v many ties := by
  obtain ⟨q, bs, rfl, h1, h2, h3⟩ := h
  exact ⟨q, bs, rfl, e _ _ h1, h2, fun k b hb => e _ _ (h3 k b hb)⟩
theorem BesAt.at {H : Hp} {v : V} {many : Int} {ties : List (Int × Int)} (h : BesAt H v many ties) : ∃ (q : Addr) (xs : List V), v = .ref q ∧ H q = some (.lst xs) ∧ ∀ i : Int, 0 ≤ i → i < many → ∃ b, atI xs i = some (.ref b) ∧ H b = some (.lst ((nbr ties i).map V.int)) := by
  obtain ⟨q, bs, rfl, h1, h2, h3⟩ := h
  refine ⟨q, _, rfl, h1, fun i h0 hi => ?_⟩
  have lt : i.toNat < bs.length := by omega
  refine ⟨bs[i.toNat], atI_of h0 (by rw [List.getElem?_map, List.getElem?_eq_getElem lt]; rfl), ?_⟩
  have := h3 i.toNat _ (List.getElem?_eq_getElem lt)
  rw [show ((i.toNat : Nat) : Int) = i by omega] at this
  exact this
/-! ### set(xs) of a list of ints: a set, told as the layer tells those of its own -/
abbrev emptyS (w : World) : Obj := { cls := .type "set", dict := none, data := .set #[] 0 (.fresh 0 0 (!w.params.followText "set-order")) }
section
variable {P : Program} {w : World} {A : Around} {E : Value → Shared → Prop} {s : Shared}
set_option maxHeartbeats 9000000 in
theorem call_set_ofList {a : Addr} {its : Array Value} (ks : List Int) {Q : Value → Shared → Prop} (calm : A.handled = none) (isl : s.heap.IsList a its) (are : IntsAre its.toList ks) (few : ks.length + 1 < scanBound)
    (out : ∀ (g : Heap) (tk n : Nat), SetR w g s.heap.objs.size (fun j => decide (j ∈ ks)) n → n ≤ ks.length → (∀ b o, s.heap.get? b = some o → g.get? b = some o) → Q (.ref s.heap.objs.size) { s with heap := g, toks := tk }) :
    wpAny (model P w) A (call (.type "set") [.ref a]) Q E s := by
  have size_is : its.size = ks.length := by
    have z := IntsAre.length are
    rwa [Array.length_toList] at z
  have cs := F.called_set
  obtain ⟨m1, m2, m3⟩ := cs.mro
  have made := cs.made
  have subs := cs.sub
  have nty := cs.notType
  have can := cs.canCreate
  have tcall := F.typeCall_set_1 (.ref a)
  refine wpAny_call (codeAny_of_tree ?_)
  show wpAny _ _ (callAny (Value.type "set") _) _ _ _
  refine wpAny_pure ⟨Code.quiet_builtin _ (by decide +kernel), codeAny_builtin F.entry_type_call ?_⟩
  rw [Around.under_plain (weight_type_call_type "set" [.ref a] []) rfl]
  repeat (any_goals (first | wp_step | assumption))
  refine codeAny_mono (code_set_led1 (.ref a) (E := E) (Q₁ := fun v s1 => v = .ref s.heap.objs.size ∧ s1 = { s with heap := s.heap.push (emptyS w) }) ⟨rfl, rfl⟩) fun res s1 got => ?_
  cases res with
  | error _ => exact got
  | ok flow =>
    cases flow with
    | ret v =>
      obtain ⟨rfl, rfl⟩ := got
      have at0 : (s.heap.push (emptyS w)).get? s.heap.objs.size = some (emptyS w) := Heap.get?_push_size _ rfl
      have ty0 : Shared.TypeIs { s with heap := s.heap.push (emptyS w) } (.ref s.heap.objs.size) "set" := ⟨_, at0, rfl⟩
      have ini1 := cs.init.lookup
      have ini2 := cs.init.bind (.ref s.heap.objs.size)
      repeat (any_goals (first | wp_step | assumption))
      refine codeAny_mono (codeAny_call_builtin (R := wants (fun r s2 => r = .none ∧ ∃ g tk n, s2 = { s with heap := g, toks := tk } ∧ SetR w g s.heap.objs.size (fun j => decide (j ∈ ks)) n ∧ n ≤ ks.length ∧ (∀ b o, s.heap.get? b = some o → g.get? b = some o)) E) cs.init.plain F.entry_set_init (check_set_init_1 ty0 ?_)) fun res2 s2 got2 => ?_
      · obtain ⟨ob, hob, hcl, n0, hdt⟩ := isl
        obtain ⟨k1, k2, k3, k4⟩ := ob
        simp only at hcl hdt
        subst hcl hdt
        have under : a < s.heap.objs.size := Heap.lt_size hob
        have hob2 : (s.heap.push (emptyS w)).get? a = some { cls := .type "list", dict := k2, data := .seq its n0, slots := k4 } := Heap.get?_push_of_some _ hob
        have t1 := F.sub_list_set
        have t2 := F.sub_list_frozenset
        have t3 : (Value.type "list" == Value.type "dict") = false := by decide
        have isl2 : (s.heap.push (emptyS w)).IsList a its := ⟨_, hob2, rfl, n0, rfl⟩
        unfold Builtin.«set.__init__» noKeywords Builtin.Frozenset.updateFrom
        generalize hit : pyIter = iter
        wp_walk
        subst hit
        refine wpAny_pyIter_list isl2 (wpAny_bind (wpAny_runValue ?_))
        have calm3 : A.in1.in1.in1.handled = none := by simp [calm]
        have apart : a ≠ (s.heap.push (emptyS w)).objs.size := by
          rw [Heap.size_push]
          exact Nat.ne_of_lt (Nat.lt_succ_of_lt under)
        have notin : s.heap.objs.size ∉ [(s.heap.push (emptyS w)).objs.size, a] := by
          intro m
          rw [Heap.size_push] at m
          rcases List.mem_cons.mp m with m | m
          · exact absurd m (Nat.ne_of_lt (Nat.lt_succ_self _))
          · exact absurd (List.mem_singleton.mp m) (Nat.ne_of_gt under)
        have vals : ∀ (i : Nat) (v : Value), its[i]? = some v → ∃ k t, ks[i]? = some k ∧ v = .int k t := fun i v hv => by
          have lt : i < ks.length := size_is ▸ (Array.getElem?_eq_some_iff.mp hv).1
          obtain ⟨t, e⟩ := IntsAre.int_at are i v (by rw [Array.getElem?_toList]; exact hv)
          rw [List.getD_eq_getElem?_getD, List.getElem?_eq_getElem lt] at e
          exact ⟨ks[i], t, List.getElem?_eq_getElem lt, e⟩
        refine set_update_ints (Walks.list calm3 _ a apart its).toS s.heap.objs.size notin ks size_is few vals (its.size - 0) 0 _ (by omega) (Nat.zero_le _) ⟨⟨_, Heap.get?_push_size _ rfl, rfl, rfl⟩, isl2.push _⟩ ?first ?last
        case first => exact ⟨0, Nat.le_refl 0, setR_new_at (Heap.get?_push_of_some _ at0)⟩
        case last =>
          intro s3 n3 moved le3 set3
          obtain ⟨g3, e1, e2, tk3, e3⟩ := s3
          have q1 : e1 = s.gens := moved.gens
          have q2 : e2 = s.drawn := moved.drawn
          have q3 : e3 = s.os := moved.os
          subst q1 q2 q3
          rw [size_is] at le3
          refine wpAny_pure (wpAny_pure ⟨rfl, g3, tk3, n3, rfl, set3, le3, fun b o e => ?_⟩)
          have under2 : b < s.heap.objs.size := Heap.lt_size e
          refine moved.heap b o (fun m => ?_) (Heap.get?_push_of_some _ (Heap.get?_push_of_some _ e))
          rcases List.mem_cons.mp m with m | m
          · exact absurd m (Nat.ne_of_lt under2)
          · have m := List.mem_singleton.mp m
            rw [Heap.size_push] at m
            exact absurd m (Nat.ne_of_lt (Nat.lt_succ_of_lt under2))
      · cases res2 with
        | error _ => exact got2
        | ok flow2 =>
          cases flow2 with
          | ret _ =>
            obtain ⟨rfl, g, tk, n, rfl, y1, y2, y3⟩ := got2
            repeat (any_goals (first | wp_step | assumption))
            exact out _ _ _ y1 y2 y3
          | _ => exact got2.elim
    | _ => exact got.elim
end
section
variable {X : Cx}
/-- set(xs), xs a list of ints -/
def rSetOfL (K : PySem.W.Frag) (w : World) : List V → Hp → VK → Prop := fun vs H Q => ∃ (a : Addr) (ns : List Int), vs = [.ref a] ∧ SqL K H a (ns.map V.int) ∧ ns.length ≤ 1000 ∧
  ∀ (q : Addr) (n : Nat), H q = none → n ≤ ns.length → Q (.ref q) (upd H q (SetO w q (fun j => decide (j ∈ ns)) n))
theorem cr_setL (hc : X.calm = true) : CallR X (.type "set") (rSetOfL X.K X.w) := by
  intro pins s σ H vs us Q I r h
  obtain ⟨a, ns, rfl, hs, hl, q⟩ := h
  obtain ⟨its, rv, pl, hz⟩ := I.list hs
  rw [Vals.ref1 r]
  refine call_set_ofList ns (I.ok.hd hc) pl.isList (by simpa using rv.ints) (Nat.lt_of_le_of_lt (Nat.add_le_add_right hl 1) (by decide)) fun g tk n S hn kp => ?_
  exact ⟨.ref _, _, I.laid (t' := tk) kp (Nat.le_refl _) (setO_new S), rfl, q _ n I.fresh hn⟩
end
/-! ### what a set lacks -/
def tieIn (some' : List Int) (t : Int × Int) : Bool := decide (t.1 ∈ some') && decide (t.2 ∈ some')
def firstTie (ties : List (Int × Int)) (some' : List Int) : Option (Int × Int) := ties.find? (tieIn some')
/-- a house in the set, or tied to one in it -/
def cov (ties : List (Int × Int)) (some' : List Int) (h : Int) : Bool := decide (h ∈ some') || (nbr ties h).any fun x => decide (x ∈ some')
def firstBare (many : Int) (ties : List (Int × Int)) (some' : List Int) : Option Int := (rgI many).find? fun h => !cov ties some' h
def tieO : Option (Int × Int) → PyData
  | none => .none
  | some t => tieD t
def intO : Option Int → PyData
  | none => .none
  | some i => .int i
def lacksD (many : Int) (ties : List (Int × Int)) (some' : List Int) : PyData :=
  match firstTie ties some' with
  | some t => .tuple [.str "tied", .int t.1, .int t.2]
  | none => match firstBare many ties some' with
    | some h => .tuple [.str "bare", .int h]
    | none => .none
/-- a set of houses: rising -/
structure SetOk (many : Int) (some' : List Int) : Prop where
  up : some'.Pairwise (· < ·)
  ok : ∀ h ∈ some', 0 ≤ h ∧ h < many
theorem SetOk.len {many : Int} {some' : List Int} (h : SetOk many some') (h60 : many ≤ 60) : some'.length ≤ 60 := by
  have := len_le_of_sub (l := some') (m := rgI many) (h.up.imp fun q => Int.ne_of_lt q) fun x hx => rgI_mem.mpr (h.ok x hx)
  rw [rgI_len] at this
  omega
theorem SetOk.nd {many : Int} {some' : List Int} (h : SetOk many some') : some'.Nodup := h.up.imp fun q => Int.ne_of_lt q
/-- find?, turn by turn -/
theorem find_take {α : Type} (f : α → Bool) : ∀ (l : List α) (i : Nat), (∀ x ∈ l.take i, f x = false) → ∀ x, l[i]? = some x → f x = true → l.find? f = some x
  | [], _, _, _, h, _ => by simp at h
  | y :: r, 0, _, x, h, hf => by
    have e : y = x := Option.some.inj h
    subst e
    rw [List.find?_cons, hf]
  | y :: r, i + 1, ha, x, h, hf => by
    have hy : f y = false := ha y (by simp)
    rw [List.find?_cons, hy]
    exact find_take f r i (fun z hz => ha z (by simp [hz])) x (by simpa using h) hf
theorem find_none {α : Type} (f : α → Bool) (l : List α) (h : ∀ x ∈ l, f x = false) : l.find? f = none := by
  rw [List.find?_eq_none]
  intro x hx
  rw [h x hx]
  decide
theorem take_snoc {α : Type} {l : List α} {i : Nat} {x : α} (h : l[i]? = some x) : l.take (i + 1) = l.take i ++ [x] := by rw [List.take_add_one, h]; rfl
theorem cov_iff {many : Int} {ties : List (Int × Int)} (W : WebOk many ties) {s : List Int} {h : Int} : cov ties s h = true ↔ h ∈ s ∨ ∃ t ∈ ties, (t.1 ∈ s ∧ h = t.2) ∨ (t.2 ∈ s ∧ h = t.1) := by
  unfold cov
  rw [Bool.or_eq_true, decide_eq_true_eq, List.any_eq_true]
  constructor
  · rintro (q | ⟨x, hx, q⟩)
    · exact .inl q
    · have q := of_decide_eq_true q
      rcases (nbr_iff W).mp hx with z | z
      · exact .inr ⟨_, z, .inr ⟨q, rfl⟩⟩
      · exact .inr ⟨_, z, .inl ⟨q, rfl⟩⟩
  · rintro (q | ⟨⟨a, b⟩, ht, q⟩)
    · exact .inl q
    · rcases q with ⟨q1, q2⟩ | ⟨q1, q2⟩
      · simp only at q1 q2
        subst q2
        exact .inr ⟨a, (nbr_iff W).mpr (.inr ht), decide_eq_true q1⟩
      · simp only at q1 q2
        subst q2
        exact .inr ⟨b, (nbr_iff W).mpr (.inl ht), decide_eq_true q1⟩
section
variable {K : PySem.W.Frag} {w : World} {H : Hp} {Q : VK}
theorem r_sIn {k : Int} {a : Addr} {S : Int → Bool} {n : Nat} (h : H a = some (SetO w a S n)) (q : Q (.bl (S k)) H) : rSIn w (.int k) (.ref a) H Q := ⟨k, a, S, n, rfl, rfl, h, q⟩
theorem r_sNotIn {k : Int} {a : Addr} {S : Int → Bool} {n : Nat} (h : H a = some (SetO w a S n)) (q : Q (.bl (!S k)) H) : rSNotIn w (.int k) (.ref a) H Q := ⟨k, a, S, n, rfl, rfl, h, q⟩
theorem r_sadd {σ : L2.St} {to : TE} {t : TA} (h : to σ H fun x H1 => (∃ a S n, x = V.ref a ∧ H1 a = some (SetO w a S n)) ∧ t σ H1 fun xs H2 => rSAdd w x xs H2 Q) : tSAdd w to t σ H Q := h
theorem r_setLst {a : Addr} {ns : List Int} (h : SqL K H a (ns.map V.int)) (hl : ns.length ≤ 1000) (k : ∀ (q : Addr) (n : Nat), H q = none → n ≤ ns.length → Q (.ref q) (upd H q (SetO w q (fun j => decide (j ∈ ns)) n))) : rSetOfL K w [.ref a] H Q := ⟨a, ns, rfl, h, hl, k⟩
end
theorem inV_int (a : Int) (ns : List Int) : inV (.int a) (ns.map V.int) = decide (a ∈ ns) := by
  unfold inV
  rw [List.any_map]
  induction ns with
  | nil => simp
  | cons x r ih =>
    rw [List.any_cons, ih]
    simp only [Function.comp, eqV]
    by_cases h : x = a
    · subst h; simp
    · have h' : ¬ a = x := fun e => h e.symm
      simp [h, h']
theorem flat_int (ns : List Int) : (ns.map V.int).all flatV = true := by
  rw [List.all_map]
  induction ns with
  | nil => rfl
  | cons x r ih => rw [List.all_cons, ih]; rfl
theorem eqv_nil (ns : List Int) : PyData.eqv (.list (ns.map PyData.int)) (.list []) = ns.isEmpty := by
  cases ns with
  | nil => rfl
  | cons x r => simp [PyData.eqv, PyData.eqvAll]
mutual
theorem eqv_of_eq : ∀ d : PyData, d.canLay0 = true → PyData.eqv d d = true
  | d, h => SeqAt.eqv_refl d h
end
section
variable {K : PySem.W.Frag} {H : Hp} {Q : VK}
theorem r_inI {p : Addr} {ns : List Int} {a : Int} (h : SqL K H p (ns.map V.int)) (q : Q (.bl (decide (a ∈ ns))) H) : rIn K false (.int a) (.ref p) H Q :=
  ⟨p, _, rfl, .inl h, rfl, flat_int ns, by rw [if_neg (by decide), inV_int]; exact q⟩
theorem r_notInI {p : Addr} {ns : List Int} {a : Int} (h : SqL K H p (ns.map V.int)) (q : Q (.bl (!decide (a ∈ ns))) H) : rIn K true (.int a) (.ref p) H Q :=
  ⟨p, _, rfl, .inl h, rfl, flat_int ns, by rw [if_pos rfl, inV_int]; exact q⟩
theorem r_eqNil {p q : Addr} {ns : List Int} (h : SqL K H p (ns.map V.int)) (g : SqL K H q []) (z : Q (.bl ns.isEmpty) H) : rEqD K (.ref p) (.ref q) H Q :=
  ⟨_, _, dp_ints h, dp_ints (cs := []) g, shaped_ints ns, shaped_ints [], by rw [show ([] : List Int).map PyData.int = [] from rfl, eqv_nil]; exact z⟩
theorem r_neNil {p q : Addr} {ns : List Int} (h : SqL K H p (ns.map V.int)) (g : SqL K H q []) (z : Q (.bl (!ns.isEmpty)) H) : rNeD K (.ref p) (.ref q) H Q :=
  ⟨_, _, dp_ints h, dp_ints (cs := []) g, shaped_ints ns, shaped_ints [], by rw [show ([] : List Int).map PyData.int = [] from rfl, eqv_nil]; exact z⟩
/-- [g x for x in ns if f x], ns ints, f and g changing nothing -/
theorem lc_pure {a D : Addr} {ns : List Int} {f : Int → Bool} {g : Int → V} {tt : TT} {te : TE} {vs : List Nat} {σ : L2.St} {j : Nat} {Qd : Hp → Prop} (hs : SqL K H a (ns.map V.int)) (hl : ns.length ≤ 10000) (hD : H D = none)
    (hw : ∀ x, wipe ((wipe σ vs).set j (some x)) vs = wipe σ vs) (ht : ∀ x ∈ ns, ∀ H1, Evl.Ex H H1 → ∀ QB : Bool → Hp → Prop, QB (f x) H1 → tt ((wipe σ vs).set j (some (.int x))) H1 QB)
    (he : ∀ x ∈ ns, f x = true → ∀ H1, Evl.Ex H H1 → ∀ Q : VK, Q (g x) H1 → te ((wipe σ vs).set j (some (.int x))) H1 Q) (k : ∀ H', Evl.Ex H H' → H' D = some (.lst ((ns.filter f).map g)) → Qd H') :
    ∃ W : Nat → Nat → Hp → Prop, (∃ m, W 0 m (upd H D (.lst []))) ∧ ∀ i m H, W i m H →
      ((Itl K a).stop i H ∧ Qd H) ∨ ((Itl K a).go i H ∧ ∃ Nx : Hp → Prop, (∀ H', Nx H' → ∃ m', m' < m ∧ W (i + 1) m' H') ∧ ∀ x H', (Itl K a).yld i H x H' → gName j x (wipe σ vs) H' fun σ2 H2 => wipe σ2 vs = wipe σ vs ∧ tt σ2 H2 fun b H3 =>
        if b = true then te σ2 H3 fun y H4 => ∃ acc, H4 D = some (.lst acc) ∧ acc.length < sizeLine ∧ Nx (upd H4 D (.lst (acc ++ [y]))) else Nx H3) := by
  refine lc_it (walk_list (xs := ns.map V.int)) (fun i H' => H' D = some (.lst (((ns.take i).filter f).map g)) ∧ Evl.Ex H H') ⟨upd_same, Evl.Ex.new hD⟩ (fun i H' _ h => Evl.ex_l h.2 hs) ?_ ?_
  · rintro i v H1 H2 hi ⟨h1, e1⟩ ⟨rfl, ey⟩
    rw [List.getElem?_map] at ey
    cases et : ns[i]? with
    | none => rw [et] at ey; cases ey
    | some x =>
      rw [et] at ey
      cases ey
      have hx := List.mem_of_getElem? et
      refine ⟨hw _, ht x hx H2 e1 _ ?_⟩
      have tk : ns.take (i + 1) = ns.take i ++ [x] := take_snoc et
      cases hf : f x with
      | true =>
        refine iteT (he x hx hf H2 e1 _ ⟨_, h1, Evl.sz_lt ?_, ?_, e1.mut hD⟩)
        · rw [List.length_map]
          have := List.length_filter_le f (ns.take i)
          rw [List.length_take] at this
          omega
        · rw [upd_same, tk, List.filter_append, List.filter_cons, if_pos hf, List.map_append]
          rfl
      | false =>
        refine iteF ⟨?_, e1⟩
        rw [tk, List.filter_append, List.filter_cons, if_neg (by rw [hf]; decide), List.filter_nil, List.append_nil]
        exact h1
  · rintro H' ⟨h1, e1⟩
    rw [List.length_map, List.take_length] at h1
    exact k H' e1 h1
end
theorem cov_not (ties : List (Int × Int)) (s : List Int) (h : Int) : (!cov ties s h) = ((!decide (h ∈ s)) && ((nbr ties h).filter fun x => decide (x ∈ s)).isEmpty) := by
  unfold cov
  rw [Bool.not_or]
  congr 1
  induction nbr ties h with
  | nil => rfl
  | cons x r ih =>
    rw [List.any_cons, List.filter_cons]
    by_cases q : x ∈ s
    · simp [q]
    · simp only [q, decide_false, Bool.false_or, Bool.false_eq_true, if_false]
      exact ih
/-! ### what a draw leaves as it was -/
theorem SqT.exB {K : PySem.W.Frag} {H H' : Hp} {p c a : Addr} {xs : List V} (hP : PotC H p c) (e : ExB p H H') (h : SqT K H a xs) : SqT K H' a xs := by
  obtain ⟨cs, at', r, h1, _⟩ := hP
  rcases h with (h | ⟨o, h⟩) | h
  · exact .inl (.inl (e a _ (ne_of h h1 (by intro z; cases z)) h))
  · exact .inl (.inr ⟨o, e a _ (ne_of h h1 (by intro z; cases z)) h⟩)
  · exact .inr h
theorem SqL.exB {K : PySem.W.Frag} {H H' : Hp} {p c a : Addr} {xs : List V} (hP : PotC H p c) (e : ExB p H H') (hx : ∀ q i j, xs ≠ [.ref q, .int i, .int j]) (h : SqL K H a xs) : SqL K H' a xs := by
  obtain ⟨cs, at', r, h1, _⟩ := hP
  rcases h with (h | ⟨o, h⟩) | h
  · exact .inl (.inl (e a _ (ne_of h h1 (fun z => hx _ _ _ (HO.lst.inj z))) h))
  · exact .inl (.inr ⟨o, e a _ (ne_of h h1 (by intro z; cases z)) h⟩)
  · exact .inr h
theorem ints_np {ns : List Int} : ∀ q i j, ns.map V.int ≠ [.ref q, .int i, .int j] := fun q i j h => by
  cases ns with
  | nil => cases h
  | cons x r => cases h
def potLike : List PyData → Bool
  | [.list _, .int _, .int _] => true
  | [.tuple _, .int _, .int _] => true
  | _ => false
mutual
/-- no list in it that could be the pot -/
def npD : PyData → Bool
  | .list ds => !potLike ds && npAll ds
  | .tuple ds => npAll ds
  | .dict _ => false
  | _ => true
def npAll : List PyData → Bool
  | [] => true
  | d :: r => npD d && npAll r
end
mutual
theorem Dp.exB {K : PySem.W.Frag} {H H' : Hp} {p c : Addr} (hP : PotC H p c) (e : ExB p H H') : ∀ (d : PyData) (v : V), npD d = true → Dp K H v d → Dp K H' v d
  | .none, _, _, h => by cases h; exact .non
  | .bool _, _, _, h => by cases h; exact .bl _
  | .int _, _, _, h => by cases h; exact .int _
  | .str _, _, _, h => by cases h; exact .str _
  | .list ds, _, hn, h => by
    rw [npD, Bool.and_eq_true] at hn
    cases h with
    | lst h1 h2 =>
      refine .lst (SqL.exB hP e (fun q i j z => ?_) h1) (DpAll.exB hP e ds _ hn.2 h2)
      subst z
      cases h2 with
      | cons g1 g2 =>
        cases g2 with
        | cons g3 g4 =>
          cases g4 with
          | cons g5 g6 =>
            cases g6
            cases g3
            cases g5
            cases g1 <;> exact absurd hn.1 (by simp [potLike])
  | .tuple ds, _, hn, h => by
    rw [npD] at hn
    cases h with
    | tup h1 h2 => exact .tup (SqT.exB hP e h1) (DpAll.exB hP e ds _ hn h2)
  | .dict _, _, _, h => by cases h
theorem DpAll.exB {K : PySem.W.Frag} {H H' : Hp} {p c : Addr} (hP : PotC H p c) (e : ExB p H H') : ∀ (ds : List PyData) (vs : List V), npAll ds = true → DpAll K H vs ds → DpAll K H' vs ds
  | [], _, _, h => by cases h; exact .nil
  | d :: ds, _, hn, h => by
    rw [npAll, Bool.and_eq_true] at hn
    cases h with
    | cons h1 h2 => exact .cons (Dp.exB hP e d _ hn.1 h1) (DpAll.exB hP e ds _ hn.2 h2)
end
theorem npAll_of : ∀ {ds : List PyData}, (∀ d ∈ ds, npD d = true) → npAll ds = true
  | [], _ => rfl
  | d :: r, h => by rw [npAll, h d List.mem_cons_self, npAll_of fun x hx => h x (List.mem_cons_of_mem _ hx)]; rfl
theorem np_ints (ns : List Int) : npD (intsD ns) = true := by
  unfold intsD
  rw [npD, Bool.and_eq_true]
  refine ⟨?_, npAll_of fun d hd => ?_⟩
  · cases ns with
    | nil => rfl
    | cons x r => rfl
  · obtain ⟨x, _, rfl⟩ := List.mem_map.mp hd
    rfl
theorem np_web (many : Int) (ties : List (Int × Int)) : npD (webD many ties) = true := by
  unfold webD
  simp only [npD, npAll, Bool.true_and, Bool.and_true]
  refine npAll_of fun d hd => ?_
  obtain ⟨x, _, rfl⟩ := List.mem_map.mp hd
  rfl
theorem np_bes (many : Int) (ties : List (Int × Int)) : npD (besD many ties) = true := by
  unfold besD
  rw [npD, Bool.and_eq_true]
  refine ⟨?_, npAll_of fun d hd => ?_⟩
  · cases rgI many with
    | nil => rfl
    | cons x r =>
      cases r with
      | nil => rfl
      | cons y r => rfl
  · obtain ⟨x, _, rfl⟩ := List.mem_map.mp hd
    exact np_ints _
theorem BesAt.exB {H H' : Hp} {p c : Addr} {v : V} {many : Int} {ties : List (Int × Int)} (h : BesAt H v many ties) (hP : PotC H p c) (e : ExB p H H') : BesAt H' v many ties := by
  obtain ⟨q, bs, rfl, h1, h2, h3⟩ := h
  obtain ⟨cs, a, r, g1, _⟩ := hP
  refine ⟨q, bs, rfl, e _ _ (ne_of h1 g1 fun w => ?_) h1, h2, fun k b hb => e _ _ (ne_of (h3 k b hb) g1 fun w => ints_np _ _ _ (HO.lst.inj w)) (h3 k b hb)⟩
  have w := HO.lst.inj w
  match bs, w with
  | x :: y :: r, w => injection w with _ w; injection w with w _; cases w
theorem fresh_B {H H' : Hp} {p c q : Addr} (e : ExB p H H') (hP : PotC H' p c) (h : H' q = none) : H q = none := by
  cases z : H q with
  | none => rfl
  | some u => rw [e q u (hP.np h) z] at h; cases h
/-- lists of ints at the addresses -/
def LstsAt (H : Hp) (qs : List Addr) (ss : List (List Int)) : Prop := Paired (fun q (s : List Int) => H q = some (.lst (s.map V.int))) qs ss
theorem LstsAt.mono {H H' : Hp} (e : ∀ q (s : List Int), H q = some (.lst (s.map V.int)) → H' q = some (.lst (s.map V.int))) : ∀ {qs : List Addr} {ss : List (List Int)}, LstsAt H qs ss → LstsAt H' qs ss
  | _, _, .nil => .nil
  | _, _, .cons h r => .cons (e _ _ h) (LstsAt.mono e r)
theorem LstsAt.ex {H H' : Hp} {qs : List Addr} {ss : List (List Int)} (h : LstsAt H qs ss) (e : Evl.Ex H H') : LstsAt H' qs ss := h.mono fun q s z => e q _ z
theorem LstsAt.exB {H H' : Hp} {p c : Addr} {qs : List Addr} {ss : List (List Int)} (h : LstsAt H qs ss) (hP : PotC H p c) (e : ExB p H H') : LstsAt H' qs ss := h.mono fun q s z => by
  obtain ⟨cs, a, r, h1, _⟩ := hP
  exact e q _ (ne_of z h1 fun w => ints_np _ _ _ (HO.lst.inj w)) z
theorem LstsAt.upd {H : Hp} {f x : Addr} {r : List V} {o : HO} {qs : List Addr} {ss : List (List Int)} (h : LstsAt H qs ss) (hf : H f = some (.lst (.ref x :: r))) : LstsAt (L2.upd H f o) qs ss := h.mono fun q s z => by
  rw [upd_ne (ne_of z hf fun w => by have := HO.lst.inj w; cases s <;> cases this)]
  exact z
theorem LstsAt.snoc {H : Hp} {q : Addr} {s : List Int} (hq : H q = some (.lst (s.map V.int))) : ∀ {qs : List Addr} {ss : List (List Int)}, LstsAt H qs ss → LstsAt H (qs ++ [q]) (ss ++ [s])
  | _, _, .nil => .cons hq .nil
  | _, _, .cons h r => .cons h (LstsAt.snoc hq r)
theorem LstsAt.dp {K : PySem.W.Frag} {H : Hp} : ∀ {qs : List Addr} {ss : List (List Int)}, LstsAt H qs ss → DpAll K H (qs.map V.ref) (ss.map intsD)
  | _, _, .nil => .nil
  | _, _, .cons h r => .cons (dp_intsD (SqL.of h)) (LstsAt.dp r)
theorem LstsAt.len {H : Hp} : ∀ {qs : List Addr} {ss : List (List Int)}, LstsAt H qs ss → qs.length = ss.length
  | _, _, .nil => rfl
  | _, _, .cons h r => by rw [List.length_cons, List.length_cons, LstsAt.len r]
theorem rgI_up (n : Int) : (rgI n).Pairwise (· < ·) := by
  unfold rgI
  refine List.Pairwise.map _ ?_ List.pairwise_lt_range
  intro a b h
  show (a : Int) < (b : Int)
  omega
theorem rgI_ok (n : Int) : SetOk n (rgI n) := ⟨rgI_up n, fun h hh => rgI_mem.mp hh⟩
/-- a set without the one at a place -/
def without (s : List Int) (k : Nat) : List Int := s.take k ++ s.drop (k + 1)
theorem without_sub (s : List Int) (k : Nat) : (without s k).Sublist s := by
  unfold without
  have h1 : (s.drop (k + 1)).Sublist (s.drop k) := by
    rw [show k + 1 = k + 1 from rfl, ← List.drop_drop]
    exact List.drop_sublist 1 (s.drop k)
  have h2 := List.Sublist.append_left h1 (s.take k)
  rw [List.take_append_drop] at h2
  exact h2
theorem without_ok {many : Int} {s : List Int} (h : SetOk many s) (k : Nat) : SetOk many (without s k) := ⟨h.up.sublist (without_sub s k), fun x hx => h.ok x ((without_sub s k).mem hx)⟩
theorem cut_to {s : List Int} {i : Int} (h0 : 0 ≤ i) : cutV (s.map V.int) none (some i) = (s.take i.toNat).map V.int := by
  rw [cutV_map]
  congr 1
  have e : i = ((i.toNat : Nat) : Int) := by omega
  conv => lhs; rw [e]
  exact cutG_take s i.toNat
theorem cut_from {s : List Int} {i : Int} (h0 : 0 ≤ i) : cutV (s.map V.int) (some i) none = (s.drop i.toNat).map V.int := by
  rw [cutV_map]
  congr 1
  have e : i = ((i.toNat : Nat) : Int) := by omega
  conv => lhs; rw [e]
  exact cutG_drop s i.toNat
section
variable {K : PySem.W.Frag} {w : World} {H : Hp} {Q : VK}
theorem r_cat {a b : Addr} {xs ys : List Int} (h : H a = some (.lst (xs.map V.int))) (g : H b = some (.lst (ys.map V.int))) (hl : xs.length + ys.length ≤ 100000) (k : ∀ p, H p = none → Q (.ref p) (upd H p (.lst ((xs ++ ys).map V.int)))) : rCat (.ref a) (.ref b) H Q :=
  ⟨a, b, _, _, rfl, rfl, h, g, Evl.sz_of (by rw [List.length_map, List.length_map]; exact hl), fun p hp => by rw [← List.map_append]; exact k p hp⟩
theorem r_sortSet {a : Addr} {L : List Int} {n : Nat} (h : H a = some (SetO w a (fun j => decide (j ∈ L)) n)) (hn : n < 64) (k : ∀ (ns : List Int) (p : Addr), ns.Pairwise (· < ·) → (∀ x, x ∈ ns ↔ x ∈ L) → H p = none → Q (.ref p) (upd H p (.lst (ns.map V.int)))) : rSortedSet w [.ref a] H Q :=
  ⟨a, _, n, rfl, h, hn, fun ns p h1 h2 _ hp => k ns p h1 (fun x => by rw [h2]; exact decide_eq_true_iff) hp⟩
end
theorem cut_fromG {α : Type} {f : α → V} {s : List α} {i : Int} (h0 : 0 ≤ i) : cutV (s.map f) (some i) none = (s.drop i.toNat).map f := by
  rw [cutV_map]
  congr 1
  have e : i = ((i.toNat : Nat) : Int) := by omega
  conv => lhs; rw [e]
  exact cutG_drop s i.toNat
theorem LstsAt.drop {H : Hp} : ∀ {qs : List Addr} {ss : List (List Int)} (n : Nat), LstsAt H qs ss → LstsAt H (qs.drop n) (ss.drop n)
  | _, _, 0, h => h
  | _, _, _ + 1, .nil => .nil
  | _, _, n + 1, .cons _ r => LstsAt.drop n r
theorem LstsAt.get {H : Hp} : ∀ {qs : List Addr} {ss : List (List Int)} {i : Nat} {q : Addr}, LstsAt H qs ss → qs[i]? = some q → ∃ s ∈ ss, H q = some (.lst (s.map V.int))
  | _, _, i, q, .nil, h => by simp at h
  | _, _, 0, q, .cons h r, e => by
    have e := Option.some.inj e
    rw [← e]
    exact ⟨_, List.mem_cons_self, h⟩
  | _, _, i + 1, q, .cons h r, e => by
    obtain ⟨s, h1, h2⟩ := LstsAt.get r (show _ from (by simpa using e))
    exact ⟨s, List.mem_cons_of_mem _ h1, h2⟩
theorem find_filter {α : Type} (f : α → Bool) (l : List α) : (l.find? f).isNone = (l.filter f).isEmpty := by
  induction l with
  | nil => rfl
  | cons x r ih =>
    rw [List.find?_cons, List.filter_cons]
    cases f x with
    | true => rfl
    | false => simpa using ih
theorem cov_all (ties : List (Int × Int)) (s : List Int) (h : Int) : ((nbr ties h ++ [h]).filter fun x => decide (x ∈ s)).isEmpty = !cov ties s h := by
  rw [cov_not, List.filter_append]
  generalize (nbr ties h).filter (fun x => decide (x ∈ s)) = l
  by_cases q : h ∈ s
  · cases l <;> simp [q]
  · cases l <;> simp [q]
theorem nine (i : Nat) (h : i < 5) : ∃ m : Int, atI ([.int 9, .int 9, .int 9, .int 9, .int 60] : List V) (0 + (i : Int)) = some (.int m) ∧ 1 ≤ m ∧ m ≤ 60 := by
  match i, h with
  | 0, _ => exact ⟨9, rfl, by decide, by decide⟩
  | 1, _ => exact ⟨9, rfl, by decide, by decide⟩
  | 2, _ => exact ⟨9, rfl, by decide, by decide⟩
  | 3, _ => exact ⟨9, rfl, by decide, by decide⟩
  | 4, _ => exact ⟨60, rfl, by decide, by decide⟩
theorem lacks_small (many : Int) (ties : List (Int × Int)) (s : List Int) : (lacksD many ties s).depth < 2 ∧ wd (lacksD many ties s) = true := by
  unfold lacksD
  split
  · exact ⟨by simp [PyData.depth, PyData.depthAll], by simp [wd, wdAll]⟩
  · split
    · exact ⟨by simp [PyData.depth, PyData.depthAll], by simp [wd, wdAll]⟩
    · exact ⟨by simp [PyData.depth], rfl⟩
theorem r_neSame {K : PySem.W.Frag} {H : Hp} {Q : VK} {p q : Addr} {ns : List Int} (h : SqL K H p (ns.map V.int)) (g : SqL K H q (ns.map V.int)) (z : Q (.bl false) H) : rNeD K (.ref p) (.ref q) H Q := by
  refine ⟨_, _, dp_ints h, dp_ints g, shaped_ints ns, shaped_ints ns, ?_⟩
  rw [SeqAt.eqv_refl _ (SeqAt.canLay_of_shaped (shaped_ints ns))]
  exact z
/-! ### names and rounds -/
def nmAt (names : List Int) (h : Int) : Int := names.getD h.toNat 0
structure NamesOk (many : Int) (names : List Int) : Prop where
  len : names.length = many.toNat
  nd : names.Nodup
/-- the neighbours of lesser names -/
def lessN (ties : List (Int × Int)) (names : List Int) (h : Int) : List Int := (nbr ties h).filter fun o => decide (nmAt names o < nmAt names h)
abbrev Row := Bool × Int
/-- the least, the greatest of numbers, with one ahead -/
def minL : Int → List Int → Int
  | x, [] => x
  | x, y :: r => minL (if y < x then y else x) r
def maxL : Int → List Int → Int
  | x, [] => x
  | x, y :: r => maxL (if y > x then y else x) r
theorem minL_spec : ∀ (x : Int) (r : List Int), minL x r ∈ x :: r ∧ ∀ y ∈ x :: r, minL x r ≤ y
  | x, [] => ⟨by simp [minL], fun y hy => by simp at hy; simp [minL, hy]⟩
  | x, y :: r => by
    have ih := minL_spec (if y < x then y else x) r
    unfold minL
    by_cases c : y < x
    · rw [if_pos c] at ih ⊢
      refine ⟨List.mem_cons_of_mem _ ih.1, fun z hz => ?_⟩
      have h0 := ih.2 _ List.mem_cons_self
      rcases List.mem_cons.mp hz with e | hz
      · omega
      · exact ih.2 z hz
    · rw [if_neg c] at ih ⊢
      refine ⟨?_, fun z hz => ?_⟩
      · rcases List.mem_cons.mp ih.1 with e | e
        · rw [e]; exact List.mem_cons_self
        · exact List.mem_cons_of_mem _ (List.mem_cons_of_mem _ e)
      · have h0 := ih.2 _ List.mem_cons_self
        rcases List.mem_cons.mp hz with e | hz
        · rw [e]; exact h0
        · rcases List.mem_cons.mp hz with e | hz
          · omega
          · exact ih.2 z (List.mem_cons_of_mem _ hz)
theorem maxL_spec : ∀ (x : Int) (r : List Int), maxL x r ∈ x :: r ∧ ∀ y ∈ x :: r, y ≤ maxL x r
  | x, [] => ⟨by simp [maxL], fun y hy => by simp at hy; simp [maxL, hy]⟩
  | x, y :: r => by
    have ih := maxL_spec (if y > x then y else x) r
    unfold maxL
    by_cases c : y > x
    · rw [if_pos c] at ih ⊢
      refine ⟨List.mem_cons_of_mem _ ih.1, fun z hz => ?_⟩
      have h0 := ih.2 _ List.mem_cons_self
      rcases List.mem_cons.mp hz with e | hz
      · omega
      · exact ih.2 z hz
    · rw [if_neg c] at ih ⊢
      refine ⟨?_, fun z hz => ?_⟩
      · rcases List.mem_cons.mp ih.1 with e | e
        · rw [e]; exact List.mem_cons_self
        · exact List.mem_cons_of_mem _ (List.mem_cons_of_mem _ e)
      · have h0 := ih.2 _ List.mem_cons_self
        rcases List.mem_cons.mp hz with e | hz
        · rw [e]; exact h0
        · rcases List.mem_cons.mp hz with e | hz
          · omega
          · exact ih.2 z (List.mem_cons_of_mem _ hz)
theorem minL_of {x m : Int} {r : List Int} (h1 : m ∈ x :: r) (h2 : ∀ y ∈ x :: r, m ≤ y) : m = minL x r := by
  have s := minL_spec x r
  have a := h2 _ s.1
  have b := s.2 _ h1
  omega
theorem maxL_of {x m : Int} {r : List Int} (h1 : m ∈ x :: r) (h2 : ∀ y ∈ x :: r, y ≤ m) : m = maxL x r := by
  have s := maxL_spec x r
  have a := h2 _ s.1
  have b := s.2 _ h1
  omega
def chosenIn (rows : List Row) : List Int := (rows.filter fun r => r.1).map fun r => r.2
/-- the row of a house by the rows of its neighbours of lesser names -/
def rowBy (rows : List Row) : Row :=
  match chosenIn rows with
  | x :: r => (false, minL x r)
  | [] => match rows.map (fun r => r.2) with
    | x :: r => (true, 1 + maxL x r)
    | [] => (true, 1 + 0)
def rank (many : Int) (names : List Int) (h : Int) : Nat := ((rgI many).filter fun x => decide (nmAt names x < nmAt names h)).length
theorem rank_lt {many : Int} {ties : List (Int × Int)} {names : List Int} (W : WebOk many ties) {h o : Int} (ho : o ∈ lessN ties names h) : rank many names o < rank many names h := by
  unfold lessN at ho
  rw [List.mem_filter, decide_eq_true_eq] at ho
  have hr := nbr_range W ho.1
  unfold rank
  have := len_le_of_sub (l := o :: (rgI many).filter fun x => decide (nmAt names x < nmAt names o)) (m := (rgI many).filter fun x => decide (nmAt names x < nmAt names h)) ?_ fun x hx => ?_
  · rw [List.length_cons] at this
    omega
  · refine List.pairwise_cons.mpr ⟨fun x hx e => ?_, (rgI_nd many).filter _⟩
    rw [List.mem_filter, decide_eq_true_eq] at hx
    subst e
    omega
  · rcases List.mem_cons.mp hx with e | hx
    · rw [e, List.mem_filter, decide_eq_true_eq]
      exact ⟨rgI_mem.mpr hr, ho.2⟩
    · rw [List.mem_filter, decide_eq_true_eq] at hx ⊢
      exact ⟨hx.1, by omega⟩
theorem rank_bound {many : Int} {names : List Int} {h : Int} (hh : 0 ≤ h ∧ h < many) : rank many names h < many.toNat := by
  unfold rank
  have := len_le_of_sub (l := h :: (rgI many).filter fun x => decide (nmAt names x < nmAt names h)) (m := rgI many) ?_ fun x hx => ?_
  · rw [List.length_cons, rgI_len] at this
    omega
  · refine List.pairwise_cons.mpr ⟨fun x hx e => ?_, (rgI_nd many).filter _⟩
    rw [List.mem_filter, decide_eq_true_eq] at hx
    subst e
    omega
  · rcases List.mem_cons.mp hx with e | hx
    · rw [e]; exact rgI_mem.mpr hh
    · exact (List.mem_filter.mp hx).1
def Rf (ties : List (Int × Int)) (names : List Int) : Nat → Int → Row
  | 0, _ => (true, 1)
  | k + 1, h => rowBy ((lessN ties names h).map (Rf ties names k))
theorem Rf_stable {many : Int} {ties : List (Int × Int)} {names : List Int} (W : WebOk many ties) : ∀ (k k' : Nat) (h : Int), rank many names h < k → rank many names h < k' → Rf ties names k h = Rf ties names k' h
  | 0, _, _, h, _ => absurd h (Nat.not_lt_zero _)
  | _ + 1, 0, _, _, h => absurd h (Nat.not_lt_zero _)
  | k + 1, k' + 1, h, h1, h2 => by
    rw [Rf, Rf]
    congr 1
    refine List.map_congr_left fun o ho => ?_
    have := rank_lt W ho
    exact Rf_stable W k k' o (by omega) (by omega)
/-- each house's row: the one that the points tell -/
def rowOf (many : Int) (ties : List (Int × Int)) (names : List Int) (h : Int) : Row := Rf ties names many.toNat h
theorem rowOf_eq {many : Int} {ties : List (Int × Int)} {names : List Int} (W : WebOk many ties) {h : Int} (hh : 0 ≤ h ∧ h < many) : rowOf many ties names h = rowBy ((lessN ties names h).map (rowOf many ties names)) := by
  have hb := rank_bound (names := names) hh
  unfold rowOf
  obtain ⟨k, hk⟩ : ∃ k, many.toNat = k + 1 := ⟨many.toNat - 1, by omega⟩
  rw [hk, Rf]
  congr 1
  refine List.map_congr_left fun o ho => ?_
  have := rank_lt W ho
  exact Rf_stable W k (k + 1) o (by omega) (by omega)
def rowsOf (many : Int) (ties : List (Int × Int)) (names : List Int) : List Row := (rgI many).map (rowOf many ties names)
/-- rows that are right house by house are these -/
theorem rows_unique {many : Int} {ties : List (Int × Int)} {names : List Int} (W : WebOk many ties) {f : Int → Row} (hf : ∀ h, 0 ≤ h → h < many → f h = rowBy ((lessN ties names h).map f)) : ∀ (n : Nat) (h : Int), rank many names h < n → 0 ≤ h → h < many → f h = rowOf many ties names h
  | 0, _, h, _, _ => absurd h (Nat.not_lt_zero _)
  | n + 1, h, hr, h0, h1 => by
    rw [hf h h0 h1, rowOf_eq W ⟨h0, h1⟩]
    congr 1
    refine List.map_congr_left fun o ho => ?_
    have hl := rank_lt W ho
    have hb := nbr_range W (List.mem_filter.mp ho).1
    exact rows_unique W hf n o (by omega) hb.1 hb.2
/-! ### what a row says -/
theorem rowBy_true {rows : List Row} {n : Int} (h : rowBy rows = (true, n)) : (∀ r ∈ rows, r.1 = false) ∧ (∀ r ∈ rows, r.2 < n) ∧ (rows = [] ∧ n = 1 ∨ ∃ r ∈ rows, r.2 + 1 = n) := by
  unfold rowBy at h
  cases e : chosenIn rows with
  | cons x r => rw [e] at h; cases h
  | nil =>
    rw [e] at h
    have h1 : ∀ r ∈ rows, r.1 = false := fun r hr => by
      cases q : r.1 with
      | false => rfl
      | true =>
        have : r.2 ∈ chosenIn rows := List.mem_map.mpr ⟨r, List.mem_filter.mpr ⟨hr, q⟩, rfl⟩
        rw [e] at this
        cases this
    refine ⟨h1, ?_⟩
    cases rows with
    | nil =>
      simp at h
      exact ⟨fun r hr => (by cases hr), Or.inl ⟨rfl, (by omega)⟩⟩
    | cons a t =>
      rw [List.map_cons] at h
      simp only [Prod.mk.injEq, true_and] at h
      have s := maxL_spec a.2 (t.map fun r => r.2)
      refine ⟨fun r hr => ?_, .inr ?_⟩
      · have := s.2 r.2 (by rw [← List.map_cons (f := fun r : Row => r.2)]; exact List.mem_map_of_mem hr)
        omega
      · have s1 := s.1
        rw [← List.map_cons (f := fun r : Row => r.2)] at s1
        obtain ⟨r, hr, e⟩ := List.mem_map.mp s1
        exact ⟨r, hr, by omega⟩
theorem rowBy_false {rows : List Row} {n : Int} (h : rowBy rows = (false, n)) : (∃ r ∈ rows, r = (true, n)) ∧ ∀ r ∈ rows, r.1 = true → n ≤ r.2 := by
  unfold rowBy at h
  cases e : chosenIn rows with
  | nil =>
    rw [e] at h
    simp only at h
    split at h <;> cases h
  | cons x r =>
    rw [e] at h
    simp only [Prod.mk.injEq, true_and] at h
    have s := minL_spec x r
    rw [← e] at s
    rw [h] at s
    obtain ⟨s1, s2⟩ := s
    obtain ⟨y, hy, ey⟩ := List.mem_map.mp s1
    rw [List.mem_filter] at hy
    refine ⟨⟨y, hy.1, by obtain ⟨a, b⟩ := y; simp only at hy ey; rw [hy.2, ey]⟩, fun z hz hzt => s2 z.2 (List.mem_map.mpr ⟨z, List.mem_filter.mpr ⟨hz, hzt⟩, rfl⟩)⟩
section
variable {many : Int} {ties : List (Int × Int)} {names : List Int}
theorem row_pos (W : WebOk many ties) : ∀ (n : Nat) (h : Int), rank many names h < n → 0 ≤ h → h < many → 1 ≤ (rowOf many ties names h).2
  | 0, _, h, _, _ => absurd h (Nat.not_lt_zero _)
  | n + 1, h, hr, h0, h1 => by
    have e := rowOf_eq (names := names) W ⟨h0, h1⟩
    have ih : ∀ r ∈ (lessN ties names h).map (rowOf many ties names), 1 ≤ r.2 := fun r hr' => by
      obtain ⟨o, ho, rfl⟩ := List.mem_map.mp hr'
      have hl := rank_lt W ho
      have hb := nbr_range W (List.mem_filter.mp ho).1
      exact row_pos W n o (by omega) hb.1 hb.2
    rcases hq : rowOf many ties names h with ⟨b, m⟩
    rw [hq] at e
    cases b with
    | true =>
      rcases (rowBy_true e.symm).2.2 with q | ⟨r, hr, q⟩
      · simp only; omega
      · have := ih r hr
        simp only; omega
    | false =>
      obtain ⟨⟨r, hr, q⟩, _⟩ := rowBy_false e.symm
      have := ih r hr
      rw [q] at this
      exact this
/-- a house's row is chosen in round n + 1: just where it is left ahead of it, and no neighbour left has a lesser name -/
theorem fresh_iff (W : WebOk many ties) {h n : Int} (h0 : 0 ≤ h) (h1 : h < many) (hn : 0 ≤ n) : rowOf many ties names h = (true, n + 1) ↔ n < (rowOf many ties names h).2 ∧ ∀ o ∈ lessN ties names h, (rowOf many ties names o).2 ≤ n := by
  have e := rowOf_eq (names := names) W ⟨h0, h1⟩
  constructor
  · intro q
    rw [q] at e
    have t := rowBy_true e.symm
    refine ⟨by rw [q]; simp only; omega, fun o ho => ?_⟩
    have := t.2.1 _ (List.mem_map_of_mem (f := rowOf many ties names) ho)
    omega
  · rintro ⟨q1, q2⟩
    rcases hq : rowOf many ties names h with ⟨b, m⟩
    rw [hq] at e q1
    simp only at q1
    cases b with
    | true =>
      rcases (rowBy_true e.symm).2.2 with q | ⟨r, hr, q⟩
      · rw [show m = n + 1 by omega]
      · obtain ⟨o, ho, rfl⟩ := List.mem_map.mp hr
        have := q2 o ho
        rw [show m = n + 1 by omega]
    | false =>
      obtain ⟨⟨r, hr, q⟩, _⟩ := rowBy_false e.symm
      obtain ⟨o, ho, rfl⟩ := List.mem_map.mp hr
      have := q2 o ho
      rw [q] at this
      simp only at this
      omega
theorem nm_ne (N : NamesOk many names) {a b : Int} (ha : 0 ≤ a ∧ a < many) (hb : 0 ≤ b ∧ b < many) (h : a ≠ b) : nmAt names a ≠ nmAt names b := fun e => by
  have := nd_ix N.nd (i := a.toNat) (j := b.toNat) (by rw [N.len]; omega) (by rw [N.len]; omega) e
  omega
/-- out in round n + 1: left ahead of it, not chosen in it, a neighbour chosen in it -/
theorem out_iff (W : WebOk many ties) (N : NamesOk many names) {h n : Int} (h0 : 0 ≤ h) (h1 : h < many) (hn : 0 ≤ n) : rowOf many ties names h = (false, n + 1) ↔ n < (rowOf many ties names h).2 ∧ rowOf many ties names h ≠ (true, n + 1) ∧ ∃ o ∈ nbr ties h, rowOf many ties names o = (true, n + 1) := by
  have e := rowOf_eq (names := names) W ⟨h0, h1⟩
  constructor
  · intro q
    rw [q] at e
    obtain ⟨⟨r, hr, q'⟩, _⟩ := rowBy_false e.symm
    obtain ⟨o, ho, q2⟩ := List.mem_map.mp hr
    exact ⟨by rw [q]; simp only; omega, by rw [q]; simp, o, (List.mem_filter.mp ho).1, by rw [q2, q']⟩
  · rintro ⟨q1, q2, o, ho, q3⟩
    have hor := nbr_range W ho
    have hne : o ≠ h := fun z => by
      subst z
      rcases (nbr_iff W).mp ho with q | q
      · have := W.ok _ q; simp only at this; omega
      · have := W.ok _ q; simp only at this; omega
    have nn := nm_ne N hor ⟨h0, h1⟩ hne
    by_cases hl : nmAt names o < nmAt names h
    · have ho' : o ∈ lessN ties names h := List.mem_filter.mpr ⟨ho, decide_eq_true hl⟩
      rcases hq : rowOf many ties names h with ⟨b, m⟩
      rw [hq] at e q1
      simp only at q1
      cases b with
      | true =>
        have := (rowBy_true e.symm).1 _ (List.mem_map_of_mem (f := rowOf many ties names) ho')
        rw [q3] at this
        cases this
      | false =>
        have := (rowBy_false e.symm).2 _ (List.mem_map_of_mem (f := rowOf many ties names) ho') (by rw [q3])
        rw [q3] at this
        simp only at this
        rw [show m = n + 1 by omega]
    · have hho : h ∈ nbr ties o := by
        rcases (nbr_iff W).mp ho with q | q
        · exact (nbr_iff W).mpr (.inr q)
        · exact (nbr_iff W).mpr (.inl q)
      have h' : h ∈ lessN ties names o := List.mem_filter.mpr ⟨hho, decide_eq_true (by omega)⟩
      have := ((fresh_iff W hor.1 hor.2 hn).mp q3).2 h h'
      omega
/-- where a house is left, one is chosen next -/
theorem some_fresh (W : WebOk many ties) {n : Int} (hn : 0 ≤ n) : ∀ (k : Nat) (h : Int), rank many names h < k → 0 ≤ h → h < many → n < (rowOf many ties names h).2 → ∃ o, 0 ≤ o ∧ o < many ∧ rowOf many ties names o = (true, n + 1)
  | 0, _, h, _, _, _ => absurd h (Nat.not_lt_zero _)
  | k + 1, h, hr, h0, h1, hl => by
    by_cases hall : ∀ o ∈ lessN ties names h, (rowOf many ties names o).2 ≤ n
    · exact ⟨h, h0, h1, (fresh_iff W h0 h1 hn).mpr ⟨hl, hall⟩⟩
    · have : ∃ o ∈ lessN ties names h, n < (rowOf many ties names o).2 := by
        refine Classical.byContradiction fun z => hall fun o ho => ?_
        refine Classical.byContradiction fun y => z ⟨o, ho, by omega⟩
      obtain ⟨o, ho, q⟩ := this
      have hr' := rank_lt W ho
      have hb := nbr_range W (List.mem_filter.mp ho).1
      exact some_fresh W hn k o (by omega) hb.1 hb.2 q
end
theorem ne_of_none' {H : Hp} {a b : Addr} {o : HO} (h : H a = some o) (g : H b = none) : b ≠ a := fun e => by rw [e, h] at g; cases g
/-- a list of lists of ints: for each house that of f -/
def LsAt (H : Hp) (v : V) (n : Nat) (f : Int → List Int) : Prop := ∃ (q : Addr) (bs : List Addr), v = .ref q ∧ H q = some (.lst (bs.map V.ref)) ∧ bs.length = n ∧ ∀ (k : Nat) (b : Addr), bs[k]? = some b → H b = some (.lst ((f (k : Int)).map V.int))
theorem LsAt.ex {H H' : Hp} {v : V} {n : Nat} {f : Int → List Int} (h : LsAt H v n f) (e : Evl.Ex H H') : LsAt H' v n f := by
  obtain ⟨q, bs, rfl, h1, h2, h3⟩ := h
  exact ⟨q, bs, rfl, e _ _ h1, h2, fun k b hb => e _ _ (h3 k b hb)⟩
theorem LsAt.bes {H : Hp} {v : V} {many : Int} {ties : List (Int × Int)} (h : LsAt H v many.toNat (nbr ties)) : BesAt H v many ties := h
theorem BesAt.ls {H : Hp} {v : V} {many : Int} {ties : List (Int × Int)} (h : BesAt H v many ties) : LsAt H v many.toNat (nbr ties) := h
/-- the same, and all of it new -/
def LsN (H0 H : Hp) (v : V) (n : Nat) (f : Int → List Int) : Prop := ∃ (q : Addr) (bs : List Addr), v = .ref q ∧ H q = some (.lst (bs.map V.ref)) ∧ H0 q = none ∧ bs.length = n ∧ ∀ (k : Nat) (b : Addr), bs[k]? = some b → H b = some (.lst ((f (k : Int)).map V.int)) ∧ H0 b = none
theorem LsN.at {H0 H : Hp} {v : V} {n : Nat} {f : Int → List Int} (h : LsN H0 H v n f) : LsAt H v n f := by
  obtain ⟨q, bs, h1, h2, _, h3, h4⟩ := h
  exact ⟨q, bs, h1, h2, h3, fun k b hb => (h4 k b hb).1⟩
theorem nm_at {names : List Int} {many x : Int} (hl : names.length = many.toNat) (h0 : 0 ≤ x) (h1 : x < many) : atI (names.map V.int) x = some (.int (nmAt names x)) := atI_int h0 (by omega)
def maxDf (d : Int) : List Int → Int
  | [] => d
  | x :: r => maxL x r
theorem readsAll_of_ints {h : Heap} : ∀ {vs : List Value} {ns : List Int}, IntsAre vs ns → ∃ as, ReadsAll h vs (ns.map PyData.int) as
  | _, _, .nil => ⟨[], .nil⟩
  | _, _, .cons _ _ r => by
    obtain ⟨bs, h2⟩ := readsAll_of_ints (h := h) r
    exact ⟨_, .cons (.int _ _) h2⟩
theorem foldl_maxL : ∀ (x : Int) (r : List Int), r.foldl max x = maxL x r
  | x, [] => rfl
  | x, y :: r => by
    rw [List.foldl_cons, maxL, foldl_maxL]
    congr 1
    split <;> omega
/-- max(xs, default=d) of a list of ints -/
def rMaxDf (K : PySem.W.Frag) : List V → List V → Hp → VK → Prop := fun vs zs H Q => ∃ (a : Addr) (ns : List Int) (d : Int), vs = [V.ref a] ∧ zs = [.int d] ∧ SqL K H a (ns.map V.int) ∧ Q (.int (maxDf d ns)) H
theorem cr_maxDf {X : Cx} (hc : X.calm = true) (hu : X.A.units + 64 < cLine) : CallRK X (.builtin "max") [Str.ofString "default"] (rMaxDf X.K) := by
  intro pins s σ H vs zs us ws Q I r rz h
  obtain ⟨a, ns, d, rfl, rfl, hs, q⟩ := h
  obtain ⟨its, rv, hl, hz0⟩ := I.list hs
  obtain rfl := Vals.ref1 r
  obtain ⟨w1, rfl, t1, rfl⟩ := vals1 rz
  obtain ⟨as, hr⟩ := readsAll_of_ints (h := s.heap) rv.ints
  have ha : PySem.W.AlikeAll (ns.map PyData.int) := by
    refine ⟨fun x hx y hy => ?_, fun x hx => ?_⟩
    · obtain ⟨i, _, rfl⟩ := List.mem_map.mp hx
      obtain ⟨j, _, rfl⟩ := List.mem_map.mp hy
      simp [PySem.W.alike]
    · obtain ⟨i, _, rfl⟩ := List.mem_map.mp hx
      intro e
      cases e
  have hd : PyData.depthAll (ns.map PyData.int) = 0 := by
    clear hr ha rv hs q hz0
    induction ns with
    | nil => rfl
    | cons x r ih =>
      rw [List.map_cons, PyData.depthAll, ih]
      rfl
  refine PySem.W.max_list_default (I.ok.hd hc) hl.isList hr ha (by rw [hd]; omega) (fun e h' tk hk => ?_) (fun y ys i v h' tk bs e hi hv hk => ?_)
  · have e : ns = [] := List.map_eq_nil_iff.mp e
    subst e
    exact ⟨.int d, H, I.kept hk, ⟨t1, rfl⟩, q⟩
  · cases ns with
    | nil => cases e
    | cons n r =>
      rw [List.map_cons] at e
      injection e with e1 e2
      subst e1 e2
      rw [PySem.W.maxD_ints] at hv
      cases hv with
      | int _ t =>
        rw [foldl_maxL]
        exact ⟨.int (maxL n r), H, I.kept hk, ⟨t, rfl⟩, q⟩
theorem call_repr_bl {X : Cx} : CallR X (.builtin "repr") (fun xs H Q => ∃ b : Bool, xs = [.bl b] ∧ Q (.str (if b then "True" else "False")) H) := by
  intro pins s σ H xs us Q I r h
  obtain ⟨b, rfl, q⟩ := h
  obtain ⟨u, rfl, e⟩ := vals1 r
  obtain rfl : u = Value.bool b := e
  exact PySem.P.repr_of_bool ⟨.str _, H, I.tok _, ⟨_, rfl⟩, q⟩
def tTru (K : PySem.W.Frag) (te : TE) : TT := fun σ H Q => te σ H fun x H' => ∃ k, TruV K x H' k ∧ Q k H'
def rowD (r : Row) : PyData := .tuple [.bool r.1, .int r.2]
def rowsD (rs : List Row) : PyData := .list (rs.map rowD)
theorem rowD_at {K : PySem.W.Frag} {H : Hp} {v : V} {r : Row} (h : Dp K H v (rowD r)) : ∃ a, v = .ref a ∧ SqT K H a [.bl r.1, .int r.2] := by
  unfold rowD at h
  cases h with
  | tup hs ha =>
    cases ha with
    | cons h1 h2 =>
      cases h1
      cases h2 with
      | cons h3 h4 =>
        cases h3
        cases h4
        exact ⟨_, rfl, hs⟩
theorem dp_row {K : PySem.W.Frag} {H : Hp} {a : Addr} {r : Row} (h : SqT K H a [.bl r.1, .int r.2]) : Dp K H (.ref a) (rowD r) := .tup h (.cons (.bl _) (.cons (.int _) .nil))
theorem shaped_row (r : Row) : SeqAt.shaped (rowD r) = true := by
  unfold rowD SeqAt.shaped
  simp [PyData.canLay0, PyData.canLayAll0, PyData.depth, PyData.depthAll]
theorem shaped_rows (rs : List Row) : SeqAt.shaped (rowsD rs) = true := by
  have h1 : PyData.canLayAll0 (rs.map rowD) = true := by
    induction rs with
    | nil => rfl
    | cons x r ih => simp [PyData.canLayAll0, PyData.canLay0, rowD, ih]
  have h2 : PyData.depthAll (rs.map rowD) ≤ 2 := by
    induction rs with
    | nil => simp [PyData.depthAll]
    | cons x r ih =>
      have := ih (by rw [List.map_cons, PyData.canLayAll0, Bool.and_eq_true] at h1; exact h1.2)
      simp [PyData.depthAll, PyData.depth, rowD]
      omega
  unfold rowsD SeqAt.shaped
  rw [Bool.and_eq_true]
  refine ⟨by rw [PyData.canLay0]; exact h1, decide_eq_true ?_⟩
  rw [PyData.depth]
  omega
theorem eqv_row (a b : Row) : PyData.eqv (rowD a) (rowD b) = decide (a = b) := by
  obtain ⟨a1, a2⟩ := a
  obtain ⟨b1, b2⟩ := b
  unfold rowD
  by_cases h : a2 = b2
  · subst h
    cases a1 <;> cases b1 <;> simp [PyData.eqv, PyData.eqvAll]
  · cases a1 <;> cases b1 <;> simp [PyData.eqv, PyData.eqvAll, h]
theorem np_row (r : Row) : npD (rowD r) = true := rfl
theorem np_rows (rs : List Row) : npD (rowsD rs) = true := by
  unfold rowsD
  rw [npD, Bool.and_eq_true]
  refine ⟨?_, npAll_of fun d hd => ?_⟩
  · cases rs with
    | nil => rfl
    | cons x r =>
      cases r with
      | nil => rfl
      | cons y r => rfl
  · obtain ⟨x, _, rfl⟩ := List.mem_map.mp hd
    rfl
theorem rowsD_at {K : PySem.W.Frag} {H : Hp} {v : V} {rs : List Row} (h : Dp K H v (rowsD rs)) : ∃ a xs, v = .ref a ∧ SqL K H a xs ∧ DpAll K H xs (rs.map rowD) := listD_at h
theorem rows_get {K : PySem.W.Frag} {H : Hp} {xs : List V} {rs : List Row} (h : DpAll K H xs (rs.map rowD)) : xs.length = rs.length ∧ ∀ (i : Nat) (r : Row), rs[i]? = some r → ∃ t, xs[i]? = some (.ref t) ∧ SqT K H t [.bl r.1, .int r.2] := by
  obtain ⟨h1, h2⟩ := dpAll_get h
  rw [List.length_map] at h1
  refine ⟨h1, fun i r hr => ?_⟩
  have hi : i < xs.length := by rw [h1]; exact (List.getElem?_eq_some_iff.mp hr).1
  obtain ⟨d, e1, e2⟩ := h2 i xs[i] (List.getElem?_eq_getElem hi)
  rw [List.getElem?_map, hr] at e1
  cases e1
  obtain ⟨t, e3, e4⟩ := rowD_at e2
  exact ⟨t, by rw [List.getElem?_eq_getElem hi, e3], e4⟩
/-- [g r for one, two in rows if f r] -/
theorem lc_pureR {K : PySem.W.Frag} {H : Hp} {a D : Addr} {xs : List V} {rs : List Row} {f : Row → Bool} {g : Row → V} {tt : TT} {te : TE} {vs : List Nat} {σ : L2.St} {j k : Nat} {Qd : Hp → Prop} (hs : SqL K H a xs) (hd : DpAll K H xs (rs.map rowD)) (hl : rs.length ≤ 10000) (hD : H D = none)
    (hw : ∀ x y, wipe (((wipe σ vs).set j (some x)).set k (some y)) vs = wipe σ vs) (ht : ∀ r ∈ rs, ∀ H1, Evl.Ex H H1 → ∀ QB : Bool → Hp → Prop, QB (f r) H1 → tt (((wipe σ vs).set j (some (.bl r.1))).set k (some (.int r.2))) H1 QB)
    (he : ∀ r ∈ rs, f r = true → ∀ H1, Evl.Ex H H1 → ∀ Q : VK, Q (g r) H1 → te (((wipe σ vs).set j (some (.bl r.1))).set k (some (.int r.2))) H1 Q) (kk : ∀ H', Evl.Ex H H' → H' D = some (.lst ((rs.filter f).map g)) → Qd H') :
    ∃ W : Nat → Nat → Hp → Prop, (∃ m, W 0 m (upd H D (.lst []))) ∧ ∀ i m H, W i m H →
      ((Itl K a).stop i H ∧ Qd H) ∨ ((Itl K a).go i H ∧ ∃ Nx : Hp → Prop, (∀ H', Nx H' → ∃ m', m' < m ∧ W (i + 1) m' H') ∧ ∀ x H', (Itl K a).yld i H x H' → gTup K 2 (gCons (gName j) (gCons (gName k) gNil)) x (wipe σ vs) H' fun σ2 H2 => wipe σ2 vs = wipe σ vs ∧ tt σ2 H2 fun b H3 =>
        if b = true then te σ2 H3 fun y H4 => ∃ acc, H4 D = some (.lst acc) ∧ acc.length < sizeLine ∧ Nx (upd H4 D (.lst (acc ++ [y]))) else Nx H3) := by
  obtain ⟨l1, l2⟩ := rows_get hd
  refine lc_it (walk_list (xs := xs)) (fun i H' => H' D = some (.lst (((rs.take i).filter f).map g)) ∧ Evl.Ex H H') ⟨upd_same, Evl.Ex.new hD⟩ (fun i H' _ h => Evl.ex_l h.2 hs) ?_ ?_
  · rintro i v H1 H2 hi ⟨h1, e1⟩ ⟨rfl, ey⟩
    have et := List.getElem?_eq_getElem (l := rs) (i := i) (by omega)
    generalize hr0 : rs[i] = r at et
    obtain ⟨t, ex, st⟩ := l2 i r et
    rw [ex] at ey
    cases ey
    have hx := List.mem_of_getElem? et
    refine r_gTup2 rfl (Evl.ex_t e1 st) ⟨hw _ _, ht r hx H2 e1 _ ?_⟩
    have tk : rs.take (i + 1) = rs.take i ++ [r] := take_snoc et
    cases hf : f r with
    | true =>
      refine iteT (he r hx hf H2 e1 _ ⟨_, h1, Evl.sz_lt ?_, ?_, e1.mut hD⟩)
      · rw [List.length_map]
        have := List.length_filter_le f (rs.take i)
        rw [List.length_take] at this
        omega
      · rw [upd_same, tk, List.filter_append, List.filter_cons, if_pos hf, List.map_append]
        rfl
    | false =>
      refine iteF ⟨?_, e1⟩
      rw [tk, List.filter_append, List.filter_cons, if_neg (by rw [hf]; decide), List.filter_nil, List.append_nil]
      exact h1
  · rintro H' ⟨h1, e1⟩
    rw [l1, List.take_length] at h1
    exact kk H' e1 h1
theorem r_ckw {H : Hp} {Q : VK} {σ : L2.St} {r : List V → List V → Hp → VK → Prop} {t tk : TA} (h : t σ H fun vs H1 => tk σ H1 fun zs H2 => r vs zs H2 Q) : tCKw r t tk σ H Q := h
def rwAt (rs : List Row) (h : Int) : Row := rs.getD h.toNat (true, 0)
theorem rowsOf_len {many : Int} {ties : List (Int × Int)} {names : List Int} : (rowsOf many ties names).length = many.toNat := by unfold rowsOf; rw [List.length_map, rgI_len]
theorem rwAt_of {many : Int} {ties : List (Int × Int)} {names : List Int} {h : Int} (h0 : 0 ≤ h) (h1 : h < many) : rwAt (rowsOf many ties names) h = rowOf many ties names h := by
  unfold rwAt rowsOf
  have g := rgI_get (n := many) (i := h.toNat) (by omega)
  rw [List.getD_eq_getElem?_getD, List.getElem?_map, g]
  show rowOf many ties names ((h.toNat : Nat) : Int) = _
  rw [show ((h.toNat : Nat) : Int) = h by omega]
theorem rwAt_get {rs : List Row} {h : Int} (h1 : h.toNat < rs.length) : rs[h.toNat]? = some (rwAt rs h) := by
  unfold rwAt
  rw [List.getD_eq_getElem?_getD, List.getElem?_eq_getElem h1]
  rfl
theorem rows_right {many : Int} {ties : List (Int × Int)} {names : List Int} {rs : List Row} (W : WebOk many ties) (hl : rs.length = many.toNat) :
    (∀ h, 0 ≤ h → h < many → rwAt rs h = rowBy ((lessN ties names h).map (rwAt rs))) ↔ rs = rowsOf many ties names := by
  constructor
  · intro f
    have u := fun h h0 h1 => rows_unique W f (rank many names h + 1) h (Nat.lt_succ_self _) h0 h1
    refine List.ext_getElem? fun i => ?_
    by_cases hi : i < rs.length
    · have h1 := rwAt_get (rs := rs) (h := (i : Int)) (by simpa using hi)
      have h2 := rwAt_get (rs := rowsOf many ties names) (h := (i : Int)) (by rw [rowsOf_len]; omega)
      rw [show ((i : Int)).toNat = i by omega] at h1 h2
      rw [h1, h2, u (i : Int) (by omega) (by omega), rwAt_of (by omega) (by omega)]
    · rw [List.getElem?_eq_none (by omega), List.getElem?_eq_none (by rw [rowsOf_len]; omega)]
  · rintro rfl h h0 h1
    rw [rwAt_of h0 h1, rowOf_eq W ⟨h0, h1⟩]
    congr 1
    refine List.map_congr_left fun o ho => ?_
    have hb := nbr_range W (List.mem_filter.mp ho).1
    exact (rwAt_of hb.1 hb.2).symm
theorem dpAll_snoc {K : PySem.W.Frag} {H : Hp} {x : V} {d : PyData} : ∀ {xs : List V} {ds : List PyData}, DpAll K H xs ds → Dp K H x d → DpAll K H (xs ++ [x]) (ds ++ [d])
  | _, _, .nil, h => .cons h .nil
  | _, _, .cons a r, h => .cons a (dpAll_snoc r h)
theorem room65 {k : Nat} {A : Around} (r : Room k A) : A.units + 65 < cLine := by have := r.un; omega
/-! ### rows of which some are None -/
def OV (H : Hp) (x : V) (o : Option Row) : Prop := match o with
  | none => x = .non
  | some r => ∃ t, x = .ref t ∧ H t = some (.tup [.bl r.1, .int r.2])
def OsAt (H : Hp) (R : Addr) (os : List (Option Row)) : Prop := ∃ xs, H R = some (.lst xs) ∧ xs.length = os.length ∧ ∀ (i : Nat) (o : Option Row), os[i]? = some o → ∃ x, xs[i]? = some x ∧ OV H x o
theorem OV.keep {H H' : Hp} {x : V} {o : Option Row} (e : ExT H H') (h : OV H x o) : OV H' x o := by
  cases o with
  | none => exact h
  | some r =>
    obtain ⟨t, h1, h2⟩ := h
    exact ⟨t, h1, e t _ h2⟩
theorem OsAt.keep {H H' : Hp} {R : Addr} {os : List (Option Row)} (e : ExT H H') (hR : ∀ xs, H R = some (.lst xs) → H' R = some (.lst xs)) (h : OsAt H R os) : OsAt H' R os := by
  obtain ⟨xs, h1, h2, h3⟩ := h
  refine ⟨xs, hR _ h1, h2, fun i o ho => ?_⟩
  obtain ⟨x, h4, h5⟩ := h3 i o ho
  exact ⟨x, h4, h5.keep e⟩
theorem OsAt.ex {H H' : Hp} {R : Addr} {os : List (Option Row)} (h : OsAt H R os) (e : Evl.Ex H H') : OsAt H' R os := h.keep (ExT.of e) fun xs h => e _ _ h
/-- another list is written -/
theorem OsAt.lst {H : Hp} {R q : Addr} {xs : List V} {o : HO} {os : List (Option Row)} (h : OsAt H R os) (hq : H q = some (.lst xs)) (n : q ≠ R) : OsAt (L2.upd H q o) R os := h.keep (ExT.lst hq) fun ys hy => by rw [upd_ne n.symm]; exact hy
/-- one is set -/
theorem OsAt.set {H : Hp} {R t : Addr} {xs : List V} {os : List (Option Row)} {i : Nat} {r : Row} (h : OsAt H R os) (hR : H R = some (.lst xs)) (ht : H t = some (.tup [.bl r.1, .int r.2])) : OsAt (L2.upd H R (.lst (xs.set i (.ref t)))) R (os.set i (some r)) := by
  obtain ⟨ys, h1, h2, h3⟩ := h
  rw [hR] at h1
  cases h1
  have e : ExT H (L2.upd H R (.lst (xs.set i (.ref t)))) := ExT.lst hR
  refine ⟨_, upd_same, by rw [List.length_set, List.length_set]; exact h2, fun j o ho => ?_⟩
  by_cases hj : j = i
  · subst hj
    have hl : j < os.length := by
      have := (List.getElem?_eq_some_iff.mp ho).1
      rw [List.length_set] at this
      exact this
    rw [List.getElem?_set_self hl] at ho
    cases ho
    exact ⟨.ref t, List.getElem?_set_self (by omega), t, rfl, e _ _ ht⟩
  · rw [List.getElem?_set_ne (fun z => hj z.symm)] at ho
    obtain ⟨x, h4, h5⟩ := h3 j o ho
    exact ⟨x, by rw [List.getElem?_set_ne (fun z => hj z.symm)]; exact h4, h5.keep e⟩
def oD : Option Row → PyData
  | none => .none
  | some r => rowD r
theorem OV.dp {K : PySem.W.Frag} {H : Hp} {x : V} {o : Option Row} (h : OV H x o) : Dp K H x (oD o) := by
  cases o with
  | none =>
    have h : x = .non := h
    subst h
    exact .non
  | some r =>
    obtain ⟨t, h1, h2⟩ := h
    subst h1
    exact dp_row (SqT.of h2)
theorem OsAt.dp {K : PySem.W.Frag} {H : Hp} {R : Addr} {os : List (Option Row)} (h : OsAt H R os) : Dp K H (.ref R) (.list (os.map oD)) := by
  obtain ⟨xs, h1, h2, h3⟩ := h
  refine .lst (SqL.of h1) (dpAll_ix (by rw [List.length_map]; exact h2) fun i x d hx hd => ?_)
  rw [List.getElem?_map] at hd
  cases e : os[i]? with
  | none => rw [e] at hd; cases hd
  | some o =>
    rw [e] at hd
    cases hd
    obtain ⟨y, h4, h5⟩ := h3 i o e
    rw [h4] at hx
    cases hx
    exact h5.dp
theorem OsAt.rows {K : PySem.W.Frag} {H : Hp} {R : Addr} {rs : List Row} (h : OsAt H R (rs.map some)) : Dp K H (.ref R) (rowsD rs) := by
  have := h.dp (K := K)
  rw [List.map_map] at this
  exact this
theorem shaped_os (os : List (Option Row)) : SeqAt.shaped (.list (os.map oD)) = true := by
  have h1 : PyData.canLayAll0 (os.map oD) = true := by
    induction os with
    | nil => rfl
    | cons x r ih => cases x <;> simp [PyData.canLayAll0, PyData.canLay0, oD, rowD, ih]
  have h2 : PyData.depthAll (os.map oD) ≤ 2 := by
    clear h1
    induction os with
    | nil => simp [PyData.depthAll]
    | cons x r ih => cases x <;> simp [PyData.depthAll, PyData.depth, oD, rowD] <;> omega
  unfold SeqAt.shaped
  rw [Bool.and_eq_true]
  refine ⟨by rw [PyData.canLay0]; exact h1, decide_eq_true ?_⟩
  rw [PyData.depth]
  omega
theorem any_none (os : List (Option Row)) : (os.map oD).any (fun z => PyData.eqv z .none) = os.any Option.isNone := by
  rw [List.any_map]
  congr 1
  funext o
  cases o <;> simp [oD, rowD, PyData.eqv]
theorem r_noneIn {K : PySem.W.Frag} {H : Hp} {Q : VK} {R : Addr} {os : List (Option Row)} (h : OsAt H R os) (q : Q (.bl (os.any Option.isNone)) H) : rInD K .non (.ref R) H Q :=
  ⟨.none, _, .non, h.dp, rfl, shaped_os os, by rw [any_none]; exact q⟩
theorem OsAt.at {H : Hp} {R : Addr} {os : List (Option Row)} (h : OsAt H R os) : ∃ xs, H R = some (.lst xs) ∧ xs.length = os.length ∧ ∀ (i : Int) (o : Option Row), 0 ≤ i → os[i.toNat]? = some o → ∃ x, atI xs i = some x ∧ OV H x o := by
  obtain ⟨xs, h1, h2, h3⟩ := h
  refine ⟨xs, h1, h2, fun i o h0 ho => ?_⟩
  obtain ⟨x, h4, h5⟩ := h3 _ o ho
  exact ⟨x, atI_of h0 h4, h5⟩
theorem OV.isNon {H : Hp} {x : V} {o : Option Row} (h : OV H x o) : decide (x = V.non) = o.isNone := by
  cases o with
  | none =>
    have h : x = .non := h
    subst h
    rfl
  | some r =>
    obtain ⟨t, h1, _⟩ := h
    subst h1
    rfl
/-! ### those that are decided, by a test -/
def stO (many : Int) (f : Int → Row) (d : Int → Bool) : List (Option Row) := (rgI many).map fun h => if d h = true then some (f h) else none
theorem stO_len {many : Int} {f : Int → Row} {d : Int → Bool} : (stO many f d).length = many.toNat := by unfold stO; rw [List.length_map, rgI_len]
theorem stO_get {many : Int} {f : Int → Row} {d : Int → Bool} {h : Int} (h0 : 0 ≤ h) (h1 : h < many) : (stO many f d)[h.toNat]? = some (if d h = true then some (f h) else none) := by
  unfold stO
  rw [List.getElem?_map, rgI_get (by omega)]
  show some (if d ((h.toNat : Nat) : Int) = true then _ else _) = _
  rw [show ((h.toNat : Nat) : Int) = h by omega]
theorem stO_congr {many : Int} {f : Int → Row} {d d' : Int → Bool} (h : ∀ x, 0 ≤ x → x < many → d x = d' x) : stO many f d = stO many f d' := by
  unfold stO
  refine List.map_congr_left fun x hx => ?_
  have := rgI_mem.mp hx
  rw [h x this.1 this.2]
theorem stO_set {many : Int} {f : Int → Row} {d : Int → Bool} {h : Int} (h0 : 0 ≤ h) (h1 : h < many) : (stO many f d).set h.toNat (some (f h)) = stO many f fun x => d x || decide (x = h) := by
  refine List.ext_getElem? fun i => ?_
  by_cases hi : i < many.toNat
  · have g := fun (d : Int → Bool) => stO_get (f := f) (d := d) (h := (i : Int)) (by omega) (by omega : (i : Int) < many)
    simp only [Int.toNat_natCast] at g
    rw [g]
    by_cases e : i = h.toNat
    · subst e
      rw [List.getElem?_set_self (by rw [stO_len]; exact hi), show ((h.toNat : Nat) : Int) = h by omega]
      simp
    · rw [List.getElem?_set_ne (fun z => e z.symm), g]
      rw [decide_eq_false (show ¬ (i : Int) = h by omega), Bool.or_false]
  · rw [List.getElem?_eq_none (by rw [List.length_set, stO_len]; omega), List.getElem?_eq_none (by rw [stO_len]; omega)]
theorem stO_none {many : Int} {f : Int → Row} {d : Int → Bool} : (stO many f d).any Option.isNone = (rgI many).any fun h => !d h := by
  unfold stO
  rw [List.any_map]
  congr 1
  funext h
  show Option.isNone (if d h = true then some (f h) else none) = !d h
  cases d h <;> rfl
theorem stO_all {many : Int} {f : Int → Row} {d : Int → Bool} (h : ∀ x, 0 ≤ x → x < many → d x = true) : stO many f d = ((rgI many).map f).map some := by
  unfold stO
  rw [List.map_map]
  refine List.map_congr_left fun x hx => ?_
  have := rgI_mem.mp hx
  rw [if_pos (h x this.1 this.2)]
  rfl
theorem ixN_of {n : Nat} {i : Int} (h0 : 0 ≤ i) (h1 : i < (n : Int)) : ixN n i = some i.toNat := by
  unfold ixN
  rw [if_pos h0, if_pos h1]
theorem cutV_to {xs : List V} {i : Int} (h0 : 0 ≤ i) : cutV xs none (some i) = xs.take i.toNat := by
  have := cutV_map (fun x : V => x) xs none (some i)
  rw [List.map_id', List.map_id'] at this
  rw [this]
  have e : i = ((i.toNat : Nat) : Int) := by omega
  conv => lhs; rw [e]
  exact cutG_take xs i.toNat
theorem cutV_from {xs : List V} {i : Int} (h0 : 0 ≤ i) : cutV xs (some i) none = xs.drop i.toNat := by
  have := cutV_map (fun x : V => x) xs (some i) none
  rw [List.map_id', List.map_id'] at this
  rw [this]
  have e : i = ((i.toNat : Nat) : Int) := by omega
  conv => lhs; rw [e]
  exact cutG_drop xs i.toNat
section
variable {K : PySem.W.Frag} {H : Hp} {Q : VK}
theorem dpAll_append : ∀ {xs ys : List V} {ds es : List PyData}, DpAll K H xs ds → DpAll K H ys es → DpAll K H (xs ++ ys) (ds ++ es)
  | _, _, _, _, .nil, h => h
  | _, _, _, _, .cons a r, h => .cons a (dpAll_append r h)
theorem dpAll_take : ∀ {xs : List V} {ds : List PyData} (n : Nat), DpAll K H xs ds → DpAll K H (xs.take n) (ds.take n)
  | _, _, 0, _ => .nil
  | _, _, _ + 1, .nil => .nil
  | _, _, n + 1, .cons a r => .cons a (dpAll_take n r)
theorem dpAll_drop : ∀ {xs : List V} {ds : List PyData} (n : Nat), DpAll K H xs ds → DpAll K H (xs.drop n) (ds.drop n)
  | _, _, 0, h => h
  | _, _, _ + 1, .nil => .nil
  | _, _, n + 1, .cons _ r => dpAll_drop n r
theorem r_catG {a b : Addr} {xs ys : List V} (h : H a = some (.lst xs)) (g : H b = some (.lst ys)) (hl : xs.length + ys.length ≤ 100000) (k : ∀ p, H p = none → Q (.ref p) (upd H p (.lst (xs ++ ys)))) : rCat (.ref a) (.ref b) H Q :=
  ⟨a, b, _, _, rfl, rfl, h, g, Evl.sz_of hl, k⟩
theorem r_indexI {a : Addr} {names : List Int} {y : Int} {j : Nat} (h : SqL K H a (names.map V.int)) (hn : names.Nodup) (hj : names[j]? = some y) (q : Q (.int (j : Nat)) H) : rIndex K (.ref a) [.int y] H Q := by
  refine ⟨a, _, .int y, j, .int y, rfl, rfl, h, rfl, flat_int names, by rw [List.getElem?_map, hj]; rfl, by simp [eqV], fun m z' hm hz => ?_, q⟩
  rw [List.getElem?_map] at hz
  cases e : names[m]? with
  | none => rw [e] at hz; cases hz
  | some z =>
    rw [e] at hz
    cases hz
    have : z ≠ y := fun c => by
      subst c
      have := nd_ix' hn e hj
      omega
    simp [eqV, this]
end
/-- [g r for one in rows if f r] -/
theorem lc_pureR1 {K : PySem.W.Frag} {H : Hp} {a D : Addr} {xs : List V} {rs : List Row} {f : Row → Bool} {g : Row → V} {tt : TT} {te : TE} {vs : List Nat} {σ : L2.St} {j : Nat} {Qd : Hp → Prop} (hs : SqL K H a xs) (hd : DpAll K H xs (rs.map rowD)) (hl : rs.length ≤ 10000) (hD : H D = none)
    (hw : ∀ x, wipe ((wipe σ vs).set j (some x)) vs = wipe σ vs) (ht : ∀ r ∈ rs, ∀ t H1, SqT K H1 t [.bl r.1, .int r.2] → Evl.Ex H H1 → ∀ QB : Bool → Hp → Prop, QB (f r) H1 → tt ((wipe σ vs).set j (some (.ref t))) H1 QB)
    (he : ∀ r ∈ rs, f r = true → ∀ t H1, SqT K H1 t [.bl r.1, .int r.2] → Evl.Ex H H1 → ∀ Q : VK, Q (g r) H1 → te ((wipe σ vs).set j (some (.ref t))) H1 Q) (kk : ∀ H', Evl.Ex H H' → H' D = some (.lst ((rs.filter f).map g)) → Qd H') :
    ∃ W : Nat → Nat → Hp → Prop, (∃ m, W 0 m (upd H D (.lst []))) ∧ ∀ i m H, W i m H →
      ((Itl K a).stop i H ∧ Qd H) ∨ ((Itl K a).go i H ∧ ∃ Nx : Hp → Prop, (∀ H', Nx H' → ∃ m', m' < m ∧ W (i + 1) m' H') ∧ ∀ x H', (Itl K a).yld i H x H' → gName j x (wipe σ vs) H' fun σ2 H2 => wipe σ2 vs = wipe σ vs ∧ tt σ2 H2 fun b H3 =>
        if b = true then te σ2 H3 fun y H4 => ∃ acc, H4 D = some (.lst acc) ∧ acc.length < sizeLine ∧ Nx (upd H4 D (.lst (acc ++ [y]))) else Nx H3) := by
  obtain ⟨l1, l2⟩ := rows_get hd
  refine lc_it (walk_list (xs := xs)) (fun i H' => H' D = some (.lst (((rs.take i).filter f).map g)) ∧ Evl.Ex H H') ⟨upd_same, Evl.Ex.new hD⟩ (fun i H' _ h => Evl.ex_l h.2 hs) ?_ ?_
  · rintro i v H1 H2 hi ⟨h1, e1⟩ ⟨rfl, ey⟩
    have et := List.getElem?_eq_getElem (l := rs) (i := i) (by omega)
    generalize hr0 : rs[i] = r at et
    obtain ⟨t, ex, st⟩ := l2 i r et
    rw [ex] at ey
    cases ey
    have hx := List.mem_of_getElem? et
    refine ⟨hw _, ht r hx t H2 (Evl.ex_t e1 st) e1 _ ?_⟩
    have tk : rs.take (i + 1) = rs.take i ++ [r] := take_snoc et
    cases hf : f r with
    | true =>
      refine iteT (he r hx hf t H2 (Evl.ex_t e1 st) e1 _ ⟨_, h1, Evl.sz_lt ?_, ?_, e1.mut hD⟩)
      · rw [List.length_map]
        have := List.length_filter_le f (rs.take i)
        rw [List.length_take] at this
        omega
      · rw [upd_same, tk, List.filter_append, List.filter_cons, if_pos hf, List.map_append]
        rfl
    | false =>
      refine iteF ⟨?_, e1⟩
      rw [tk, List.filter_append, List.filter_cons, if_neg (by rw [hf]; decide), List.filter_nil, List.append_nil]
      exact h1
  · rintro H' ⟨h1, e1⟩
    rw [l1, List.take_length] at h1
    exact kk H' e1 h1
/-! ### lists of rows, raw -/
def OvAll (H : Hp) (xs : List V) (os : List (Option Row)) : Prop := Paired (OV H) xs os
theorem OsAt.all {H : Hp} {R : Addr} {os : List (Option Row)} (h : OsAt H R os) : ∃ xs, H R = some (.lst xs) ∧ OvAll H xs os := by
  obtain ⟨xs, h1, h2, h3⟩ := h
  refine ⟨xs, h1, ?_⟩
  clear h1
  induction xs generalizing os with
  | nil =>
    cases os with
    | nil => exact .nil
    | cons o r => simp at h2
  | cons x r ih =>
    cases os with
    | nil => simp at h2
    | cons o t =>
      obtain ⟨y, e, ov⟩ := h3 0 o rfl
      cases e
      exact .cons ov (ih (by simpa using h2) fun i o ho => by
        obtain ⟨y, e, ov⟩ := h3 (i + 1) o (by simpa using ho)
        exact ⟨y, by simpa using e, ov⟩)
theorem OvAll.len {H : Hp} : ∀ {xs : List V} {os : List (Option Row)}, OvAll H xs os → xs.length = os.length
  | _, _, .nil => rfl
  | _, _, .cons _ r => by rw [List.length_cons, List.length_cons, OvAll.len r]
theorem OvAll.get {H : Hp} : ∀ {xs : List V} {os : List (Option Row)}, OvAll H xs os → ∀ (i : Nat) (o : Option Row), os[i]? = some o → ∃ x, xs[i]? = some x ∧ OV H x o
  | _, _, .nil, _, _, h => by simp at h
  | _, _, .cons a r, 0, o, h => by
    have e := Option.some.inj h
    subst e
    exact ⟨_, rfl, a⟩
  | _, _, .cons a r, i + 1, o, h => by
    obtain ⟨x, e, ov⟩ := OvAll.get r i o (by simpa using h)
    exact ⟨x, by simpa using e, ov⟩
theorem OvAll.at {H : Hp} {R : Addr} {xs : List V} {os : List (Option Row)} (h : H R = some (.lst xs)) (a : OvAll H xs os) : OsAt H R os := ⟨xs, h, a.len, a.get⟩
theorem OvAll.keep {H H' : Hp} (e : ExT H H') : ∀ {xs : List V} {os : List (Option Row)}, OvAll H xs os → OvAll H' xs os
  | _, _, .nil => .nil
  | _, _, .cons a r => .cons (a.keep e) (OvAll.keep e r)
theorem OvAll.append {H : Hp} : ∀ {xs ys : List V} {os ps : List (Option Row)}, OvAll H xs os → OvAll H ys ps → OvAll H (xs ++ ys) (os ++ ps)
  | _, _, _, _, .nil, h => h
  | _, _, _, _, .cons a r, h => .cons a (OvAll.append r h)
theorem OvAll.take {H : Hp} : ∀ {xs : List V} {os : List (Option Row)} (n : Nat), OvAll H xs os → OvAll H (xs.take n) (os.take n)
  | _, _, 0, _ => .nil
  | _, _, _ + 1, .nil => .nil
  | _, _, n + 1, .cons a r => .cons a (OvAll.take n r)
theorem OvAll.drop {H : Hp} : ∀ {xs : List V} {os : List (Option Row)} (n : Nat), OvAll H xs os → OvAll H (xs.drop n) (os.drop n)
  | _, _, 0, h => h
  | _, _, _ + 1, .nil => .nil
  | _, _, n + 1, .cons _ r => OvAll.drop n r
/-- a list of rows, raw -/
def RwAt (H : Hp) (v : V) (rs : List Row) : Prop := ∃ a, v = .ref a ∧ OsAt H a (rs.map some)
theorem RwAt.dp {K : PySem.W.Frag} {H : Hp} {v : V} {rs : List Row} (h : RwAt H v rs) : Dp K H v (rowsD rs) := by
  obtain ⟨a, rfl, os⟩ := h
  exact os.rows
theorem RwAt.ex {H H' : Hp} {v : V} {rs : List Row} (h : RwAt H v rs) (e : Evl.Ex H H') : RwAt H' v rs := by
  obtain ⟨a, rfl, os⟩ := h
  exact ⟨a, rfl, os.ex e⟩
theorem RwAt.exB {H H' : Hp} {p c : Addr} {v : V} {rs : List Row} (h : RwAt H v rs) (hP : PotC H p c) (e : ExB p H H') : RwAt H' v rs := by
  obtain ⟨a, rfl, os⟩ := h
  refine ⟨a, rfl, os.keep (hP.t e) fun xs hx => e a _ (fun z => ?_) hx⟩
  subst z
  obtain ⟨cs, at', r, h1, _⟩ := hP
  rw [h1] at hx
  have hx := HO.lst.inj (Option.some.inj hx)
  subst hx
  obtain ⟨ys, y1, y2, y3⟩ := os
  rw [h1] at y1
  have y1 := HO.lst.inj (Option.some.inj y1)
  subst y1
  have hl : 1 < (rs.map some).length := by rw [← y2]; simp
  obtain ⟨x, e1, ov⟩ := y3 1 _ (List.getElem?_eq_getElem hl)
  cases e1
  rw [List.getElem_map] at ov
  obtain ⟨t, e2, _⟩ := ov
  cases e2
/-- the list of lists of rows is written -/
theorem RwAt.wr {H : Hp} {S l : Addr} {r ys : List V} {o : HO} {v : V} {rs : List Row} (h : RwAt H v rs) (hS : H S = some (.lst (.ref l :: r))) (hl : H l = some (.lst ys)) : RwAt (L2.upd H S o) v rs := by
  obtain ⟨a, rfl, os⟩ := h
  refine ⟨a, rfl, os.lst hS fun z => ?_⟩
  subst z
  obtain ⟨xs, h1, h2, h3⟩ := os
  rw [hS] at h1
  have h1 := HO.lst.inj (Option.some.inj h1)
  subst h1
  have hl0 : 0 < (rs.map Option.some).length := by rw [← h2]; simp
  obtain ⟨x, e1, ov⟩ := h3 0 _ (List.getElem?_eq_getElem hl0)
  cases e1
  rw [List.getElem_map] at ov
  obtain ⟨t, e2, e3⟩ := ov
  cases e2
  rw [hl] at e3
  cases e3
theorem eqvAll_rows : ∀ a b : List Row, PyData.eqvAll (a.map rowD) (b.map rowD) = decide (a = b)
  | [], [] => by simp [PyData.eqvAll]
  | [], _ :: _ => by simp [PyData.eqvAll]
  | _ :: _, [] => by simp [PyData.eqvAll]
  | x :: a, y :: b => by
    rw [List.map_cons, List.map_cons, PyData.eqvAll, eqv_row, eqvAll_rows]
    by_cases h1 : x = y <;> by_cases h2 : a = b <;> simp [h1, h2]
theorem eqv_rows (a b : List Row) : PyData.eqv (rowsD a) (rowsD b) = decide (a = b) := by
  unfold rowsD
  rw [PyData.eqv]
  exact eqvAll_rows a b
def handD (names : List Int) (rs : List Row) : PyData := .tuple [intsD names, rowsD rs]
theorem depth_ints1 (ns : List Int) : PyData.depthAll (ns.map PyData.int) ≤ 1 := by
  induction ns with
  | nil => simp [PyData.depthAll]
  | cons x r ih =>
    simp [PyData.depthAll, PyData.depth]
    omega
theorem depth_rows2 (rs : List Row) : PyData.depthAll (rs.map rowD) ≤ 2 := by
  induction rs with
  | nil => simp [PyData.depthAll]
  | cons x r ih =>
    simp [PyData.depthAll, PyData.depth, rowD]
    omega
theorem shaped_hand (names : List Int) (rs : List Row) : SeqAt.shaped (handD names rs) = true := by
  have h1 := SeqAt.canLay_of_shaped (shaped_ints names)
  have h2 := SeqAt.canLay_of_shaped (shaped_rows rs)
  have h3 := depth_ints1 names
  have h4 := depth_rows2 rs
  unfold SeqAt.shaped
  rw [Bool.and_eq_true]
  refine ⟨?_, decide_eq_true ?_⟩
  · unfold handD intsD
    rw [PyData.canLay0, PyData.canLayAll0, PyData.canLayAll0, PyData.canLayAll0, h1, h2]
    rfl
  · unfold handD intsD rowsD
    simp only [PyData.depth, PyData.depthAll]
    omega
theorem r_neHand {K : PySem.W.Frag} {H : Hp} {Q : VK} {x y : V} {names : List Int} {rs : List Row} (h : Dp K H x (handD names rs)) (g : Dp K H y (handD names rs)) (z : Q (.bl false) H) : rNeD K x y H Q := by
  refine ⟨_, _, h, g, shaped_hand names rs, shaped_hand names rs, ?_⟩
  rw [SeqAt.eqv_refl _ (SeqAt.canLay_of_shaped (shaped_hand names rs))]
  exact z
theorem RwAt.at {H : Hp} {v : V} {rs : List Row} (h : RwAt H v rs) : ∃ a xs, v = .ref a ∧ H a = some (.lst xs) ∧ xs.length = rs.length ∧ ∀ (i : Int), 0 ≤ i → i < (rs.length : Int) → ∃ t, atI xs i = some (.ref t) ∧ H t = some (.tup [.bl (rwAt rs i).1, .int (rwAt rs i).2]) := by
  obtain ⟨a, rfl, xs, h1, h2, h3⟩ := h
  rw [List.length_map] at h2
  refine ⟨a, xs, rfl, h1, h2, fun i h0 hi => ?_⟩
  have er := rwAt_get (rs := rs) (h := i) (by omega)
  obtain ⟨x, e, t, e2, e3⟩ := h3 i.toNat _ (by rw [List.getElem?_map, er]; rfl)
  rw [e2] at e
  exact ⟨t, atI_of h0 e, e3⟩
/-- [(f r, g r) for row in rows]: rows again -/
theorem lc_mkR {K : PySem.W.Frag} {H : Hp} {a D : Addr} {rs : List Row} {h : Row → Row} {te : TE} {vs : List Nat} {σ : L2.St} {j : Nat} {Qd : Hp → Prop} (hs : RwAt H (.ref a) rs) (hl : rs.length ≤ 10000) (hD : H D = none)
    (hw : ∀ x, wipe ((wipe σ vs).set j (some x)) vs = wipe σ vs)
    (he : ∀ r ∈ rs, ∀ t H1, SqT K H1 t [.bl r.1, .int r.2] → ∀ Q : VK, (∀ q, H1 q = none → Q (.ref q) (upd H1 q (.tup [.bl (h r).1, .int (h r).2]))) → te ((wipe σ vs).set j (some (.ref t))) H1 Q) (kk : ∀ H', Evl.Ex H H' → RwAt H' (.ref D) (rs.map h) → Qd H') :
    ∃ W : Nat → Nat → Hp → Prop, (∃ m, W 0 m (upd H D (.lst []))) ∧ ∀ i m H, W i m H →
      ((Itl K a).stop i H ∧ Qd H) ∨ ((Itl K a).go i H ∧ ∃ Nx : Hp → Prop, (∀ H', Nx H' → ∃ m', m' < m ∧ W (i + 1) m' H') ∧ ∀ x H', (Itl K a).yld i H x H' → gName j x (wipe σ vs) H' fun σ2 H2 => wipe σ2 vs = wipe σ vs ∧ tYes σ2 H2 fun b H3 =>
        if b = true then te σ2 H3 fun y H4 => ∃ acc, H4 D = some (.lst acc) ∧ acc.length < sizeLine ∧ Nx (upd H4 D (.lst (acc ++ [y]))) else Nx H3) := by
  obtain ⟨_, e0, os⟩ := hs
  cases e0
  obtain ⟨xs, hx, ov⟩ := os.all
  have l1 := ov.len
  rw [List.length_map] at l1
  refine lc_it (walk_list (xs := xs)) (fun i H' => ∃ ys, H' D = some (.lst ys) ∧ OvAll H' ys (((rs.take i).map h).map some) ∧ Evl.Ex H H') ⟨[], upd_same, .nil, Evl.Ex.new hD⟩ ?_ ?_ ?_
  · rintro i H' _ ⟨_, _, _, e⟩
    exact Evl.ex_l e (SqL.of hx)
  · rintro i v H1 H2 hi ⟨ys, h1, h2, e1⟩ ⟨rfl, ey⟩
    have et := List.getElem?_eq_getElem (l := rs) (i := i) (by omega)
    generalize hr0 : rs[i] = r at et
    obtain ⟨x, ex, t, e2, e3⟩ := ov.get i _ (by rw [List.getElem?_map, et]; rfl)
    rw [e2] at ex
    rw [ex] at ey
    cases ey
    have tk : rs.take (i + 1) = rs.take i ++ [r] := take_snoc et
    refine ⟨hw _, r_yes ?_⟩
    refine iteT (he r (List.mem_of_getElem? et) t H2 (SqT.of (e1 _ _ e3)) _ fun q hq => ?_)
    have Dq : D ≠ q := ne_of_none h1 hq
    have yl := h2.len
    rw [List.length_map, List.length_map, List.length_take] at yl
    have e4 := Evl.Ex.new (o := .tup [.bl (h r).1, .int (h r).2]) hq
    refine ⟨ys, by rw [upd_ne Dq]; exact h1, Evl.sz_lt (by omega), ys ++ [.ref q], upd_same, ?_, (e1.trans e4).mut hD⟩
    have ext : ExT (upd H2 q (.tup [.bl (h r).1, .int (h r).2])) (upd (upd H2 q (.tup [.bl (h r).1, .int (h r).2])) D (.lst (ys ++ [.ref q]))) := ExT.lst (xs := ys) (by rw [upd_ne Dq]; exact h1)
    rw [tk, List.map_append, List.map_append]
    exact OvAll.append (h2.keep ((ExT.of e4).trans ext)) (.cons ⟨q, rfl, ext _ _ upd_same⟩ .nil)
  · rintro H' ⟨ys, h1, h2, e1⟩
    rw [l1, List.take_length] at h2
    exact kk H' e1 ⟨D, rfl, OvAll.at h1 h2⟩
theorem ints_exB {H H' : Hp} {p c q : Addr} {ns : List Int} (hP : PotC H p c) (e : ExB p H H') (h : H q = some (.lst (ns.map V.int))) : H' q = some (.lst (ns.map V.int)) := by
  obtain ⟨cs, a, r, h1, _⟩ := hP
  exact e q _ (ne_of h h1 fun w => ints_np _ _ _ (HO.lst.inj w)) h
/-- lists of rows, each of n -/
def Rws (H : Hp) (n : Nat) (xs : List V) : Prop := ∀ x ∈ xs, ∃ rs, rs.length = n ∧ RwAt H x rs
theorem Rws.nil {H : Hp} {n : Nat} : Rws H n [] := fun x hx => by cases hx
theorem Rws.cons {H : Hp} {n : Nat} {x : V} {xs : List V} {rs : List Row} (h : RwAt H x rs) (l : rs.length = n) (t : Rws H n xs) : Rws H n (x :: xs) := fun y hy => by
  rcases List.mem_cons.mp hy with e | hy
  · exact ⟨rs, l, e ▸ h⟩
  · exact t y hy
theorem Rws.append {H : Hp} {n : Nat} {xs ys : List V} (a : Rws H n xs) (b : Rws H n ys) : Rws H n (xs ++ ys) := fun y hy => (List.mem_append.mp hy).elim (a y) (b y)
theorem Rws.ex {H H' : Hp} {n : Nat} {xs : List V} (h : Rws H n xs) (e : Evl.Ex H H') : Rws H' n xs := fun x hx => by
  obtain ⟨rs, l, r⟩ := h x hx
  exact ⟨rs, l, r.ex e⟩
theorem Rws.wr {H : Hp} {S l : Addr} {r ys : List V} {o : HO} {n : Nat} {xs : List V} (h : Rws H n xs) (hS : H S = some (.lst (.ref l :: r))) (hl : H l = some (.lst ys)) : Rws (L2.upd H S o) n xs := fun x hx => by
  obtain ⟨rs, e, q⟩ := h x hx
  exact ⟨rs, e, q.wr hS hl⟩
theorem Rws.exB {H H' : Hp} {p c : Addr} {n : Nat} {xs : List V} (h : Rws H n xs) (hP : PotC H p c) (e : ExB p H H') : Rws H' n xs := fun x hx => by
  obtain ⟨rs, l, r⟩ := h x hx
  exact ⟨rs, l, r.exB hP e⟩
/-! ### an exception kept behind its clause -/
/-- what stands at a: an exception of this class, its dict -/
def KeptO (cls : Value) (d : Option Addr) (a : Addr) : HO := .ext fun h => ∃ (o : Obj) (vs : Array Value), h.get? a = some o ∧ Zc cls d o ∧ o.data = .fields vs
section
variable {X : Cx} {pins : List (Addr × Obj)} {σ : L2.St} {H : Hp} {s : Shared}
/-- a pinned object of ours is told from now on -/
theorem inv_told {a : Addr} {o1 : Obj} {u : HO} (J : Inv X ((a, o1) :: pins) σ H s) (hnew : X.s_0.heap.get? a = none) (hpin : ∀ p ∈ X.pn ++ pins, p.1 ≠ a) (good : ObjOk X.prog X.w (L2.upd H a u) s.heap a u) : Inv X pins σ (L2.upd H a u) s := by
  obtain ⟨p1, p2, p3, p4, p5⟩ := J.pin (a, o1) (List.mem_append_right _ List.mem_cons_self)
  have p1 : s.heap.get? a = some o1 := p1
  have p2 : H a = none := p2
  have p3 : a ≠ X.env.locals := p3
  have far : ∀ {b : Addr} {v : HO}, H b = some v → b ≠ a := fun {b v} e z => by rw [z, p2] at e; cases e
  have cel : ∀ x c, X.env.cells.lookup x = some c → c ≠ a := fun x c e z => by
    obtain ⟨v, q, hq, hd⟩ := J.cell x c e
    rw [z, p1] at hq
    cases hq
    exact p5 _ hd
  exact {
    ok := J.ok, os := J.os, bare := J.bare, loc := J.loc, cell := J.cell, len := J.len
    base := {
      keep := J.base.keep, slot := J.base.slot, there := J.base.there
      free := fun b q e n hx => by
        rw [upd_ne (fun z => by rw [z, hnew] at e; cases e)]
        exact J.base.free b q e n hx
      tups := fun b xs e => by
        have r := J.base.tups b xs e
        rw [upd_ne (far r)]
        exact r
      frzs := fun b q v e => by
        have r := J.base.frzs b q v e
        rw [upd_ne (far r)]
        exact r
      tbls := fun b ps e => by
        obtain ⟨m, r⟩ := J.base.tbls b ps e
        exact ⟨m, by rw [upd_ne (far r)]; exact r⟩ }
    free := by rw [upd_ne p3.symm]; exact J.free
    freeC := fun x c e => by rw [upd_ne (cel x c e)]; exact J.freeC x c e
    pin := fun p hp => by
      have hp' : p ∈ X.pn ++ ((a, o1) :: pins) := by
        rcases List.mem_append.mp hp with z | z
        · exact List.mem_append_left _ z
        · exact List.mem_append_right _ (List.mem_cons_of_mem _ z)
      obtain ⟨q1, q2, q3, q4, q5⟩ := J.pin p hp'
      exact ⟨q1, by rw [upd_ne (hpin p hp)]; exact q2, q3, q4, q5⟩
    hok := fun b v e => by
      by_cases hb : b = a
      · rw [hb, upd_same] at e
        cases e
        rw [hb]
        exact good
      · rw [upd_ne hb] at e
        exact (J.hok b v e).stay (fun c w _ q => q) (fun c q => by rw [upd_ne (far q)]; exact q) fun c xs q => by rw [upd_ne (far q)]; exact q }
end
/-- what 'except x as n: y = n' wishes of an exception; i, j: the places of n, y -/
def wKept (K : PySem.W.Frag) (c : Value) (i j : Nat) (Wout : WX) (D : Ends) : WX := fun cls d σ H =>
  ∃ b, PySem.W.exmOne K cls c = some b ∧ (b = true → ∀ a, H a = none → D.nx (((σ.set i (some (.ref a))).set j (some (.ref a))).set i none) (L2.upd H a (KeptO cls d a))) ∧ (b = false → Wout cls d σ H)
section
variable {X : Cx} {x n : Str} {c : Value} {i j : Nat} {body : List Stmt} {st : Stmt} {np pos pos' : Pos} {tb : WX → TS} {Wout : WX}
theorem ps_kept (hx : X.ex = []) (hs : X.stack = X.env :: X.outer) (hf : X.env.frame = some X.env.locals) (hN : X.N.Nodup) (hi : X.N[i]? = some n) (hln : X.env.kindOf n = some .local) (hc : Names X x c) (tk : Takes X Wout)
    (hb : ∀ (W : WX) (pn : List (Addr × Obj)) (xe : Value → Shared → Prop), Takes (X.tr pn xe) W → PassesOwn (model X.prog X.w) X.A X.env xe → PSs (X.tr pn xe) body (tb W))
    (hsu : ∀ (a : Addr) (o : Obj) (pn : List (Addr × Obj)), PSs (X.suite a ((a, o) :: pn)) [st] (tAsg (tVar i) (gName j))) :
    PS X (.Try body [.ExceptHandler (some (.Name x np)) (some n) [st] pos'] [] [] pos) (fun D σ H => tb (wKept X.K c i j Wout D) D σ H) := by
  constructor
  intro pins s0 σ0 H0 D I0 h0
  have good := I0.ok
  have fr0 : X.A.frames = some (X.env :: X.outer) := hs ▸ good.frames
  have ln : Loc X.env.scope n := Or.inl hln
  apply wpAny_Try_except
  let catch' : Value → Shared → Prop := fun e s₁ => wpAny (model X.prog X.w) X.A (noteFrame e X.env) (fun _ s₂ => wpAny (model X.prog X.w) X.A (setFlight e none)
    (fun _ s₃ => wpAny (model X.prog X.w) X.A (handleBy e X.env [.ExceptHandler (some (.Name x np)) (some n) [st] pos']) (SP X pins D) X.xe s₃) X.xe s₂) X.xe s₁
  have caught : Takes (X.tr (X.pn ++ pins) catch') (wKept X.K c i j Wout D) := by
    rintro u s1 ⟨a, B, sI, pns, σ1, H1, cls, d, rfl, J', nb, up, sky, na, os, ag, b, hb1, hyes, hno⟩
    have J : Inv X pins σ1 H1 sI := J'.ofTry good
    rw [show (X.tr (X.pn ++ pins) catch').stack = X.env :: X.outer from hs] at sky nb
    show wpAny (model X.prog X.w) X.A (noteFrame (.ref a) X.env) _ _ _
    refine Sky.land Zc.steady fr0 hf sky fun g1 l1 u1 => ?_
    have nbJ : ∀ b o, sI.heap.get? b = some o → b ∉ frs X.stack → B.get? b = some o := by rw [hs]; exact nb
    have K1 : Inv X pins σ1 H1 { s1 with heap := g1 } := J.landed nbJ l1.1 (up.trans u1) os ag
    obtain ⟨o1, v1, a1, y1, d1⟩ := l1.there
    obtain ⟨-, gone, ff, _⟩ := id l1
    have out : a ∉ frs (X.env :: X.outer) := fun hm => by
      obtain ⟨_, o', e', bad⟩ := ff.mem hm
      rw [a1] at e'
      cases e'
      exact bad _ d1
    have aL : a ≠ X.env.locals := by
      rintro rfl
      exact out (List.mem_filterMap.mpr ⟨X.env, List.mem_cons_self, hf⟩)
    have aF : a ∉ X.fs := fun hm => by
      obtain ⟨e, he, q⟩ := List.mem_filterMap.mp hm
      exact out (List.mem_filterMap.mpr ⟨e, List.mem_cons_of_mem _ he, q⟩)
    have notI : ∀ o, sI.heap.get? a ≠ some o := fun o e => by
      have := nb a o e out
      rw [gone] at this
      cases this
    have new0 : X.s_0.heap.get? a = none := by
      cases e : X.s_0.heap.get? a with
      | none => rfl
      | some o =>
        obtain ⟨o', e'⟩ := J.base.there a o e (by rw [hx]; exact List.not_mem_nil)
        exact absurd e' (notI o')
    have apart : ∀ p ∈ X.pn ++ pins, p.1 ≠ a := fun p hp z => by
      have q := (J.pin p hp).1
      rw [z] at q
      exact notI _ q
    have S1 := K1.suite a1 d1 na aL aF
    refine wpAny_handleBy_cons (codeAny_handlers_test ?_) (by intro q; cases q)
    have seen : PySem.W.Looks (model X.prog X.w) g1 (typeOf (.ref a)) cls := fun A Q E s k q => wpAny_typeOf_ref (k _ _ a1) (by rw [y1.1]; exact q)
    have asked := PySem.W.exm_one (M := model X.prog X.w) K1.kIn seen hb1
    have named : ∀ {Q : Value → Shared → Prop} {E : Value → Shared → Prop}, Q c { s1 with heap := g1 } → wpAny (model X.prog X.w) (X.A.mark (some (.ref a))) (eval (.Name x np) X.env) Q E { s1 with heap := g1 } := by
      intro Q E q
      rcases hc with ⟨k1, k2, k3 | ⟨k3, k4, k5⟩⟩
      · exact ld_glob (X := X.suite a ((a, o1) :: (X.pn ++ pins))) S1 k1 k3 q k2
      · exact ld_blt (X := X.suite a ((a, o1) :: (X.pn ++ pins))) S1 k1 k3 k4 q k5 k2
    refine named (asked.here ?_)
    cases b with
    | true =>
      refine codeAny_handlers_suite_as ?_
      refine HandSPX.lands_againZ l1 fun g2 l2 u2 => ?_
      have K2 : Inv X pins σ1 H1 { s1 with heap := g2 } := J.landed nbJ l2.1 ((up.trans u1).trans u2) os ag
      obtain ⟨o2, v2, a2, y2, d2⟩ := l2.there
      have S2 := K2.suite a2 d2 na aL aF
      refine store_ok (X := X.suite a ((a, o2) :: (X.pn ++ pins))) (v := .ref a) S2 hN hi ln rfl (fun s3 S3 => ?_) (.inr hln)
      have len : i < σ1.length := by
        rw [K2.len]
        exact (List.getElem?_eq_some_iff.mp hi).1
      let D2 : Ends := { nx := fun σ' H' => σ' = (σ1.set i (some (.ref a))).set j (some (.ref a)) ∧ H' = H1, rt := fun _ _ => False, bk := fun _ _ => False, ct := fun _ _ => False }
      refine wpAny_mono ((hsu a o2 (X.pn ++ pins)).run [] s3 _ H1 D2 S3 (r_asg (r_var (List.getElem?_set_self len) ⟨rfl, rfl⟩))) (fun f s4 hsp => ?_) (fun _ _ z => False.elim z)
      cases f with
      | next =>
        obtain ⟨σ4, H4, S4, rfl, rfl⟩ := hsp
        have K4 : Inv X ((a, o2) :: pins) ((σ1.set i (some (.ref a))).set j (some (.ref a))) H4 s4 := {
          ok := good, os := S4.os, bare := S4.bare, base := S4.base, loc := S4.loc, cell := S4.cell, free := S4.free, freeC := S4.freeC, hok := S4.hok, len := S4.len
          pin := fun p hp => S4.pin p (List.mem_append_left _ (by
            rcases List.mem_append.mp hp with z | z
            · exact List.mem_cons_of_mem _ (List.mem_append_left _ z)
            · rcases List.mem_cons.mp z with z | z
              · rw [z]; exact List.mem_cons_self
              · exact List.mem_cons_of_mem _ (List.mem_append_right _ z))) }
        refine gone_ok K4 hN hi hln fun s5 K5 => ?_
        obtain ⟨p1, p2, _⟩ := K5.pin (a, o2) (List.mem_append_right _ List.mem_cons_self)
        exact ⟨_, _, inv_told (u := KeptO cls d a) K5 new0 apart ⟨⟨o2, v2, p1, y2, d2⟩, ⟨o2, p1⟩, fun _ _ ⟨o, v, q, r⟩ k => ⟨o, v, k o q, r⟩⟩, hyes rfl a na⟩
      | brk =>
        obtain ⟨_, _, _, q⟩ := hsp
        exact q.elim
      | cont =>
        obtain ⟨_, _, _, q⟩ := hsp
        exact q.elim
      | ret u =>
        obtain ⟨_, _, _, _, _, q⟩ := hsp
        exact q.elim
    | false =>
      show wpAny _ X.A (handleBy (.ref a) X.env []) _ _ _
      refine wpAny_handleBy_nil ?_
      obtain ⟨_, _, _, o3, v3, T, _, _, e3, _, d3, t3, _⟩ := id l1
      unfold PySem.passOn
      refine wpAny_bind (wpAny_field e3 d3 t3 ?_)
      rw [if_neg (show ¬ ((Value.ref T == Value.none) = true) from by simp)]
      have onward : wpAny (model X.prog X.w) X.A (setFlight (.ref a) X.env.frame) (fun _ s4 => wpAny (model X.prog X.w) X.A (throw (.ref a) : Sem Flow) (SP X pins D) X.xe s4) X.xe { s1 with heap := g1 } := by
        rw [hf]
        refine HandSPX.setFlight_upZ l1 fun g2 m2 u2 => wpAny_throw (tk _ _ ?_)
        exact ⟨a, B, sI, pins, σ1, H1, cls, d, rfl, J, nbJ, (up.trans u1).trans u2, .inr (.inr (by rw [hs]; exact m2)), na, os, ag, hno rfl⟩
      first
        | exact wpAny_bind (wpAny_pure (wpAny_bind onward))
        | exact wpAny_bind onward
  refine wpAny_mono ((hb (wKept X.K c i j Wout D) (X.pn ++ pins) catch' caught PassesOwn.looking).run [] s0 σ0 H0 D (I0.toTry _) h0) (fun f s1 hsp => ?_) (fun _ _ z => z)
  cases f with
  | next =>
    obtain ⟨σ1, H1, J1, q⟩ := hsp
    exact wpAny_execs_nil ⟨σ1, H1, J1.ofTry good, q⟩
  | brk =>
    obtain ⟨σ1, H1, J1, q⟩ := hsp
    exact ⟨σ1, H1, J1.ofTry good, q⟩
  | cont =>
    obtain ⟨σ1, H1, J1, q⟩ := hsp
    exact ⟨σ1, H1, J1.ofTry good, q⟩
  | ret u =>
    obtain ⟨v, σ1, H1, J1, r, q⟩ := hsp
    exact ⟨v, σ1, H1, J1.ofTry good, r, q⟩
end
/-- the object at a is an exception of the class D, without a dict: told by whatever is kept of it -/
def ExcAt (H : Hp) (a D : Addr) : Prop := ∃ φ : Heap → Prop, H a = some (.ext φ) ∧ ∀ h, φ h → ∃ (o : Obj) (vs : Array Value), h.get? a = some o ∧ Zc (.ref D) none o ∧ o.data = .fields vs
theorem ExcAt.kept {H : Hp} {a D : Addr} (e : H a = some (KeptO (.ref D) none a)) : ExcAt H a D := ⟨_, e, fun _ z => z⟩
theorem ExcAt.ex {H H' : Hp} {a D : Addr} (h : ExcAt H a D) (e : Evl.Ex H H') : ExcAt H' a D := by
  obtain ⟨φ, h1, h2⟩ := h
  exact ⟨φ, e _ _ h1, h2⟩
/-- isinstance(x, c), x an exception that is told -/
def rIsK (K : PySem.W.Frag) : List V → Hp → VK → Prop := fun xs H Q => ∃ (a D : Addr) (c : V) (cv : Value) (b : Bool), xs = [.ref a, c] ∧ ExcAt H a D ∧ ExcC K D ∧ (∀ u, RelV c u → u = cv) ∧ PySem.W.kitOne K (.ref D) cv = some b ∧ Q (.bl b) H
theorem call_isK {X : Cx} : CallR X (.builtin "isinstance") (rIsK X.K) := by
  intro pins s σ H xs us Q I r h
  obtain ⟨a, D, c, cv, b, rfl, ⟨φ, ha, hφ⟩, C, hcv, e, q⟩ := h
  match us, r with
  | [_, _], .cons rx (.cons rt .nil) =>
    cases rx
    obtain rfl := hcv _ rt
    obtain ⟨o, vs, hg, hz, hd⟩ := hφ _ (I.hok a _ ha).1
    have J : PySem.W.InstAt s.heap a o D none := by
      obtain ⟨oc, od, oda, osl⟩ := o
      obtain ⟨h1, h2⟩ := hz
      dsimp only at h1 h2 hd
      subst h1 h2 hd
      exact ⟨hg, rfl, rfl, trivial⟩
    exact PySem.W.kia_one (PySem.W.handS_kitx_exc C.hg C.hk C.hs C.hd C.ha C.hn C.ht C.hm) I.kIn J e (fun z => nomatch z) fun tk => ⟨.bl b, H, I.kept (t' := tk) fun _ _ z => z, rfl, q⟩
theorem relC {C : Addr} {u : Value} (r : RelV (.ref C) u) : u = .ref C := r
theorem r_isK {K : PySem.W.Frag} {H : Hp} {Q : VK} {a D C : Addr} {b : Bool} (h : ExcAt H a D) (e : ExcC K D) (k : PySem.W.kitOne K (.ref D) (.ref C) = some b) (q : Q (.bl b) H) : rIsK K [.ref a, .ref C] H Q := ⟨a, D, _, _, b, rfl, h, e, fun _ r => r, k, q⟩
/-! ### xs.count(y), flat values -/
def rCntV (K : PySem.W.Frag) : V → List V → Hp → VK → Prop := fun x xs H Q => ∃ (p : Addr) (ys : List V) (y : V), x = .ref p ∧ xs = [y] ∧ SqL K H p ys ∧ flatV y = true ∧ ys.all flatV = true ∧ Q (.int ((ys.countP fun z => eqV z y : Nat) : Int)) H
theorem cnt_eqU {y : V} : ∀ {ys : List V} {us : List Value}, Vals ys us → ys.all flatV = true → us.countP (eqU y) = ys.countP fun z => eqV z y
  | _, _, .nil, _ => rfl
  | z :: ys, u :: us, .cons r t, f => by
    rw [List.all_cons, Bool.and_eq_true] at f
    rw [List.countP_cons, List.countP_cons, eqU_of r f.1, cnt_eqU t f.2]
theorem mt_cntV {X : Cx} : MtR X "list.count" (rCntV X.K) := by
  intro pins s σ H x xs v us Q I rx rxs h
  obtain ⟨p, ys, y, rfl, rfl, hs, fy, fys, q⟩ := h
  cases rx
  obtain ⟨u, rfl, ru⟩ := rxs.one
  obtain ⟨its, rv, ⟨⟨cls, dd, data, sl⟩, n, ho, hc, hdn, hd⟩, hlen⟩ := I.list hs
  simp only at hc hd
  subst hc hd
  refine call_meets PySem.F.slot_list_count ⟨_, ho, rfl⟩ PySem.F.entry_list_count (PySem.F.args_list_count_2 _ _) (SeqAt.list_countAt p its.toArray n dd sl u (eqU y)) ⟨ho, fun w hw => mem_eqAt ru fy rv fys w (by simpa using hw), ?_⟩
  have ec : its.toArray.toList.countP (eqU y) = ys.countP fun z => eqV z y := cnt_eqU rv fys
  exact ⟨.int ((ys.countP fun z => eqV z y : Nat) : Int), H, I.tok _, ⟨s.toks, congrArg (fun m : Nat => Value.int (m : Int) s.toks) ec⟩, q⟩
/-! ### the classes' facts, from the written part's answers -/
theorem kit_self {K : PySem.W.Frag} {C : Addr} : PySem.W.kitOne K (.ref C) (.ref C) = some true := by
  unfold PySem.W.kitOne
  rw [if_pos (beq_iff_eq.mpr rfl)]
theorem kit_ne {K : PySem.W.Frag} {D C : Addr} {b : Bool} (h0 : D ≠ C) (h1 : PySem.W.hasDictIn K C = true) (h2 : PySem.W.typeIn K (.ref C) = some (.type "type")) (h3 : PySem.W.subIn K (.ref D) (.ref C) = some b) : PySem.W.kitOne K (.ref D) (.ref C) = some b := by
  obtain ⟨cd, hc, _⟩ := PySem.W.any_some h1
  unfold PySem.W.kitOne
  rw [if_neg (fun z => h0 (Value.ref.inj (beq_iff_eq.mp z)))]
  unfold PySem.W.kitCls
  simp only
  rw [if_pos (by rw [hc, h2]; rfl)]
  exact h3
theorem kit_type {K : PySem.W.Frag} {D : Addr} {t : String} {b : Bool} (h1 : PySem.W.kitMeta t = true) (h3 : PySem.W.subIn K (.ref D) (.type t) = some b) : PySem.W.kitOne K (.ref D) (.type t) = some b := by
  unfold PySem.W.kitOne
  rw [if_neg (fun z => by have := beq_iff_eq.mp z; cases this)]
  unfold PySem.W.kitCls
  simp only
  rw [if_pos h1]
  exact h3
/-! ### a heap of two parts: what stays (F) and what is one's own (M) -/
/-- what is told of a cell of one's own: an object, the law's pot -/
inductive Cel where
  | is (o : HO)
  | pot
def PotS (F H : Hp) (p : Addr) : Prop := ∃ (c : Addr) (cs : List Int) (at' r : Int), H p = some (.lst [.ref c, .int at', .int r]) ∧ F c = some (.lst (cs.map V.int)) ∧ 0 ≤ at' ∧ 0 ≤ r ∧ cs.length ≤ 100
def Cel.ok (io : List Addr) (H0 F H : Hp) (a : Addr) : Cel → Prop
  | .is o => H a = some o ∧ H0 a = none
  | .pot => PotS F H a ∧ (a ∈ io ∨ H0 a = none)
/-- io: cells of the caller's that may be written; H0, F0: at the entry; F: what stays; M: one's own -/
structure Sep (io : List Addr) (H0 F0 F H : Hp) (M : List (Addr × Cel)) : Prop where
  old : ∀ a o, H0 a = some o → a ∉ io → H a = some o
  nn : ∀ a, H a = none → H0 a = none
  gr : Evl.Ex F0 F
  gn : ∀ a, F a ≠ none → F0 a ≠ none ∨ H0 a = none
  fr : Evl.Ex F H
  own : ∀ m ∈ M, m.2.ok io H0 F H m.1 ∧ F m.1 = none
  nd : (M.map (·.1)).Nodup
theorem Cel.nz {io : List Addr} {H0 F H : Hp} {a : Addr} {c : Cel} (h : c.ok io H0 F H a) : H a ≠ none := by
  cases c with
  | is o => intro e; rw [h.1] at e; cases e
  | pot => obtain ⟨⟨c, cs, x, r, h, _⟩, _⟩ := h; intro e; rw [h] at e; cases e
theorem Cel.mono {io : List Addr} {H0 F H F' H' : Hp} {a : Addr} {c : Cel} (h : c.ok io H0 F H a) (e : Evl.Ex F F') (k : ∀ o, H a = some o → H' a = some o) : c.ok io H0 F' H' a := by
  cases c with
  | is o => exact ⟨k _ h.1, h.2⟩
  | pot => obtain ⟨⟨c, cs, x, r, h1, h2, h3⟩, h4⟩ := h; exact ⟨⟨c, cs, x, r, k _ h1, e _ _ h2, h3⟩, h4⟩
theorem Hp.ne {H : Hp} {a b : Addr} (h : H a ≠ none) (g : H b = none) : a ≠ b := fun e => h (by rw [e]; exact g)
theorem Hp.some_ne {H : Hp} {a : Addr} {o : HO} (h : H a = some o) : H a ≠ none := fun e => by rw [h] at e; cases e
section
variable {io : List Addr} {H0 F0 F H F1 : Hp} {M N : List (Addr × Cel)} {K : PySem.W.Frag} {a p : Addr} {o : HO} {xs : List V} {v : V} {d : PyData}
theorem Sep.start0 (fr : Evl.Ex F H) : Sep [] H F F H [] := ⟨fun _ _ h _ => h, fun _ h => h, Evl.Ex.refl _, fun _ h => .inl h, fr, fun m hm => (by cases hm), List.nodup_nil⟩
theorem Sep.startP (fr : Evl.Ex F H) (hF : F p = none) (hp : PotS F H p) : Sep [p] H F F H [(p, .pot)] :=
  ⟨fun _ _ h _ => h, fun _ h => h, Evl.Ex.refl _, fun _ h => .inl h, fr, fun m hm => by
    rw [List.mem_singleton] at hm
    subst hm
    exact ⟨⟨hp, .inl List.mem_cons_self⟩, hF⟩, by simp⟩
theorem Sep.fnone (S : Sep io H0 F0 F H M) (h : H a = none) : F a = none := by
  cases e : F a with
  | none => rfl
  | some o => rw [S.fr a o e] at h; cases h
theorem Sep.newF (S : Sep io H0 F0 F H M) (hp : H p = none) (o : HO) : Sep io H0 F0 (upd F p o) (upd H p o) M := by
  have fp := S.fnone hp
  refine ⟨fun a u h n => ?_, fun a h => ?_, S.gr.trans (Evl.Ex.new fp), fun a h => ?_, fun a u h => ?_, fun m hm => ?_, S.nd⟩
  · have q := S.old a u h n
    rw [upd_ne (Hp.ne (Hp.some_ne q) hp)]
    exact q
  · by_cases e : a = p
    · subst e; rw [upd_same] at h; cases h
    · rw [upd_ne e] at h; exact S.nn a h
  · by_cases e : a = p
    · subst e; exact .inr (S.nn a hp)
    · rw [upd_ne e] at h; exact S.gn a h
  · by_cases e : a = p
    · subst e; rw [upd_same] at h ⊢; exact h
    · rw [upd_ne e] at h ⊢; exact S.fr a u h
  · obtain ⟨h1, h2⟩ := S.own m hm
    have ne := Hp.ne (Cel.nz h1) hp
    exact ⟨Cel.mono h1 (Evl.Ex.new fp) fun u hu => by rw [upd_ne ne]; exact hu, by rw [upd_ne ne]; exact h2⟩
theorem Sep.newM (S : Sep io H0 F0 F H M) (hp : H p = none) (o : HO) : Sep io H0 F0 F (upd H p o) ((p, .is o) :: M) := by
  have fp := S.fnone hp
  have far : ∀ m ∈ M, m.1 ≠ p := fun m hm => Hp.ne (Cel.nz (S.own m hm).1) hp
  refine ⟨fun a u h n => ?_, fun a h => ?_, S.gr, S.gn, fun a u h => ?_, fun m hm => ?_, ?_⟩
  · have q := S.old a u h n
    rw [upd_ne (Hp.ne (Hp.some_ne q) hp)]
    exact q
  · by_cases e : a = p
    · subst e; rw [upd_same] at h; cases h
    · rw [upd_ne e] at h; exact S.nn a h
  · have q := S.fr a u h
    rw [upd_ne (Hp.ne (Hp.some_ne q) hp)]
    exact q
  · rcases List.mem_cons.mp hm with rfl | hm
    · exact ⟨⟨upd_same, S.nn p hp⟩, fp⟩
    · obtain ⟨h1, h2⟩ := S.own m hm
      exact ⟨Cel.mono h1 (Evl.Ex.refl _) fun u hu => by rw [upd_ne (far m hm)]; exact hu, h2⟩
  · rw [List.map_cons]
    refine List.nodup_cons.mpr ⟨fun h => ?_, S.nd⟩
    obtain ⟨m, hm, e⟩ := List.mem_map.mp h
    exact far m hm e
theorem mem_of_k {α : Type} {l : List α} {k : Nat} {x : α} (h : l[k]? = some x) : x ∈ l := List.mem_of_getElem? h
theorem nd_of_ne {M : List (Addr × Cel)} (h : (M.map (·.1)).Nodup) {k j : Nat} {x y : Addr × Cel} (hk : M[k]? = some x) (hj : M[j]? = some y) (ne : j ≠ k) : y.1 ≠ x.1 := fun e => by
  have h1 : (M.map (·.1))[k]? = some x.1 := by rw [List.getElem?_map, hk]; rfl
  have h2 : (M.map (·.1))[j]? = some x.1 := by rw [List.getElem?_map, hj]; exact congrArg some e
  exact ne (nd_ix' h h2 h1)
theorem set_map_fst {M : List (Addr × Cel)} {k : Nat} {a : Addr} {c c' : Cel} (hk : M[k]? = some (a, c)) : (M.set k (a, c')).map (·.1) = M.map (·.1) := by
  rw [List.map_set]
  refine List.ext_getElem? fun j => ?_
  by_cases e : j = k
  · subst e
    have lt : j < M.length := (List.getElem?_eq_some_iff.mp hk).1
    rw [List.getElem?_set_self (by rw [List.length_map]; exact lt), List.getElem?_map, hk]
    rfl
  · rw [List.getElem?_set_ne (Ne.symm e)]
/-- a cell of one's own is written -/
theorem Sep.put (S : Sep io H0 F0 F H M) (k : Nat) {u : HO} (hk : M[k]? = some (a, .is u)) (o : HO) : Sep io H0 F0 F (upd H a o) (M.set k (a, .is o)) := by
  obtain ⟨⟨g1, g2⟩, g3⟩ := S.own _ (mem_of_k hk)
  refine ⟨fun b u h n => ?_, fun b h => ?_, S.gr, S.gn, fun b u h => ?_, fun m hm => ?_, ?_⟩
  · rw [upd_ne (Hp.ne (Hp.some_ne h) g2)]
    exact S.old b u h n
  · by_cases e : b = a
    · subst e; exact g2
    · rw [upd_ne e] at h; exact S.nn b h
  · rw [upd_ne (Hp.ne (Hp.some_ne h) g3)]
    exact S.fr b u h
  · obtain ⟨j, hj⟩ := List.mem_iff_getElem?.mp hm
    by_cases e : j = k
    · subst e
      rw [List.getElem?_set_self (List.getElem?_eq_some_iff.mp hk).1] at hj
      cases hj
      exact ⟨⟨upd_same, g2⟩, g3⟩
    · rw [List.getElem?_set_ne (Ne.symm e)] at hj
      obtain ⟨h1, h2⟩ := S.own m (mem_of_k hj)
      have ne := nd_of_ne S.nd hk hj e
      exact ⟨Cel.mono h1 (Evl.Ex.refl _) fun w hw => by rw [upd_ne ne]; exact hw, h2⟩
  · rw [set_map_fst hk]
    exact S.nd
/-- from now on it stays -/
theorem Sep.frz (S : Sep io H0 F0 F H M) (k : Nat) (hk : M[k]? = some (a, .is o)) : ∃ F', Sep io H0 F0 F' H (M.eraseIdx k) ∧ Evl.Ex F F' ∧ F' a = some o := by
  obtain ⟨⟨g1, g2⟩, g3⟩ := S.own _ (mem_of_k hk)
  refine ⟨upd F a o, ⟨S.old, S.nn, S.gr.trans (Evl.Ex.new g3), fun b h => ?_, fun b u h => ?_, fun m hm => ?_, ?_⟩, Evl.Ex.new g3, upd_same⟩
  · by_cases e : b = a
    · subst e; exact .inr g2
    · rw [upd_ne e] at h; exact S.gn b h
  · by_cases e : b = a
    · subst e; rw [upd_same] at h; cases h; exact g1
    · rw [upd_ne e] at h; exact S.fr b u h
  · have lt : k < M.length := (List.getElem?_eq_some_iff.mp hk).1
    obtain ⟨j, hj⟩ := List.mem_iff_getElem?.mp hm
    rw [List.getElem?_eraseIdx] at hj
    obtain ⟨j', ne, hj⟩ : ∃ j', j' ≠ k ∧ M[j']? = some m := by
      split at hj
      · exact ⟨j, by omega, hj⟩
      · exact ⟨j + 1, by omega, hj⟩
    obtain ⟨h1, h2⟩ := S.own m (mem_of_k hj)
    have ne := nd_of_ne S.nd hk hj ne
    exact ⟨Cel.mono h1 (Evl.Ex.new g3) fun w hw => hw, by rw [upd_ne ne]; exact h2⟩
  · exact S.nd.sublist ((List.eraseIdx_sublist M k).map _)
theorem Sep.sub (S : Sep io H0 F0 F H M) (h : N.Sublist M) : Sep io H0 F0 F H N :=
  ⟨S.old, S.nn, S.gr, S.gn, S.fr, fun m hm => S.own m (h.subset hm), S.nd.sublist (h.map _)⟩
theorem Sep.nil (S : Sep io H0 F0 F H M) : Sep io H0 F0 F H [] := S.sub (List.nil_sublist _)
theorem Sep.drop (S : Sep io H0 F0 F H M) (k : Nat) : Sep io H0 F0 F H (M.eraseIdx k) := S.sub (List.eraseIdx_sublist M k)
theorem Sep.topot (S : Sep io H0 F0 F H M) (k : Nat) (hk : M[k]? = some (p, .is o)) (h : PotS F H p) : Sep io H0 F0 F H (M.set k (p, .pot)) := by
  obtain ⟨⟨g1, g2⟩, g3⟩ := S.own _ (mem_of_k hk)
  refine ⟨S.old, S.nn, S.gr, S.gn, S.fr, fun m hm => ?_, ?_⟩
  · obtain ⟨j, hj⟩ := List.mem_iff_getElem?.mp hm
    by_cases e : j = k
    · subst e
      rw [List.getElem?_set_self (List.getElem?_eq_some_iff.mp hk).1] at hj
      cases hj
      exact ⟨⟨h, .inr g2⟩, g3⟩
    · rw [List.getElem?_set_ne (Ne.symm e)] at hj
      exact S.own m (mem_of_k hj)
  · rw [set_map_fst hk]
    exact S.nd
/-- the pot is written -/
theorem Sep.putPot (S : Sep io H0 F0 F H M) (k : Nat) (hk : M[k]? = some (p, .pot)) (o : HO) (hP : PotS F (upd H p o) p) : Sep io H0 F0 F (upd H p o) M := by
  obtain ⟨⟨g1, g2⟩, g3⟩ := S.own _ (mem_of_k hk)
  refine ⟨fun b u h n => ?_, fun b h => ?_, S.gr, S.gn, fun b u h => ?_, fun m hm => ?_, S.nd⟩
  · have ne : b ≠ p := fun e => by
      rw [e] at h n
      rcases g2 with z | z
      · exact n z
      · rw [h] at z; cases z
    rw [upd_ne ne]
    exact S.old b u h n
  · by_cases e : b = p
    · rw [e, upd_same] at h; cases h
    · rw [upd_ne e] at h; exact S.nn b h
  · rw [upd_ne (Hp.ne (Hp.some_ne h) g3)]
    exact S.fr b u h
  · obtain ⟨j, hj⟩ := List.mem_iff_getElem?.mp hm
    by_cases e : j = k
    · subst e
      rw [hk] at hj
      cases hj
      exact ⟨⟨hP, g2⟩, g3⟩
    · obtain ⟨h1, h2⟩ := S.own m (mem_of_k hj)
      have ne := nd_of_ne S.nd hk hj e
      exact ⟨Cel.mono h1 (Evl.Ex.refl _) fun w hw => by rw [upd_ne ne]; exact hw, h2⟩
/-- a call that writes nothing of ours -/
theorem Sep.comp (S : Sep io H0 F0 F H M) {F' H' : Hp} (S' : Sep [] H F F' H' N) : Sep io H0 F0 F' H' (N ++ M) := by
  have ex : ∀ a o, H a = some o → H' a = some o := fun a o h => S'.old a o h (by simp)
  refine ⟨fun a u h n => ex a u (S.old a u h n), fun a h => S.nn a (S'.nn a h), S.gr.trans S'.gr, fun a h => ?_, S'.fr, fun m hm => ?_, ?_⟩
  · rcases S'.gn a h with z | z
    · exact S.gn a z
    · exact .inr (S.nn a z)
  · rcases List.mem_append.mp hm with hm | hm
    · obtain ⟨h1, h2⟩ := S'.own m hm
      refine ⟨?_, h2⟩
      obtain ⟨x, c⟩ := m
      cases c with
      | is o => exact ⟨h1.1, S.nn _ h1.2⟩
      | pot =>
        obtain ⟨q, z | z⟩ := h1
        · cases z
        · exact ⟨q, .inr (S.nn _ z)⟩
    · obtain ⟨h1, h2⟩ := S.own m hm
      refine ⟨Cel.mono h1 S'.gr (ex _), ?_⟩
      cases e : F' m.1 with
      | none => rfl
      | some u =>
        rcases S'.gn m.1 (Hp.some_ne e) with z | z
        · exact absurd h2 z
        · exact absurd z (Cel.nz h1)
  · rw [List.map_append]
    refine List.nodup_append.mpr ⟨S'.nd, S.nd, ?_⟩
    intro x hx y hy e
    obtain ⟨m, hm, rfl⟩ := List.mem_map.mp hx
    obtain ⟨n, hn, rfl⟩ := List.mem_map.mp hy
    have h1 := (S'.own m hm).1
    have h2 := Cel.nz (S.own n hn).1
    obtain ⟨x, c⟩ := m
    cases c with
    | is o => exact h2 (by rw [← e]; exact h1.2)
    | pot =>
      obtain ⟨q, z | z⟩ := h1
      · cases z
      · exact h2 (by rw [← e]; exact z)
/-- a call that writes the pot -/
theorem Sep.compP (S : Sep io H0 F0 F H M) (k : Nat) (hk : M[k]? = some (p, .pot)) {F' H' : Hp} (S' : Sep [p] H F F' H' (N ++ [(p, .pot)])) : Sep io H0 F0 F' H' (N ++ M) := by
  obtain ⟨⟨g1, g2⟩, g3⟩ := S.own _ (mem_of_k hk)
  have ex : ∀ a o, a ≠ p → H a = some o → H' a = some o := fun a o n h => S'.old a o h (by simpa using n)
  have hp0 : H p ≠ none := by obtain ⟨_, _, _, _, h, _⟩ := g1; rw [h]; intro z; cases z
  have pp := S'.own (p, .pot) (List.mem_append_right _ (List.mem_singleton.mpr rfl))
  have np : ∀ m ∈ N, m.1 ≠ p := fun m hm e => by
    have nd := S'.nd
    rw [List.map_append] at nd
    exact (List.nodup_append.mp nd).2.2 m.1 (List.mem_map_of_mem hm) p (by simp) e
  refine ⟨fun a u h n => ?_, fun a h => S.nn a (S'.nn a h), S.gr.trans S'.gr, fun a h => ?_, S'.fr, fun m hm => ?_, ?_⟩
  · refine ex a u (fun e => ?_) (S.old a u h n)
    subst e
    rcases g2 with z | z
    · exact n z
    · rw [h] at z; cases z
  · rcases S'.gn a h with z | z
    · exact S.gn a z
    · exact .inr (S.nn a z)
  · rcases List.mem_append.mp hm with hm | hm
    · obtain ⟨h1, h2⟩ := S'.own m (List.mem_append_left _ hm)
      have n := np m hm
      refine ⟨?_, h2⟩
      obtain ⟨x, c⟩ := m
      cases c with
      | is o => exact ⟨h1.1, S.nn _ h1.2⟩
      | pot =>
        obtain ⟨q, z | z⟩ := h1
        · exact absurd (List.mem_singleton.mp z) n
        · exact ⟨q, .inr (S.nn _ z)⟩
    · obtain ⟨j, hj⟩ := List.mem_iff_getElem?.mp hm
      by_cases e : j = k
      · subst e
        rw [hk] at hj
        cases hj
        exact ⟨⟨pp.1.1, g2⟩, pp.2⟩
      · obtain ⟨h1, h2⟩ := S.own m hm
        refine ⟨Cel.mono h1 S'.gr fun u hu => ex _ u (nd_of_ne S.nd hk hj e) hu, ?_⟩
        cases q : F' m.1 with
        | none => rfl
        | some u =>
          rcases S'.gn m.1 (Hp.some_ne q) with z | z
          · exact absurd h2 z
          · exact absurd z (Cel.nz h1)
  · rw [List.map_append]
    refine List.nodup_append.mpr ⟨S'.nd.sublist ((List.sublist_append_left N _).map _), S.nd, ?_⟩
    intro x hx y hy e
    obtain ⟨m, hm, rfl⟩ := List.mem_map.mp hx
    obtain ⟨n, hn, rfl⟩ := List.mem_map.mp hy
    have h1 := (S'.own m (List.mem_append_left _ hm)).1
    have h2 := Cel.nz (S.own n hn).1
    have n' := np m hm
    obtain ⟨x, c⟩ := m
    cases c with
    | is o => exact h2 (by rw [← e]; exact h1.2)
    | pot =>
      obtain ⟨q, z | z⟩ := h1
      · exact absurd (List.mem_singleton.mp z) n'
      · exact h2 (by rw [← e]; exact z)
/-! reading -/
theorem Sep.rdL (S : Sep io H0 F0 F H M) (e : Evl.Ex F1 F) (h : SqL K F1 a xs) : SqL K H a xs := Evl.ex_l S.fr (Evl.ex_l e h)
theorem Sep.rdT (S : Sep io H0 F0 F H M) (e : Evl.Ex F1 F) (h : SqT K F1 a xs) : SqT K H a xs := Evl.ex_t S.fr (Evl.ex_t e h)
theorem Sep.rdC (S : Sep io H0 F0 F H M) (e : Evl.Ex F1 F) (h : F1 a = some o) : H a = some o := S.fr _ _ (e _ _ h)
theorem Sep.rdM (S : Sep io H0 F0 F H M) (k : Nat) (h : M[k]? = some (a, .is o)) : H a = some o := (S.own _ (mem_of_k h)).1.1
theorem Sep.rdD (S : Sep io H0 F0 F H M) (e : Evl.Ex F1 F) (h : Dp K F1 v d) : Dp K H v d := Dp.ex S.fr _ _ (Dp.ex e _ _ h)
theorem Sep.ex (S : Sep [] H0 F0 F H M) : Evl.Ex H0 H := fun a o h => S.old a o h (by simp)
end
/-! ### new things -/
def newK (H : Hp) (o : HO) (Q : VK) : Prop := ∀ p, H p = none → Q (.ref p) (upd H p o)
section
variable {io : List Addr} {H0 F0 F H : Hp} {M : List (Addr × Cel)} {K : PySem.W.Frag} {o : HO} {Q : VK} {σ : L2.St} {ta : TA} {te : TE}
theorem s_new (S : Sep io H0 F0 F H M) (k : ∀ p F' H', Sep io H0 F0 F' H' M → Evl.Ex F F' → F' p = some o → Q (.ref p) H') : newK H o Q := fun p hp =>
  k p _ _ (S.newF hp o) (Evl.Ex.new (S.fnone hp)) upd_same
theorem s_own (S : Sep io H0 F0 F H M) (k : ∀ p H', Sep io H0 F0 F H' ((p, .is o) :: M) → Q (.ref p) H') : newK H o Q := fun p hp => k p _ (S.newM hp o)
theorem s_tup (h : ta σ H fun xs H1 => xs.length ≤ sizeLine ∧ newK H1 (.tup xs) Q) : tTup ta σ H Q := h
theorem s_lst (h : ta σ H fun xs H1 => xs.length ≤ sizeLine ∧ newK H1 (.lst xs) Q) : tLst ta σ H Q := h
end
/-! ### calls -/
def SpF {α : Type} (A : α → List V → Hp → Prop) (B : α → V → List (Addr × Cel) → Hp → Prop) : Sp := fun vs H Q _ => ∃ (x : α) (F : Hp), Evl.Ex F H ∧ A x vs F ∧
  ∀ (v : V) (N : List (Addr × Cel)) (F' H' : Hp), Sep [] H F F' H' N → B x v N F' → Q v H'
def SpP {α : Type} (A : α → List V → Hp → Prop) (B : α → V → List (Addr × Cel) → Hp → Prop) : Sp := fun vs H Q _ => ∃ (x : α) (F : Hp) (p : Addr) (r : List V), vs = .ref p :: r ∧ Evl.Ex F H ∧ F p = none ∧ PotS F H p ∧ A x r F ∧
  ∀ (v : V) (N : List (Addr × Cel)) (F' H' : Hp), Sep [p] H F F' H' (N ++ [(p, .pot)]) → B x v N F' → Q v H'
section
variable {io : List Addr} {H0 F0 F H : Hp} {M : List (Addr × Cel)} {Q : VK} {E : XK} {α : Type} {A : α → List V → Hp → Prop} {B : α → V → List (Addr × Cel) → Hp → Prop} {vs : List V} {p : Addr}
theorem r_callF (S : Sep io H0 F0 F H M) (x : α) (a : A x vs F) (k : ∀ v N F' H', Sep io H0 F0 F' H' (N ++ M) → Evl.Ex F F' → B x v N F' → Q v H') : SpF A B vs H Q E :=
  ⟨x, F, S.fr, a, fun v N F' H' S' b => k v N F' H' (S.comp S') S'.gr b⟩
theorem r_callP (S : Sep io H0 F0 F H M) (j : Nat) (hj : M[j]? = some (p, .pot)) (x : α) (a : A x vs F) (k : ∀ v N F' H', Sep io H0 F0 F' H' (N ++ M) → Evl.Ex F F' → B x v N F' → Q v H') : SpP A B (.ref p :: vs) H Q E :=
  ⟨x, F, p, vs, rfl, S.fr, (S.own _ (mem_of_k hj)).2, (S.own _ (mem_of_k hj)).1.1, a, fun v N F' H' S' b => k v N F' H' (S.compP j hj S') S'.gr b⟩
end
/-! ### loops -/
/-- at turn i of a loop -/
def LI (io : List Addr) (H0 F0 F : Hp) (I : Nat → L2.St → Hp → List (Addr × Cel) → Prop) (i : Nat) : L2.St → Hp → Prop := fun σ H => ∃ F' M', Sep io H0 F0 F' H M' ∧ Evl.Ex F F' ∧ I i σ F' M'
theorem LI.mk {io : List Addr} {H0 F0 F F' H : Hp} {M : List (Addr × Cel)} {I : Nat → L2.St → Hp → List (Addr × Cel) → Prop} {i : Nat} {σ : L2.St} (S : Sep io H0 F0 F' H M) (e : Evl.Ex F F') (h : I i σ F' M) : LI io H0 F0 F I i σ H := ⟨F', M, S, e, h⟩
section
variable {io : List Addr} {H0 F0 F H : Hp} {M : List (Addr × Cel)} {K : PySem.W.Frag} {g : TG} {tb : TS} {D : Ends} {σ : L2.St} {a b : Addr} {xs ys : List V} {ns : List Int} {ds : List PyData} (I : Nat → L2.St → Hp → List (Addr × Cel) → Prop)
abbrev Body (io : List Addr) (H0 F0 F : Hp) (I : Nat → L2.St → Hp → List (Addr × Cel) → Prop) (D : Ends) (g : TG) (tb : TS) (i : Nat) (x : V) (σ' : L2.St) (H' : Hp) : Prop :=
  g x σ' H' fun σ2 H2 => tb { D with nx := LI io H0 F0 F I (i + 1), ct := LI io H0 F0 F I (i + 1), bk := D.nx } σ2 H2
abbrev ForW (J : It) (D : Ends) (g : TG) (tb : TS) (σ : L2.St) (H : Hp) : Prop := ∃ W : Nat → Nat → L2.St → Hp → Prop, (∃ m, W 0 m σ H) ∧ ∀ i m σ H, W i m σ H →
      (J.stop i H ∧ D.nx σ H) ∨ (J.go i H ∧ ∃ N : L2.St → Hp → Prop, (∀ σ' H', N σ' H' → ∃ m', m' < m ∧ W (i + 1) m' σ' H') ∧ ∀ x H', J.yld i H x H' → g x σ H' fun σ2 H2 => tb { D with nx := N, ct := N, bk := D.nx } σ2 H2)
/-- over a list that stays -/
theorem s_forL (S : Sep io H0 F0 F H M) (hs : SqL K F a xs) (h0 : I 0 σ F M)
    (hb : ∀ i x σ' F' H' M', xs[i]? = some x → Sep io H0 F0 F' H' M' → Evl.Ex F F' → I i σ' F' M' → Body io H0 F0 F I D g tb i x σ' H')
    (hd : ∀ σ' F' H' M', Sep io H0 F0 F' H' M' → Evl.Ex F F' → I xs.length σ' F' M' → D.nx σ' H') : ForW (Itl K a) D g tb σ H := by
  refine for_it (walk_list (xs := xs)) (LI io H0 F0 F I) ⟨F, M, S, Evl.Ex.refl _, h0⟩ ?_ ?_ ?_
  · rintro i σ' H' _ ⟨F', M', S', e, _⟩
    exact S'.rdL e hs
  · rintro i x σ' H' H'' hi ⟨F', M', S', e, h⟩ ⟨rfl, ex⟩
    exact hb i x σ' F' H'' M' ex S' e h
  · rintro σ' H' ⟨F', M', S', e, h⟩
    exact hd σ' F' H' M' S' e h
/-- over a list that is told at each turn -/
theorem s_forO (S : Sep io H0 F0 F H M) (h0 : I 0 σ F M) (hs : ∀ i σ' F' H' M', Sep io H0 F0 F' H' M' → Evl.Ex F F' → I i σ' F' M' → SqL K H' a xs)
    (hb : ∀ i x σ' F' H' M', xs[i]? = some x → Sep io H0 F0 F' H' M' → Evl.Ex F F' → I i σ' F' M' → Body io H0 F0 F I D g tb i x σ' H')
    (hd : ∀ σ' F' H' M', Sep io H0 F0 F' H' M' → Evl.Ex F F' → I xs.length σ' F' M' → D.nx σ' H') : ForW (Itl K a) D g tb σ H := by
  refine for_it (walk_list (xs := xs)) (LI io H0 F0 F I) ⟨F, M, S, Evl.Ex.refl _, h0⟩ ?_ ?_ ?_
  · rintro i σ' H' _ ⟨F', M', S', e, h⟩
    exact hs i σ' F' H' M' S' e h
  · rintro i x σ' H' H'' hi ⟨F', M', S', e, h⟩ ⟨rfl, ex⟩
    exact hb i x σ' F' H'' M' ex S' e h
  · rintro σ' H' ⟨F', M', S', e, h⟩
    exact hd σ' F' H' M' S' e h
theorem s_forT (S : Sep io H0 F0 F H M) (hs : SqT K F a xs) (h0 : I 0 σ F M)
    (hb : ∀ i x σ' F' H' M', xs[i]? = some x → Sep io H0 F0 F' H' M' → Evl.Ex F F' → I i σ' F' M' → Body io H0 F0 F I D g tb i x σ' H')
    (hd : ∀ σ' F' H' M', Sep io H0 F0 F' H' M' → Evl.Ex F F' → I xs.length σ' F' M' → D.nx σ' H') : ForW (Itt K a) D g tb σ H := by
  refine for_it (walk_tup (xs := xs)) (LI io H0 F0 F I) ⟨F, M, S, Evl.Ex.refl _, h0⟩ ?_ ?_ ?_
  · rintro i σ' H' _ ⟨F', M', S', e, _⟩
    exact S'.rdT e hs
  · rintro i x σ' H' H'' hi ⟨F', M', S', e, h⟩ ⟨rfl, ex⟩
    exact hb i x σ' F' H'' M' ex S' e h
  · rintro σ' H' ⟨F', M', S', e, h⟩
    exact hd σ' F' H' M' S' e h
theorem s_forR {lo : Int} {n : Nat} (S : Sep io H0 F0 F H M) (h0 : I 0 σ F M)
    (hb : ∀ i σ' F' H' M', i < n → Sep io H0 F0 F' H' M' → Evl.Ex F F' → I i σ' F' M' → Body io H0 F0 F I D g tb i (.int (lo + (i : Int))) σ' H')
    (hd : ∀ σ' F' H' M', Sep io H0 F0 F' H' M' → Evl.Ex F F' → I n σ' F' M' → D.nx σ' H') : ForW (Itr lo n) D g tb σ H := by
  refine for_it walk_range (LI io H0 F0 F I) ⟨F, M, S, Evl.Ex.refl _, h0⟩ (fun _ _ _ _ _ => trivial) ?_ ?_
  · rintro i x σ' H' H'' hi ⟨F', M', S', e, h⟩ ⟨rfl, rfl⟩
    exact hb i σ' F' H'' M' hi S' e h
  · rintro σ' H' ⟨F', M', S', e, h⟩
    exact hd σ' F' H' M' S' e h
/-- enumerate(list): a new pair each turn -/
theorem s_forE (S : Sep io H0 F0 F H M) (hs : SqL K F a xs) (h0 : I 0 σ F M)
    (hb : ∀ (i : Nat) (x : V) t σ' F1 F' H' M', xs[i]? = some x → Sep io H0 F0 F' H' M' → Evl.Ex F F1 → Evl.Ex F1 F' → F' t = some (.tup [.int (i : Int), x]) → I i σ' F1 M' → Body io H0 F0 F I D g tb i (.ref t) σ' H')
    (hd : ∀ σ' F' H' M', Sep io H0 F0 F' H' M' → Evl.Ex F F' → I xs.length σ' F' M' → D.nx σ' H') : ForW (Ite K a) D g tb σ H := by
  refine for_it (walk_enum (xs := xs)) (LI io H0 F0 F I) ⟨F, M, S, Evl.Ex.refl _, h0⟩ ?_ ?_ ?_
  · rintro i σ' H' _ ⟨F', M', S', e, _⟩
    exact S'.rdL e hs
  · rintro i x σ' H' H'' hi ⟨F', M', S', e, h⟩ ⟨t, x1, x2, rfl, ht, rfl, e1, e2⟩
    cases e1
    exact hb i x2 t σ' F' _ _ M' e2 (S'.newF ht _) e (Evl.Ex.new (S'.fnone ht)) upd_same h
  · rintro σ' H' ⟨F', M', S', e, h⟩
    exact hd σ' F' H' M' S' e h
/-- zip of two lists -/
theorem s_forZ {n : Nat} (hn : n = min xs.length ys.length) (S : Sep io H0 F0 F H M) (hs : SqL K F a xs) (hy : SqL K F b ys) (h0 : I 0 σ F M)
    (hb : ∀ i x y t σ' F1 F' H' M', xs[i]? = some x → ys[i]? = some y → Sep io H0 F0 F' H' M' → Evl.Ex F F1 → Evl.Ex F1 F' → F' t = some (.tup [x, y]) → I i σ' F1 M' → Body io H0 F0 F I D g tb i (.ref t) σ' H')
    (hd : ∀ σ' F' H' M', Sep io H0 F0 F' H' M' → Evl.Ex F F' → I n σ' F' M' → D.nx σ' H') : ForW (Itz K a b) D g tb σ H := by
  refine for_it (walk_zip hn) (LI io H0 F0 F I) ⟨F, M, S, Evl.Ex.refl _, h0⟩ ?_ ?_ ?_
  · rintro i σ' H' _ ⟨F', M', S', e, _⟩
    exact ⟨S'.rdL e hs, S'.rdL e hy⟩
  · rintro i x σ' H' H'' hi ⟨F', M', S', e, h⟩ ⟨t, x1, x2, rfl, ht, rfl, e1, e2⟩
    exact hb i x1 x2 t σ' F' _ _ M' e1 e2 (S'.newF ht _) e (Evl.Ex.new (S'.fnone ht)) upd_same h
  · rintro σ' H' ⟨F', M', S', e, h⟩
    exact hd σ' F' H' M' S' e h
/-- while -/
theorem s_while {c : TT} (Iw : Nat → L2.St → Hp → List (Addr × Cel) → Prop) (S : Sep io H0 F0 F H M) (m : Nat) (h0 : Iw m σ F M)
    (hb : ∀ m σ' F' H' M', Sep io H0 F0 F' H' M' → Evl.Ex F F' → Iw m σ' F' M' → c σ' H' fun t H1 => if t = true then ∃ N : L2.St → Hp → Prop, (∀ σ' H', N σ' H' → ∃ m', m' < m ∧ LI io H0 F0 F Iw m' σ' H') ∧ tb { D with nx := N, ct := N, bk := D.nx } σ' H1 else D.nx σ' H1) : tWhile c tb D σ H := by
  refine ⟨LI io H0 F0 F Iw, ⟨m, F, M, S, Evl.Ex.refl _, h0⟩, ?_⟩
  rintro m σ' H' ⟨F', M', S', e, h⟩
  exact hb m σ' F' H' M' S' e h
end
def lcK (J : It) (g : TG) (tt : TT) (te : TE) (vs : List Nat) (σ : L2.St) (H1 : Hp) (Q : VK) : Prop := ∀ D, H1 D = none → ∃ W : Nat → Nat → Hp → Prop, (∃ m, W 0 m (upd H1 D (.lst []))) ∧ ∀ i m H, W i m H →
  (J.stop i H ∧ Q (.ref D) H) ∨ (J.go i H ∧ ∃ Nx : Hp → Prop, (∀ H', Nx H' → ∃ m', m' < m ∧ W (i + 1) m' H') ∧ ∀ x H', J.yld i H x H' → g x (wipe σ vs) H' fun σ2 H2 => wipe σ2 vs = wipe σ vs ∧ tt σ2 H2 fun b H3 =>
    if b = true then te σ2 H3 fun y H4 => ∃ acc, H4 D = some (.lst acc) ∧ acc.length < sizeLine ∧ Nx (upd H4 D (.lst (acc ++ [y]))) else Nx H3)
/-- what a loop, a comprehension goes over: the things as, told by X -/
def Src {α : Type} (J : It) (io : List Addr) (H0 F0 F : Hp) (L : List (Addr × Cel)) (as : List α) (X : α → V → Hp → Prop) : Prop := ∃ (G : Hp → Prop) (Y : Nat → Hp → V → Hp → Prop), Walk J as.length G Y ∧
  (∀ F' H' M', Sep io H0 F0 F' H' M' → Evl.Ex F F' → (∀ m ∈ L, m ∈ M') → G H') ∧
  ∀ i a x F' H' H'' M', as[i]? = some a → Sep io H0 F0 F' H' M' → Evl.Ex F F' → (∀ m ∈ L, m ∈ M') → Y i H' x H'' → ∃ F'', Sep io H0 F0 F'' H'' M' ∧ Evl.Ex F' F'' ∧ X a x F''
section
variable {io : List Addr} {H0 F0 F H : Hp} {M L : List (Addr × Cel)} {K : PySem.W.Frag} {a b : Addr} {xs ys : List V} {ns : List Int} {α : Type} {as : List α} {da : α → PyData}
theorem srcV (h : SqL K F b xs) : Src (Itl K b) io H0 F0 F [] xs (fun a x _ => x = a) :=
  ⟨_, _, walk_list, fun F' H' M' S e _ => S.rdL e h, fun i a x F' H' H'' M' ha S e _ y => by
    obtain ⟨rfl, y⟩ := y
    rw [ha] at y
    exact ⟨F', S, Evl.Ex.refl _, (Option.some.inj y).symm⟩⟩
theorem srcVT (h : SqT K F b xs) : Src (Itt K b) io H0 F0 F [] xs (fun a x _ => x = a) :=
  ⟨_, _, walk_tup, fun F' H' M' S e _ => S.rdT e h, fun i a x F' H' H'' M' ha S e _ y => by
    obtain ⟨rfl, y⟩ := y
    rw [ha] at y
    exact ⟨F', S, Evl.Ex.refl _, (Option.some.inj y).symm⟩⟩
theorem srcM : Src (Itl K b) io H0 F0 F [(b, .is (.lst xs))] xs (fun a x _ => x = a) :=
  ⟨_, _, walk_list, fun F' H' M' S e hm => SqL.of (S.own _ (hm _ List.mem_cons_self)).1.1, fun i a x F' H' H'' M' ha S e _ y => by
    obtain ⟨rfl, y⟩ := y
    rw [ha] at y
    exact ⟨F', S, Evl.Ex.refl _, (Option.some.inj y).symm⟩⟩
/-- items by a function of the things -/
theorem Src.map {J : It} {β : Type} {bs : List β} {r : β → α} {X : α → V → Hp → Prop} (s : Src J io H0 F0 F L (bs.map r) X) : Src J io H0 F0 F L bs (fun b => X (r b)) := by
  obtain ⟨G, Y, w, h1, h2⟩ := s
  rw [List.length_map] at w
  exact ⟨G, Y, w, h1, fun i a x F' H' H'' M' ha => h2 i (r a) x F' H' H'' M' (by rw [List.getElem?_map, ha]; rfl)⟩
theorem srcI (h : SqL K F b (ns.map V.int)) : Src (Itl K b) io H0 F0 F [] ns (fun a x _ => x = .int a) := (srcV h).map
theorem srcMI : Src (Itl K b) io H0 F0 F [(b, .is (.lst (ns.map V.int)))] ns (fun a x _ => x = .int a) := Src.map srcM
theorem dpAll_at {H : Hp} : ∀ {xs : List V} {ds : List PyData} {i : Nat} {d : PyData}, DpAll K H xs ds → ds[i]? = some d → ∃ x, xs[i]? = some x ∧ Dp K H x d
  | _, _, _, _, .nil, h => by simp at h
  | _, _, 0, _, .cons h _, e => by cases (Option.some.inj e); exact ⟨_, rfl, h⟩
  | _, _, i + 1, d, .cons _ t, e => by
    obtain ⟨x, h1, h2⟩ := dpAll_at (i := i) t (by simpa using e)
    exact ⟨x, by simpa using h1, h2⟩
theorem srcD (h : SqL K F b xs) (hd : DpAll K F xs (as.map da)) : Src (Itl K b) io H0 F0 F [] as (fun a x F' => Dp K F' x (da a)) := by
  have hl := (dpAll_get hd).1
  rw [List.length_map] at hl
  refine ⟨_, _, hl ▸ walk_list (xs := xs), fun F' H' M' S e _ => S.rdL e h, fun i a x F' H' H'' M' ha S e _ y => ?_⟩
  obtain ⟨rfl, y⟩ := y
  obtain ⟨x', h1, h2⟩ := dpAll_at hd (i := i) (d := da a) (by rw [List.getElem?_map, ha]; rfl)
  rw [h1] at y
  cases y
  exact ⟨F', S, Evl.Ex.refl _, Dp.ex e _ _ h2⟩
theorem srcDT (h : SqT K F b xs) (hd : DpAll K F xs (as.map da)) : Src (Itt K b) io H0 F0 F [] as (fun a x F' => Dp K F' x (da a)) := by
  have hl := (dpAll_get hd).1
  rw [List.length_map] at hl
  refine ⟨_, _, hl ▸ walk_tup (xs := xs), fun F' H' M' S e _ => S.rdT e h, fun i a x F' H' H'' M' ha S e _ y => ?_⟩
  obtain ⟨rfl, y⟩ := y
  obtain ⟨x', h1, h2⟩ := dpAll_at hd (i := i) (d := da a) (by rw [List.getElem?_map, ha]; rfl)
  rw [h1] at y
  cases y
  exact ⟨F', S, Evl.Ex.refl _, Dp.ex e _ _ h2⟩
/-- a list of one's own, its things told -/
theorem srcMD (hd : DpAll K F xs (as.map da)) : Src (Itl K b) io H0 F0 F [(b, .is (.lst xs))] as (fun a x F' => Dp K F' x (da a)) := by
  have hl := (dpAll_get hd).1
  rw [List.length_map] at hl
  refine ⟨_, _, hl ▸ walk_list (xs := xs), fun F' H' M' S e hm => SqL.of (S.own _ (hm _ List.mem_cons_self)).1.1, fun i a x F' H' H'' M' ha S e _ y => ?_⟩
  obtain ⟨rfl, y⟩ := y
  obtain ⟨x', h1, h2⟩ := dpAll_at hd (i := i) (d := da a) (by rw [List.getElem?_map, ha]; rfl)
  rw [h1] at y
  cases y
  exact ⟨F', S, Evl.Ex.refl _, Dp.ex e _ _ h2⟩
theorem srcR {lo : Int} {n : Nat} : Src (Itr lo n) io H0 F0 F [] ((List.range n).map fun i : Nat => lo + (i : Int)) (fun a x _ => x = .int a) := by
  refine ⟨_, _, by rw [List.length_map, List.length_range]; exact walk_range, fun F' H' M' S e _ => trivial, fun i a x F' H' H'' M' ha S e _ y => ?_⟩
  obtain ⟨rfl, rfl⟩ := y
  rw [List.getElem?_map] at ha
  cases q : (List.range n)[i]? with
  | none => rw [q] at ha; cases ha
  | some j =>
    rw [q] at ha
    cases ha
    have := List.getElem?_eq_some_iff.mp q
    obtain ⟨h1, h2⟩ := this
    rw [List.getElem_range] at h2
    subst h2
    exact ⟨F', S, Evl.Ex.refl _, rfl⟩
theorem srcRG {n : Int} : Src (Itr 0 n.toNat) io H0 F0 F [] (rgI n) (fun a x _ => x = .int a) := by
  have h := srcR (io := io) (H0 := H0) (F0 := F0) (F := F) (lo := 0) (n := n.toNat)
  have e : ((List.range n.toNat).map fun i : Nat => (0 : Int) + (i : Int)) = rgI n := by
    unfold rgI
    refine List.map_congr_left fun i _ => ?_
    omega
  rw [e] at h
  exact h
theorem srcE (h : SqL K F b xs) : Src (Ite K b) io H0 F0 F [] xs.zipIdx (fun a x F' => ∃ t, x = .ref t ∧ F' t = some (.tup [.int (a.2 : Int), a.1])) := by
  refine ⟨_, _, by rw [List.length_zipIdx]; exact walk_enum (xs := xs), fun F' H' M' S e _ => S.rdL e h, fun i a x F' H' H'' M' ha S e _ y => ?_⟩
  obtain ⟨t, x1, x2, rfl, ht, rfl, e1, e2⟩ := y
  cases e1
  have e2 : xs[i]? = some x2 := e2
  rw [List.getElem?_zipIdx, e2] at ha
  cases ha
  refine ⟨_, S.newF ht _, Evl.Ex.new (S.fnone ht), t, rfl, ?_⟩
  rw [upd_same]
  simp
theorem srcZ (h : SqL K F a xs) (g : SqL K F b ys) : Src (Itz K a b) io H0 F0 F [] (xs.zip ys) (fun p x F' => ∃ t, x = .ref t ∧ F' t = some (.tup [p.1, p.2])) := by
  refine ⟨_, _, walk_zip (xs := xs) (ys := ys) List.length_zip, fun F' H' M' S e _ => ⟨S.rdL e h, S.rdL e g⟩, fun i p x F' H' H'' M' ha S e _ y => ?_⟩
  obtain ⟨t, x1, x2, rfl, ht, rfl, e1, e2⟩ := y
  have e1 : xs[i]? = some x1 := e1
  have e2 : ys[i]? = some x2 := e2
  rw [List.getElem?_zip_eq_some] at ha
  rw [e1, e2] at ha
  obtain ⟨z1, z2⟩ := ha
  cases z1
  cases z2
  exact ⟨_, S.newF ht _, Evl.Ex.new (S.fnone ht), t, rfl, upd_same⟩
end
/-! ### for over a source -/
section
variable {io : List Addr} {H0 F0 F H : Hp} {M L : List (Addr × Cel)} {g : TG} {tb : TS} {D : Ends} {σ : L2.St} {J : It} {α : Type} {as : List α} {X : α → V → Hp → Prop} (I : Nat → L2.St → Hp → List (Addr × Cel) → Prop)
theorem s_for (src : Src J io H0 F0 F L as X) (S : Sep io H0 F0 F H M) (h0 : I 0 σ F M) (hL : ∀ i σ' F' M', I i σ' F' M' → ∀ m ∈ L, m ∈ M')
    (hb : ∀ (i : Nat) (a : α) x σ' F1 F' H' M', as[i]? = some a → Sep io H0 F0 F' H' M' → Evl.Ex F F1 → Evl.Ex F1 F' → X a x F' → I i σ' F1 M' → Body io H0 F0 F I D g tb i x σ' H')
    (hd : ∀ σ' F' H' M', Sep io H0 F0 F' H' M' → Evl.Ex F F' → I as.length σ' F' M' → D.nx σ' H') : ForW J D g tb σ H := by
  obtain ⟨G, Y, w, s1, s2⟩ := src
  refine for_it w (LI io H0 F0 F I) ⟨F, M, S, Evl.Ex.refl _, h0⟩ ?_ ?_ ?_
  · rintro i σ' H' _ ⟨F', M', S', e, h⟩
    exact s1 F' H' M' S' e (hL i σ' F' M' h)
  · rintro i x σ' H' H'' hi ⟨F', M', S', e, h⟩ y
    obtain ⟨F'', S'', e2, hx⟩ := s2 i as[i] x F' H' H'' M' (List.getElem?_eq_getElem hi) S' e (hL i σ' F' M' h) y
    exact hb i as[i] x σ' F' F'' H'' M' (List.getElem?_eq_getElem hi) S'' e e2 hx h
  · rintro σ' H' ⟨F', M', S', e, h⟩
    exact hd σ' F' H' M' S' e h
end
/-! ### comprehensions -/
/-- at turn i of a comprehension -/
def CI (io : List Addr) (H0 F0 F : Hp) (D : Addr) (I : Nat → List V → Hp → List (Addr × Cel) → Prop) (i : Nat) (H : Hp) : Prop := ∃ acc F' M', Sep io H0 F0 F' H ((D, .is (.lst acc)) :: M') ∧ Evl.Ex F F' ∧ I i acc F' M'
def PutK (D : Addr) (P : Hp → Prop) (y : V) (H4 : Hp) : Prop := ∃ acc, H4 D = some (.lst acc) ∧ acc.length < sizeLine ∧ P (upd H4 D (.lst (acc ++ [y])))
section
variable {io : List Addr} {H0 F0 F H : Hp} {M L : List (Addr × Cel)} {K : PySem.W.Frag} {g : TG} {tt : TT} {te : TE} {σ : L2.St} {wi : TI} {Q : VK} {vs : List Nat} {J : It} {α : Type} {as : List α} {X : α → V → Hp → Prop}
theorem s_lc (h : wi σ H fun J H1 => lcK J g tt te vs σ H1 Q) : tLc wi g tt te vs σ H Q := h
theorem CI.put {I : Nat → List V → Hp → List (Addr × Cel) → Prop} {i : Nat} {D : Addr} {acc : List V} {F' H' : Hp} {M' : List (Addr × Cel)} {y : V} (S : Sep io H0 F0 F' H' ((D, .is (.lst acc)) :: M')) (e : Evl.Ex F F') (hl : acc.length < 100000) (h : I (i + 1) (acc ++ [y]) F' M') : PutK D (CI io H0 F0 F D I (i + 1)) y H' :=
  ⟨acc, S.rdM 0 rfl, Evl.sz_lt hl, acc ++ [y], F', M', S.put 0 rfl _, e, h⟩
theorem CI.skip {I : Nat → List V → Hp → List (Addr × Cel) → Prop} {i : Nat} {D : Addr} {acc : List V} {F' H' : Hp} {M' : List (Addr × Cel)} (S : Sep io H0 F0 F' H' ((D, .is (.lst acc)) :: M')) (e : Evl.Ex F F') (h : I (i + 1) acc F' M') : CI io H0 F0 F D I (i + 1) H' := ⟨acc, F', M', S, e, h⟩
/-- the general one: I by the turn, what is made so far -/
theorem s_lcI (src : Src J io H0 F0 F L as X) (I : Nat → List V → Hp → List (Addr × Cel) → Prop) (S : Sep io H0 F0 F H M) (h0 : I 0 [] F M) (hL : ∀ i acc F' M', I i acc F' M' → ∀ m ∈ L, m ∈ M')
    (hb : ∀ (i : Nat) (a : α) x acc D F1 F' H' M', as[i]? = some a → Sep io H0 F0 F' H' ((D, .is (.lst acc)) :: M') → Evl.Ex F F1 → Evl.Ex F1 F' → X a x F' → I i acc F1 M' → g x (wipe σ vs) H' fun σ2 H2 => wipe σ2 vs = wipe σ vs ∧ tt σ2 H2 fun b H3 =>
      if b = true then te σ2 H3 (PutK D (CI io H0 F0 F D I (i + 1))) else CI io H0 F0 F D I (i + 1) H3)
    (hd : ∀ D acc F' H' M', Sep io H0 F0 F' H' ((D, .is (.lst acc)) :: M') → Evl.Ex F F' → I as.length acc F' M' → Q (.ref D) H') : lcK J g tt te vs σ H Q := by
  intro D hD
  obtain ⟨G, Y, w, s1, s2⟩ := src
  refine lc_it w (fun i H' => CI io H0 F0 F D I i H') ⟨[], F, M, S.newM hD _, Evl.Ex.refl _, h0⟩ ?_ ?_ ?_
  · rintro i H' _ ⟨acc, F', M', S', e, h⟩
    exact s1 F' H' _ S' e fun m hm => List.mem_cons_of_mem _ (hL i acc F' M' h m hm)
  · rintro i x H' H'' hi ⟨acc, F', M', S', e, h⟩ y
    obtain ⟨F'', S'', e2, hx⟩ := s2 i as[i] x F' H' H'' _ (List.getElem?_eq_getElem hi) S' e (fun m hm => List.mem_cons_of_mem _ (hL i acc F' M' h m hm)) y
    exact hb i as[i] x acc D F' F'' H'' M' (List.getElem?_eq_getElem hi) S'' e e2 hx h
  · rintro H' ⟨acc, F', M', S', e, h⟩
    exact hd D acc F' H' M' S' e h
/-- values: (those of as that f takes) by gg -/
structure VT {α : Type} (as : List α) (f : α → Bool) (gg : α → V) (i : Nat) (a : α) (acc : List V) : Prop where
  at' : as[i]? = some a
  acc' : acc = ((as.take i).filter f).map gg
  few : as.length ≤ 99999
abbrev IV {α : Type} (M : List (Addr × Cel)) (as : List α) (f : α → Bool) (gg : α → V) : Nat → List V → Hp → List (Addr × Cel) → Prop := fun i acc _ M' => M' = M ∧ acc = ((as.take i).filter f).map gg
section
variable {f : α → Bool} {gg : α → V} {i : Nat} {a : α} {acc : List V} {D : Addr} {F' H' : Hp} {y : V}
theorem VT.put (t : VT as f gg i a acc) (S : Sep io H0 F0 F' H' ((D, .is (.lst acc)) :: M)) (e : Evl.Ex F F') (hf : f a = true) (hy : y = gg a) : PutK D (CI io H0 F0 F D (IV M as f gg) (i + 1)) y H' := by
  refine CI.put S e ?_ ⟨rfl, ?_⟩
  · rw [t.acc', List.length_map]
    have := List.length_filter_le f (as.take i)
    rw [List.length_take] at this
    have := t.few
    omega
  · rw [take_snoc t.at', List.filter_append, List.filter_cons, if_pos hf, List.map_append, t.acc', hy]
    rfl
theorem VT.skip (t : VT as f gg i a acc) (S : Sep io H0 F0 F' H' ((D, .is (.lst acc)) :: M)) (e : Evl.Ex F F') (hf : f a = false) : CI io H0 F0 F D (IV M as f gg) (i + 1) H' := by
  refine CI.skip S e ⟨rfl, ?_⟩
  rw [take_snoc t.at', List.filter_append, List.filter_cons, if_neg (by rw [hf]; decide), List.filter_nil, List.append_nil]
  exact t.acc'
end
theorem s_lcV (src : Src J io H0 F0 F L as X) (f : α → Bool) (gg : α → V) (S : Sep io H0 F0 F H M) (few : as.length ≤ 99999) (hL : ∀ m ∈ L, m ∈ M)
    (hb : ∀ (i : Nat) (a : α) x acc D F' H', VT as f gg i a acc → Sep io H0 F0 F' H' ((D, .is (.lst acc)) :: M) → Evl.Ex F F' → X a x F' → g x (wipe σ vs) H' fun σ2 H2 => wipe σ2 vs = wipe σ vs ∧ tt σ2 H2 fun b H3 =>
      if b = true then te σ2 H3 (PutK D (CI io H0 F0 F D (IV M as f gg) (i + 1))) else CI io H0 F0 F D (IV M as f gg) (i + 1) H3)
    (hd : ∀ D F' H', Sep io H0 F0 F' H' ((D, .is (.lst ((as.filter f).map gg))) :: M) → Evl.Ex F F' → Q (.ref D) H') : lcK J g tt te vs σ H Q := by
  refine s_lcI src (IV M as f gg) S ⟨rfl, rfl⟩ (fun i acc F' M' h => by rw [h.1]; exact hL) ?_ ?_
  · rintro i a x acc D F1 F' H' M' ha S' e1 e2 hx ⟨rfl, h⟩
    exact hb i a x acc D F' H' ⟨ha, h, few⟩ S' (e1.trans e2) hx
  · rintro D acc F' H' M' S' e ⟨rfl, h⟩
    rw [List.take_length] at h
    subst h
    exact hd D F' H' S' e
/-- data -/
structure DT {α : Type} (K : PySem.W.Frag) (as : List α) (f : α → Bool) (gg : α → PyData) (i : Nat) (a : α) (acc : List V) (F' : Hp) : Prop where
  at' : as[i]? = some a
  acc' : DpAll K F' acc (((as.take i).filter f).map gg)
  few : as.length ≤ 99999
abbrev ID {α : Type} (K : PySem.W.Frag) (M : List (Addr × Cel)) (as : List α) (f : α → Bool) (gg : α → PyData) : Nat → List V → Hp → List (Addr × Cel) → Prop := fun i acc F' M' => M' = M ∧ DpAll K F' acc (((as.take i).filter f).map gg)
theorem dpAll_app {H : Hp} : ∀ {xs ys : List V} {ds es : List PyData}, DpAll K H xs ds → DpAll K H ys es → DpAll K H (xs ++ ys) (ds ++ es)
  | _, _, _, _, .nil, h => h
  | _, _, _, _, .cons a t, h => .cons a (dpAll_app t h)
section
variable {f : α → Bool} {gg : α → PyData} {i : Nat} {a : α} {acc : List V} {D : Addr} {F1 F' H' : Hp} {y : V}
theorem DT.put (t : DT K as f gg i a acc F1) (S : Sep io H0 F0 F' H' ((D, .is (.lst acc)) :: M)) (e : Evl.Ex F F') (e1 : Evl.Ex F1 F') (hf : f a = true) (hy : Dp K F' y (gg a)) : PutK D (CI io H0 F0 F D (ID K M as f gg) (i + 1)) y H' := by
  refine CI.put S e ?_ ⟨rfl, ?_⟩
  · have := (dpAll_get t.acc').1
    rw [this, List.length_map]
    have := List.length_filter_le f (as.take i)
    rw [List.length_take] at this
    have := t.few
    omega
  · rw [take_snoc t.at', List.filter_append, List.filter_cons, if_pos hf, List.map_append]
    exact dpAll_app (DpAll.ex e1 _ _ t.acc') (.cons hy .nil)
theorem DT.skip (t : DT K as f gg i a acc F1) (S : Sep io H0 F0 F' H' ((D, .is (.lst acc)) :: M)) (e : Evl.Ex F F') (e1 : Evl.Ex F1 F') (hf : f a = false) : CI io H0 F0 F D (ID K M as f gg) (i + 1) H' := by
  refine CI.skip S e ⟨rfl, ?_⟩
  rw [take_snoc t.at', List.filter_append, List.filter_cons, if_neg (by rw [hf]; decide), List.filter_nil, List.append_nil]
  exact DpAll.ex e1 _ _ t.acc'
end
theorem s_lcD (src : Src J io H0 F0 F L as X) (f : α → Bool) (gg : α → PyData) (S : Sep io H0 F0 F H M) (few : as.length ≤ 99999) (hL : ∀ m ∈ L, m ∈ M)
    (hb : ∀ (i : Nat) (a : α) x acc D F' H', DT K as f gg i a acc F' → Sep io H0 F0 F' H' ((D, .is (.lst acc)) :: M) → Evl.Ex F F' → X a x F' → g x (wipe σ vs) H' fun σ2 H2 => wipe σ2 vs = wipe σ vs ∧ tt σ2 H2 fun b H3 =>
      if b = true then te σ2 H3 (PutK D (CI io H0 F0 F D (ID K M as f gg) (i + 1))) else CI io H0 F0 F D (ID K M as f gg) (i + 1) H3)
    (hd : ∀ D acc F' H', Sep io H0 F0 F' H' ((D, .is (.lst acc)) :: M) → Evl.Ex F F' → DpAll K F' acc ((as.filter f).map gg) → Q (.ref D) H') : lcK J g tt te vs σ H Q := by
  refine s_lcI src (ID K M as f gg) S ⟨rfl, .nil⟩ (fun i acc F' M' h => by rw [h.1]; exact hL) ?_ ?_
  · rintro i a x acc D F1 F' H' M' ha S' e1 e2 hx ⟨rfl, h⟩
    exact hb i a x acc D F' H' ⟨ha, DpAll.ex e2 _ _ h, few⟩ S' (e1.trans e2) hx
  · rintro D acc F' H' M' S' e ⟨rfl, h⟩
    rw [List.take_length] at h
    exact hd D acc F' H' S' e h
end
/-! ### calls that make things -/
def rListN (K : PySem.W.Frag) : List V → Hp → VK → Prop := fun xs H Q => ∃ p ys, xs = [.ref p] ∧ (SqL K H p ys ∨ SqT K H p ys) ∧ newK H (.lst ys) Q
theorem call_listN {X : Cx} : CallR X (.type "list") (rListN X.K) := call_list_of
theorem s_list {K : PySem.W.Frag} {H : Hp} {a : Addr} {xs : List V} {Q : VK} (hs : SqL K H a xs ∨ SqT K H a xs) (q : newK H (.lst xs) Q) : rListN K [.ref a] H Q := ⟨a, xs, rfl, hs, q⟩
def rTupN (K : PySem.W.Frag) : List V → Hp → VK → Prop := fun xs H Q => ∃ p ys, xs = [.ref p] ∧ SqL K H p ys ∧ newK H (.tup ys) Q
theorem call_tupN {X : Cx} : CallR X (.type "tuple") (rTupN X.K) := by
  intro pins s σ H xs us Q I r h
  obtain ⟨p, ys, e, h1, h2⟩ := h
  exact call_tuple_of pins s σ H xs us Q I r ⟨p, ys, e, .inl ⟨h1, h2⟩⟩
theorem s_tupN {K : PySem.W.Frag} {H : Hp} {a : Addr} {xs : List V} {Q : VK} (hs : SqL K H a xs) (q : newK H (.tup xs) Q) : rTupN K [.ref a] H Q := ⟨a, xs, rfl, hs, q⟩
def rSortN (K : PySem.W.Frag) : List V → Hp → VK → Prop := fun vs H Q => ∃ (a : Addr) (ns : List Int), vs = [V.ref a] ∧ SqL K H a (ns.map V.int) ∧
  ∀ (ns' : List Int), ns'.Perm ns → ns'.Pairwise (· ≤ ·) → newK H (.lst (ns'.map V.int)) Q
theorem cr_sortedN {X : Cx} : CallR X (.builtin "sorted") (rSortN X.K) := by
  intro pins s σ H xs us Q I r h
  obtain ⟨p, ys, e, h1, h2⟩ := h
  exact cr_sortedI pins s σ H xs us Q I r ⟨p, ys, e, h1, fun ns' q a b c => h2 ns' a b q c⟩
theorem s_sortN {K : PySem.W.Frag} {H : Hp} {a : Addr} {ns : List Int} {Q : VK} (hs : SqL K H a (ns.map V.int)) (q : ∀ (ns' : List Int), ns'.Perm ns → ns'.Pairwise (· ≤ ·) → newK H (.lst (ns'.map V.int)) Q) : rSortN K [.ref a] H Q := ⟨a, ns, rfl, hs, q⟩
/-- pairs, sorted -/
def rSortPN (K : PySem.W.Frag) : List V → Hp → VK → Prop := fun vs H Q => ∃ (a : Addr) (xs : List V) (k : V → Int × Int), vs = [V.ref a] ∧ SqL K H a xs ∧ (∀ x ∈ xs, ∃ t, x = V.ref t ∧ H t = some (.tup [.int (k x).1, .int (k x).2])) ∧
  ∀ ys, SrtO.Srtd (ltP k) ys → SrtO.Stb (ltP k) ys xs → newK H (.lst ys) Q
theorem cr_sortedPN {X : Cx} : CallR X (.builtin "sorted") (rSortPN X.K) := by
  intro pins s σ H xs us Q I r h
  obtain ⟨a, ys, k, e, h1, h2, h3⟩ := h
  exact cr_sortedPO pins s σ H xs us Q I r ⟨a, ys, k, e, h1, h2, fun zs p a b c => h3 zs a b p c⟩
theorem r_isNV {x : V} {H : Hp} {Q : VK} (q : Q (.bl (decide (x = .non))) H) : rIsNone x .non H Q := ⟨rfl, q⟩
theorem r_notNV {x : V} {H : Hp} {Q : VK} (q : Q (.bl (!decide (x = .non))) H) : rNotNone x .non H Q := ⟨rfl, q⟩
/-! ### lists -/
section
variable {io : List Addr} {H0 F0 F H : Hp} {M L : List (Addr × Cel)} {K : PySem.W.Frag} {Q : VK} {a b : Addr} {xs ys : List V} {y : V} {i : Int} {QH : Hp → Prop}
theorem s_app (S : Sep io H0 F0 F H M) (k : Nat) (hk : M[k]? = some (a, .is (.lst xs))) (hz : xs.length < 100000) (q : ∀ H', Sep io H0 F0 F H' (M.set k (a, .is (.lst (xs ++ [y])))) → Q .non H') : rAppend (.ref a) [y] H Q :=
  r_app (S.rdM k hk) hz (q _ (S.put k hk _))
theorem s_setL (S : Sep io H0 F0 F H M) (k : Nat) (hk : M[k]? = some (a, .is (.lst xs))) {j : Nat} (hj : ixN xs.length i = some j) (q : ∀ H', Sep io H0 F0 F H' (M.set k (a, .is (.lst (xs.set j y)))) → QH H') : rSetL (.ref a) (.int i) y H QH :=
  r_setL (S.rdM k hk) hj (q _ (S.put k hk _))
theorem s_popAt (S : Sep io H0 F0 F H M) (k : Nat) (hk : M[k]? = some (a, .is (.lst xs))) (h0 : 0 ≤ i) (h1 : i < (xs.length : Int)) (hs : xs.length ≤ 1000000) (hy : xs[i.toNat]? = some y) (q : ∀ H', Sep io H0 F0 F H' (M.set k (a, .is (.lst (xs.eraseIdx i.toNat)))) → Q y H') : rPopAt (.ref a) [.int i] H Q :=
  r_popAt (S.rdM k hk) h0 h1 hs hy (q _ (S.put k hk _))
theorem s_cat (h : H a = some (.lst xs)) (g : H b = some (.lst ys)) (hl : xs.length + ys.length ≤ 100000) (q : newK H (.lst (xs ++ ys)) Q) : rCat (.ref a) (.ref b) H Q := r_catG h g hl q
theorem s_slL {lo hi : Option Int} (h : SqL K H a xs) (q : newK H (.lst (cutV xs lo hi)) Q) : rSlL K (.ref a) lo hi H Q := r_slL h q
theorem s_lstRg {f : L2.St → Hp → (Int → Int → Hp → Prop) → Prop} {σ : L2.St} (h : f σ H fun a b H1 => RgOk a b ∧ newK H1 (.lst (rgV a b)) Q) : tLstRg f σ H Q := h
end
/-! ### from promises over the heap alone -/
/-- nothing that stood is changed; the new cells of L stay -/
theorem Sep.grow {F H H' : Hp} (fr : Evl.Ex F H) (e : Evl.Ex H H') (L : List Addr) (hL : ∀ a ∈ L, H a = none) : ∃ F', Sep [] H F F' H' [] ∧ Evl.Ex F F' ∧ ∀ a ∈ L, F' a = H' a := by
  have hF : ∀ a ∈ L, F a = none := fun a ha => by
    cases q : F a with
    | none => rfl
    | some o => have := hL a ha; rw [fr a o q] at this; cases this
  refine ⟨fun a => if a ∈ L then H' a else F a, ⟨fun a o h _ => e a o h, fun a h => ?_, fun a o h => ?_, fun a h => ?_, fun a o h => ?_, fun m hm => (by cases hm), List.nodup_nil⟩, fun a o h => ?_, fun a ha => if_pos ha⟩
  · cases q : H a with
    | none => rfl
    | some o => rw [e a o q] at h; cases h
  · show (if a ∈ L then H' a else F a) = some o
    rw [if_neg fun z => by rw [hF a z] at h; cases h]
    exact h
  · by_cases z : a ∈ L
    · exact .inr (hL a z)
    · exact .inl fun q => h (by show (if a ∈ L then H' a else F a) = none; rw [if_neg z]; exact q)
  · have h : (if a ∈ L then H' a else F a) = some o := h
    by_cases z : a ∈ L
    · rw [if_pos z] at h; exact h
    · rw [if_neg z] at h; exact e _ _ (fr _ _ h)
  · show (if a ∈ L then H' a else F a) = some o
    rw [if_neg fun z => by rw [hF a z] at h; cases h]
    exact h
theorem Sep.scal {F H H' : Hp} (fr : Evl.Ex F H) (e : Evl.Ex H H') : Sep [] H F F H' [] :=
  ⟨fun a o h _ => e a o h, fun a h => (by
    cases q : H a with
    | none => rfl
    | some o => rw [e a o q] at h; cases h), Evl.Ex.refl _, fun a h => .inl h, fun a o h => e _ _ (fr _ _ h), fun m hm => (by cases hm), List.nodup_nil⟩
/-! ### sets of one's own -/
section
variable {io : List Addr} {H0 F0 F H : Hp} {M : List (Addr × Cel)} {K : PySem.W.Frag} {w : World} {Q : VK} {a : Addr} {ns : List Int} {o : HO}
/-- set(xs), xs a list of ints -/
def rSetN (K : PySem.W.Frag) (w : World) : List V → Hp → VK → Prop := fun vs H Q => ∃ (a : Addr) (ns : List Int), vs = [.ref a] ∧ SqL K H a (ns.map V.int) ∧ ns.length ≤ 1000 ∧
  ∀ (q : Addr) (n : Nat), H q = none → n ≤ ns.length → Q (.ref q) (upd H q (SetO w q (fun j => decide (j ∈ ns)) n))
theorem cr_setN {X : Cx} (hc : X.calm = true) : CallR X (.type "set") (rSetN X.K X.w) := cr_setL hc
theorem s_setN (S : Sep io H0 F0 F H M) (h : SqL K H a (ns.map V.int)) (hl : ns.length ≤ 1000) (k : ∀ (q : Addr) (n : Nat) (F' H' : Hp), n ≤ ns.length → Sep io H0 F0 F' H' M → Evl.Ex F F' → F' q = some (SetO w q (fun j => decide (j ∈ ns)) n) → Q (.ref q) H') : rSetN K w [.ref a] H Q :=
  ⟨a, ns, rfl, h, hl, fun q n hq hn => k q n _ _ hn (S.newF hq _) (Evl.Ex.new (S.fnone hq)) upd_same⟩
/-- the set is one's own -/
theorem s_setM (S : Sep io H0 F0 F H M) (h : SqL K H a (ns.map V.int)) (hl : ns.length ≤ 1000) (k : ∀ (q : Addr) (n : Nat) (H' : Hp), n ≤ ns.length → Sep io H0 F0 F H' ((q, .is (SetO w q (fun j => decide (j ∈ ns)) n)) :: M) → Q (.ref q) H') : rSetN K w [.ref a] H Q :=
  ⟨a, ns, rfl, h, hl, fun q n hq hn => k q n _ hn (S.newM hq _)⟩
end
section
variable {io : List Addr} {H0 F0 F : Hp} {K : PySem.W.Frag} {b : Addr} {xs : List V} {ps : List (Int × Int)}
theorem TupsAt.get {H : Hp} : ∀ {xs : List V} {ps : List (Int × Int)} {i : Nat} {p : Int × Int}, TupsAt H xs ps → ps[i]? = some p → ∃ t, xs[i]? = some (.ref t) ∧ H t = some (.tup [.int p.1, .int p.2])
  | _, _, i, _, .nil, h => by simp at h
  | _, _, 0, p, .cons ⟨t, h1, h2⟩ r, e => by cases (Option.some.inj e); exact ⟨t, by rw [h1]; rfl, h2⟩
  | _, _, i + 1, p, .cons _ r, e => by
    obtain ⟨t, h1, h2⟩ := TupsAt.get (i := i) r (by simpa using e)
    exact ⟨t, by simpa using h1, h2⟩
theorem TupsAt.len {H : Hp} : ∀ {xs : List V} {ps : List (Int × Int)}, TupsAt H xs ps → xs.length = ps.length
  | _, _, .nil => rfl
  | _, _, .cons _ r => by rw [List.length_cons, List.length_cons, TupsAt.len r]
/-- a list of pairs -/
theorem srcP (h : SqL K F b xs) (ht : TupsAt F xs ps) : Src (Itl K b) io H0 F0 F [] ps (fun p x F' => ∃ t, x = .ref t ∧ F' t = some (.tup [.int p.1, .int p.2])) := by
  refine ⟨_, _, ht.len ▸ walk_list (xs := xs), fun F' H' M' S e _ => S.rdL e h, fun i a x F' H' H'' M' ha S e _ y => ?_⟩
  obtain ⟨rfl, y⟩ := y
  obtain ⟨t, h1, h2⟩ := ht.get ha
  rw [h1] at y
  cases y
  exact ⟨F', S, Evl.Ex.refl _, t, rfl, e _ _ h2⟩
theorem srcMP (ht : TupsAt F xs ps) : Src (Itl K b) io H0 F0 F [(b, .is (.lst xs))] ps (fun p x F' => ∃ t, x = .ref t ∧ F' t = some (.tup [.int p.1, .int p.2])) := by
  refine ⟨_, _, ht.len ▸ walk_list (xs := xs), fun F' H' M' S e hm => SqL.of (S.own _ (hm _ List.mem_cons_self)).1.1, fun i a x F' H' H'' M' ha S e _ y => ?_⟩
  obtain ⟨rfl, y⟩ := y
  obtain ⟨t, h1, h2⟩ := ht.get ha
  rw [h1] at y
  cases y
  exact ⟨F', S, Evl.Ex.refl _, t, rfl, e _ _ h2⟩
theorem zipIdx_by {α β : Type} (l : List α) (f : Nat → Bool) (g : Nat → β) : ((l.zipIdx.filter fun p => f p.2).map fun p => g p.2) = ((List.range l.length).filter f).map g := by
  have e : l.zipIdx.map Prod.snd = List.range l.length := by rw [List.zipIdx_map_snd, List.range_eq_range']
  rw [← e, List.filter_map, List.map_map]
  rfl
end
/-- names in the same order tell the same rows -/
theorem rowOf_congr {many : Int} {ties : List (Int × Int)} {n1 n2 : List Int} (W : WebOk many ties) (hs : ∀ a b, 0 ≤ a → a < many → 0 ≤ b → b < many → (nmAt n1 a < nmAt n1 b ↔ nmAt n2 a < nmAt n2 b)) {h : Int} (h0 : 0 ≤ h) (h1 : h < many) : rowOf many ties n1 h = rowOf many ties n2 h := by
  refine rows_unique W (f := rowOf many ties n1) (fun x x0 x1 => ?_) many.toNat h (rank_bound ⟨h0, h1⟩) h0 h1
  rw [rowOf_eq W ⟨x0, x1⟩]
  congr 2
  unfold lessN
  refine List.filter_congr fun o ho => ?_
  have hb := nbr_range W ho
  rw [decide_eq_decide]
  exact hs o x hb.1 hb.2 x0 x1
theorem rowsOf_congr {many : Int} {ties : List (Int × Int)} {n1 n2 : List Int} (W : WebOk many ties) (hs : ∀ a b, 0 ≤ a → a < many → 0 ≤ b → b < many → (nmAt n1 a < nmAt n1 b ↔ nmAt n2 a < nmAt n2 b)) : rowsOf many ties n1 = rowsOf many ties n2 := by
  unfold rowsOf
  refine List.map_congr_left fun h hh => ?_
  have := rgI_mem.mp hh
  exact rowOf_congr W hs this.1 this.2
/-- the set by names -/
def pickedOf (many : Int) (ties : List (Int × Int)) (names : List Int) : List Int := (rgI many).filter fun h => (rowOf many ties names h).1
theorem OvAll.rows {K : PySem.W.Frag} {H : Hp} : ∀ {xs : List V} {rs : List Row}, OvAll H xs (rs.map some) → DpAll K H xs (rs.map rowD)
  | _, [], .nil => .nil
  | _, _ :: _, .cons ⟨t, h1, h2⟩ r => by rw [h1]; exact .cons (dp_row (SqT.of h2)) (OvAll.rows r)
/-- those of a list of rows, some of which are None, that are none -/
theorem OvAll.some_of {K : PySem.W.Frag} {H : Hp} {c : Int → Bool} {ro : Int → Row} : ∀ {L : List Int} {ys : List V}, OvAll H ys (L.map fun o => if c o = true then some (ro o) else none) → DpAll K H (ys.filter fun x => !decide (x = .non)) (((L.filter c).map ro).map rowD)
  | [], _, .nil => .nil
  | o :: L, _, @Paired.cons _ _ _ y _ ys _ h r => by
    have h : OV H y (if c o = true then some (ro o) else none) := h
    rw [List.filter_cons, List.filter_cons]
    by_cases hc : c o = true
    · rw [if_pos hc] at h
      obtain ⟨t, h1, h2⟩ := h
      rw [if_pos hc, if_pos (by rw [h1]; rfl), h1, List.map_cons, List.map_cons]
      exact .cons (dp_row (SqT.of h2)) (OvAll.some_of r)
    · rw [if_neg hc] at h
      have h : y = .non := h
      rw [if_neg hc, if_neg (by rw [h]; decide)]
      exact OvAll.some_of r
theorem OvAll.map_get {H : Hp} {xs : List V} {many : Int} {ro : Int → Row} {d : Int → Bool} (h : OvAll H xs (stO many ro d)) : ∀ {L : List Int}, (∀ o ∈ L, 0 ≤ o ∧ o < many) → OvAll H (L.map fun o => xs.getD o.toNat .non) (L.map fun o => if d o = true then some (ro o) else none)
  | [], _ => .nil
  | o :: L, hL => by
    have ho := hL o List.mem_cons_self
    obtain ⟨x, e, ov⟩ := h.get o.toNat _ (stO_get ho.1 ho.2)
    refine .cons ?_ (OvAll.map_get h fun p hp => hL p (List.mem_cons_of_mem _ hp))
    show OV H (xs.getD o.toNat .non) (if d o = true then some (ro o) else none)
    rw [List.getD_eq_getElem?_getD, e]
    exact ov
theorem OvAll.set {H : Hp} {t : Addr} {r : Row} (ht : H t = some (.tup [.bl r.1, .int r.2])) : ∀ {xs : List V} {os : List (Option Row)} (i : Nat), OvAll H xs os → OvAll H (xs.set i (.ref t)) (os.set i (some r))
  | _, _, _, .nil => .nil
  | _, _, 0, .cons _ s => .cons ⟨t, rfl, ht⟩ s
  | _, _, i + 1, .cons q s => .cons q (OvAll.set ht i s)
theorem OvAll.non {H : Hp} {many : Int} {ro : Int → Row} : OvAll H (List.replicate many.toNat .non) (stO many ro fun _ => false) := by
  unfold stO
  have : ∀ (L : List Int), OvAll H (List.replicate L.length .non) (L.map fun h => if (fun _ => false) h = true then some (ro h) else none) := by
    intro L
    induction L with
    | nil => exact .nil
    | cons x r ih => exact .cons rfl ih
  have h := this (rgI many)
  rw [rgI_len] at h
  exact h
theorem dpAll_row_at {K : PySem.W.Frag} {H : Hp} {v : V} {r : Row} (h : Dp K H v (rowD r)) : ∃ t, v = .ref t ∧ SqT K H t [.bl r.1, .int r.2] := rowD_at h
/-- by rising names: who stands ahead -/
theorem ahead_iff {many : Int} {names order : List Int} (hp : order.Perm (rgI many)) (pw : order.Pairwise fun a b => nmAt names a < nmAt names b) {i : Nat} {h o : Int} (hi : order[i]? = some h) (h0 : 0 ≤ o) (h1 : o < many) : o ∈ order.take i ↔ nmAt names o < nmAt names h := by
  obtain ⟨hi1, hi2⟩ := List.getElem?_eq_some_iff.mp hi
  have hpw := List.pairwise_iff_getElem.mp pw
  constructor
  · intro m
    obtain ⟨j, hj, ej⟩ := List.mem_iff_getElem.mp m
    rw [List.length_take] at hj
    rw [List.getElem_take] at ej
    have := hpw j i (by omega) hi1 (by omega)
    rw [ej, hi2] at this
    exact this
  · intro lt
    obtain ⟨j, hj, ej⟩ := List.mem_iff_getElem.mp (hp.mem_iff.mpr (rgI_mem.mpr ⟨h0, h1⟩))
    by_cases c : j < i
    · exact List.mem_iff_getElem.mpr ⟨j, by rw [List.length_take]; omega, by rw [List.getElem_take]; exact ej⟩
    · exfalso
      by_cases c2 : j = i
      · subst c2
        rw [hi2] at ej
        rw [ej] at lt
        omega
      · have := hpw i j hi1 hj (by omega)
        rw [hi2, ej] at this
        omega
/-! ### set(t), t a tuple of tuples of ints, fewer than 64 -/
section
variable {P : Program} {w : World} {A : Around} {E : Value → Shared → Prop} {s : Shared}
set_option maxHeartbeats 9000000 in
theorem set_of_tuple {l : Addr} {its : Array Value} (ks : List (Addr × List Int)) {Q : Value → Shared → Prop} (calm : A.handled = none) (ist : IsTup s.heap l its) (are : its.toList = ks.map fun p => Value.ref p.1)
    (tups : ∀ p ∈ ks, IsT P w s.heap p.2 p.1) (few : ks.length < 64) (deep : A.units + 3 < cLine)
    (out : ∀ (g : Heap) (tk : Nat) L es ep t, SetTR P w g s.heap.objs.size L es ep t → Got ks ks.length L → (∀ b o, s.heap.get? b = some o → g.get? b = some o) → Q (.ref s.heap.objs.size) { s with heap := g, toks := tk }) :
    wpAny (model P w) A (call (.type "set") [.ref l]) Q E s := by
  have size_is : its.size = ks.length := by
    have z := congrArg List.length are
    rwa [Array.length_toList, List.length_map] at z
  have cs := F.called_set
  obtain ⟨m1, m2, m3⟩ := cs.mro
  have made := cs.made
  have subs := cs.sub
  have nty := cs.notType
  have can := cs.canCreate
  have tcall := F.typeCall_set_1 (.ref l)
  refine wpAny_call (codeAny_of_tree ?_)
  show wpAny _ _ (callAny (Value.type "set") _) _ _ _
  refine wpAny_pure ⟨Code.quiet_builtin _ (by decide +kernel), codeAny_builtin F.entry_type_call ?_⟩
  rw [Around.under_plain (weight_type_call_type "set" [.ref l] []) rfl]
  repeat (any_goals (first | wp_step | assumption))
  refine codeAny_mono (code_set_led1 (.ref l) (E := E) (Q₁ := fun v s1 => v = .ref s.heap.objs.size ∧ s1 = { s with heap := s.heap.push (emptyS w) }) ⟨rfl, rfl⟩) fun res s1 got => ?_
  cases res with
  | error _ => exact got
  | ok flow =>
    cases flow with
    | ret v =>
      obtain ⟨rfl, rfl⟩ := got
      have at0 : (s.heap.push (emptyS w)).get? s.heap.objs.size = some (emptyS w) := Heap.get?_push_size _ rfl
      have ty0 : Shared.TypeIs { s with heap := s.heap.push (emptyS w) } (.ref s.heap.objs.size) "set" := ⟨_, at0, rfl⟩
      have ini1 := cs.init.lookup
      have ini2 := cs.init.bind (.ref s.heap.objs.size)
      repeat (any_goals (first | wp_step | assumption))
      refine codeAny_mono (codeAny_call_builtin (R := wants (fun r s2 => r = .none ∧ ∃ g tk L es ep t, s2 = { s with heap := g, toks := tk } ∧ SetTR P w g s.heap.objs.size L es ep t ∧ Got ks ks.length L ∧ (∀ b o, s.heap.get? b = some o → g.get? b = some o)) E) cs.init.plain F.entry_set_init (check_set_init_1 ty0 ?_)) fun res2 s2 got2 => ?_
      · obtain ⟨ob, hob, hcl, n0, hdt⟩ := ist
        obtain ⟨k1, k2, k3, k4⟩ := ob
        simp only at hcl hdt
        subst hcl hdt
        have under : l < s.heap.objs.size := Heap.lt_size hob
        have hob2 : (s.heap.push (emptyS w)).get? l = some { cls := .type "tuple", dict := k2, data := .seq its n0, slots := k4 } := Heap.get?_push_of_some _ hob
        have t1 := F.sub_tuple_set
        have t2 := F.sub_tuple_frozenset
        have t3 : (Value.type "tuple" == Value.type "dict") = false := by decide
        have isl2 : (s.heap.push (emptyS w)).IsTuple l its := ⟨_, hob2, rfl, n0, rfl⟩
        unfold Builtin.«set.__init__» noKeywords Builtin.Frozenset.updateFrom
        generalize hit : pyIter = iter
        wp_walk
        subst hit
        refine wpAny_pyIter_tuple isl2 (wpAny_bind (wpAny_runValue ?_))
        have calm3 : A.in1.in1.in1.handled = none := by simp [calm]
        have apart : l ≠ (s.heap.push (emptyS w)).objs.size := by
          rw [Heap.size_push]
          exact Nat.ne_of_lt (Nat.lt_succ_of_lt under)
        have notin : s.heap.objs.size ∉ [(s.heap.push (emptyS w)).objs.size, l] := by
          intro m
          rw [Heap.size_push] at m
          rcases List.mem_cons.mp m with m | m
          · exact absurd m (Nat.ne_of_lt (Nat.lt_succ_self _))
          · exact absurd (List.mem_singleton.mp m) (Nat.ne_of_gt under)
        have vals : ∀ (i : Nat) (v : Value), its[i]? = some v → ∃ p, ks[i]? = some p ∧ v = .ref p.1 := fun i v hv => by
          have z : its.toList[i]? = some v := by rw [Array.getElem?_toList]; exact hv
          rw [are, List.getElem?_map] at z
          cases q : ks[i]? with
          | none => rw [q] at z; cases z
          | some p => rw [q] at z; exact ⟨p, rfl, (Option.some.inj z).symm⟩
        have gone : ∀ b, s.heap.objs.size ≤ b → s.heap.get? b = none := fun b hb => by
          cases q : s.heap.get? b with
          | none => rfl
          | some o => exact absurd (Nat.lt_of_lt_of_le (Heap.lt_size q) hb) (Nat.lt_irrefl _)
        refine set_update_tups (Walks.tuple calm3 _ l apart its).toS s.heap.objs.size notin ks size_is few vals s.heap tups (gone _ (Nat.le_refl _)) (fun b hb => gone b ?_) deep (its.size - 0) 0 _ (by omega) (Nat.zero_le _) ⟨⟨_, Heap.get?_push_size _ rfl, rfl, rfl⟩, isl2.push _⟩ (fun b o e => Heap.get?_push_of_some _ (Heap.get?_push_of_some _ e)) ?first ?last
        · rw [List.mem_singleton.mp hb, Heap.size_push]
          exact Nat.le_succ _
        case first => exact ⟨[], #[], 0, _, setTR_fresh (Heap.get?_push_of_some _ at0), Got.zero ks⟩
        case last =>
          intro s3 L es ep t moved set3 got3 keep3
          obtain ⟨g3, e1, e2, tk3, e3⟩ := s3
          have q1 : e1 = s.gens := moved.gens
          have q2 : e2 = s.drawn := moved.drawn
          have q3 : e3 = s.os := moved.os
          subst q1 q2 q3
          rw [size_is] at got3
          exact wpAny_pure (wpAny_pure ⟨rfl, g3, tk3, L, es, ep, t, rfl, set3, got3, keep3⟩)
      · cases res2 with
        | error _ => exact got2
        | ok flow2 =>
          cases flow2 with
          | ret _ =>
            obtain ⟨rfl, g, tk, L, es, ep, t, rfl, y1, y2, y3⟩ := got2
            repeat (any_goals (first | wp_step | assumption))
            exact out _ _ _ _ _ _ y1 y2 y3
          | _ => exact got2.elim
    | _ => exact got.elim
end
section
variable {X : Cx}
def rSetTT (K : PySem.W.Frag) (P : Program) (w : World) : List V → Hp → VK → Prop := fun xs H Q => ∃ (l : Addr) (ks : List (Addr × List Int)), xs = [V.ref l] ∧ SqT K H l (ks.map fun p => V.ref p.1) ∧ (∀ p ∈ ks, SqT K H p.1 (p.2.map V.int)) ∧ ks.length < 64 ∧
  ∀ a L, H a = none → (∀ p ∈ L, p ∈ ks) → (∀ p ∈ ks, p.2 ∈ L.map (·.2)) → Q (.ref a) (upd H a (SetTO P w a L))
theorem cr_setTT (hc : X.calm = true) (hu : X.A.units + 64 < cLine) : CallR X (.type "set") (rSetTT X.K X.prog X.w) := by
  intro pins s σ H xs us Q I r h
  obtain ⟨l, ks, rfl, hl, hk, hf, q⟩ := h
  obtain ⟨its, rv, pl, hz⟩ := I.tuple hl
  rw [Vals.ref1 r]
  have hn : H s.heap.objs.size = none := I.hok.fresh (Nat.le_refl _)
  refine set_of_tuple (P := X.prog) (w := X.w) ks (I.ok.hd hc) pl (by simpa using refs_of_vals rv) (fun p hp => I.isT (hk p hp)) hf (by omega) fun g tk L es ep t R got kp => ?_
  refine ⟨.ref s.heap.objs.size, upd H s.heap.objs.size (SetTO X.prog X.w s.heap.objs.size L), I.laid (t' := tk) kp (Nat.le_refl _) (setTO_new R.t0), rfl, q _ L hn (fun p hp => List.mem_of_mem_take (got.sub p hp)) fun p hp => got.all p (by rw [List.take_length]; exact hp)⟩
end
section
variable {many : Int} {ties : List (Int × Int)} {names : List Int}
theorem rowBy_fst (rows : List Row) : (rowBy rows).1 = true ↔ ∀ r ∈ rows, r.1 = false := by
  constructor
  · intro h
    exact (rowBy_true (n := (rowBy rows).2) (by rw [← h])).1
  · intro h
    cases e : (rowBy rows).1 with
    | true => rfl
    | false =>
      obtain ⟨⟨r, hr, q⟩, _⟩ := rowBy_false (n := (rowBy rows).2) (show rowBy rows = (false, (rowBy rows).2) by rw [← e])
      have := h r hr
      rw [q] at this
      cases this
theorem chosen_iff (W : WebOk many ties) {h : Int} (hh : 0 ≤ h ∧ h < many) : (rowOf many ties names h).1 = true ↔ ∀ o ∈ lessN ties names h, (rowOf many ties names o).1 = false := by
  rw [rowOf_eq W hh, rowBy_fst]
  constructor
  · intro q o ho
    exact q _ (List.mem_map_of_mem (f := rowOf many ties names) ho)
  · rintro q r hr
    obtain ⟨o, ho, rfl⟩ := List.mem_map.mp hr
    exact q o ho
/-- the set by names is the one that goes by its lesser neighbours -/
theorem chosen_only (W : WebOk many ties) {c : Int → Bool} (hc : ∀ h, 0 ≤ h → h < many → (c h = true ↔ ∀ o ∈ lessN ties names h, c o = false)) : ∀ (n : Nat) (h : Int), rank many names h < n → 0 ≤ h → h < many → c h = (rowOf many ties names h).1
  | 0, _, h, _, _ => absurd h (Nat.not_lt_zero _)
  | n + 1, h, hr, h0, h1 => by
    rw [Bool.eq_iff_iff, hc h h0 h1, chosen_iff W ⟨h0, h1⟩]
    constructor
    · intro q o ho
      have hl := rank_lt W ho
      have hb := nbr_range W (List.mem_filter.mp ho).1
      rw [← chosen_only W hc n o (by omega) hb.1 hb.2]
      exact q o ho
    · intro q o ho
      have hl := rank_lt W ho
      have hb := nbr_range W (List.mem_filter.mp ho).1
      rw [chosen_only W hc n o (by omega) hb.1 hb.2]
      exact q o ho
theorem picked_mem {h : Int} : h ∈ pickedOf many ties names ↔ (0 ≤ h ∧ h < many) ∧ (rowOf many ties names h).1 = true := by
  unfold pickedOf
  rw [List.mem_filter, rgI_mem]
theorem picked_ok : SetOk many (pickedOf many ties names) := ⟨(rgI_up many).filter _, fun h hh => (picked_mem.mp hh).1⟩
theorem oth_ne (W : WebOk many ties) {h o : Int} (ho : o ∈ nbr ties h) : o ≠ h := fun z => by
  subst z
  rcases (nbr_iff W).mp ho with q | q
  · have := W.ok _ q; simp only at this; omega
  · have := W.ok _ q; simp only at this; omega
theorem nbr_sym (W : WebOk many ties) {h o : Int} (ho : o ∈ nbr ties h) : h ∈ nbr ties o := by
  rcases (nbr_iff W).mp ho with q | q
  · exact (nbr_iff W).mpr (.inr q)
  · exact (nbr_iff W).mpr (.inl q)
/-- no two neighbours are picked -/
theorem picked_free (W : WebOk many ties) (N : NamesOk many names) {h o : Int} (hh : 0 ≤ h ∧ h < many) (ho : o ∈ nbr ties h) (c : (rowOf many ties names h).1 = true) : (rowOf many ties names o).1 = false := by
  have hor := nbr_range W ho
  have nn := nm_ne N hor hh (oth_ne W ho)
  by_cases q : nmAt names o < nmAt names h
  · exact (chosen_iff W hh).mp c o (List.mem_filter.mpr ⟨ho, decide_eq_true q⟩)
  · cases e : (rowOf many ties names o).1 with
    | false => rfl
    | true =>
      have := (chosen_iff W hor).mp e h (List.mem_filter.mpr ⟨nbr_sym W ho, decide_eq_true (by omega)⟩)
      rw [c] at this
      cases this
theorem picked_apart (W : WebOk many ties) (N : NamesOk many names) : firstTie ties (pickedOf many ties names) = none := by
  refine find_none _ _ fun t ht => ?_
  unfold tieIn
  cases e : decide (t.1 ∈ pickedOf many ties names) with
  | false => rfl
  | true =>
    rw [Bool.true_and]
    refine decide_eq_false fun q => ?_
    have e := picked_mem.mp (of_decide_eq_true e)
    have q := picked_mem.mp q
    have := picked_free W N e.1 (o := t.2) ((nbr_iff W).mpr (.inl ht)) e.2
    rw [q.2] at this
    cases this
theorem picked_near (W : WebOk many ties) {h : Int} (hh : 0 ≤ h ∧ h < many) (c : (rowOf many ties names h).1 = false) : ∃ o ∈ lessN ties names h, (rowOf many ties names o).1 = true := by
  refine Classical.byContradiction fun z => ?_
  have := (chosen_iff (names := names) W hh).mpr fun o ho => by
    cases e : (rowOf many ties names o).1 with
    | false => rfl
    | true => exact absurd ⟨o, ho, e⟩ z
  rw [c] at this
  cases this
theorem picked_full (W : WebOk many ties) : firstBare many ties (pickedOf many ties names) = none := by
  refine find_none _ _ fun h hh => ?_
  have hh := rgI_mem.mp hh
  rw [Bool.not_eq_false']
  unfold cov
  rw [Bool.or_eq_true, decide_eq_true_eq, List.any_eq_true]
  cases e : (rowOf many ties names h).1 with
  | true => exact .inl (picked_mem.mpr ⟨hh, e⟩)
  | false =>
    obtain ⟨o, ho, c⟩ := picked_near W hh e
    have ho := (List.mem_filter.mp ho).1
    exact .inr ⟨o, ho, decide_eq_true (picked_mem.mpr ⟨nbr_range W ho, c⟩)⟩
theorem picked_lacks (W : WebOk many ties) (N : NamesOk many names) : lacksD many ties (pickedOf many ties names) = .none := by
  unfold lacksD
  rw [picked_apart W N, picked_full W]
/-- there are at most as many rounds as chosen ones -/
theorem latest_le (W : WebOk many ties) : maxDf 0 ((rowsOf many ties names).map fun r => r.2) ≤ ((pickedOf many ties names).length : Int) := by
  have key : ∀ (L : List Int) (h : Int), (0 ≤ h ∧ h < many) → (rowOf many ties names h).2 ≤ ((pickedOf many ties names).length : Int) := by
    intro _ h hh
    have hp := row_pos (names := names) W (rank many names h + 1) h (by omega) hh.1 hh.2
    generalize hm : (rowOf many ties names h).2 = m at hp
    have : ((List.range m.toNat).map fun k : Nat => (k : Int) + 1).length ≤ ((pickedOf many ties names).map fun h => (rowOf many ties names h).2).length := by
      refine len_le_of_sub ?_ fun x hx => ?_
      · refine List.Pairwise.map _ ?_ List.nodup_range
        intro a b h e
        exact h (by omega)
      · obtain ⟨k, hk, rfl⟩ := List.mem_map.mp hx
        have hk := List.mem_range.mp hk
        obtain ⟨o, o0, o1, e⟩ := some_fresh (names := names) W (n := (k : Int)) (by omega) (rank many names h + 1) h (by omega) hh.1 hh.2 (by omega)
        exact List.mem_map.mpr ⟨o, picked_mem.mpr ⟨⟨o0, o1⟩, by rw [e]⟩, by rw [e]⟩
    rw [List.length_map, List.length_map, List.length_range] at this
    omega
  unfold maxDf
  cases e : (rowsOf many ties names).map fun r => r.2 with
  | nil => simp only; omega
  | cons x r =>
    have s := (maxL_spec x r).1
    rw [← e] at s
    simp only
    obtain ⟨rw', hr, er⟩ := List.mem_map.mp s
    unfold rowsOf at hr
    obtain ⟨h, hh, eh⟩ := List.mem_map.mp hr
    rw [← er, ← eh]
    exact key [] h (rgI_mem.mp hh)
/-- the house of the least name -/
theorem least_first (W : WebOk many ties) {h : Int} (hh : 0 ≤ h ∧ h < many) (hl : ∀ o, 0 ≤ o → o < many → nmAt names h ≤ nmAt names o) : rowOf many ties names h = (true, 1) := by
  rw [rowOf_eq W hh]
  have e : lessN ties names h = [] := by
    unfold lessN
    rw [List.filter_eq_nil_iff]
    intro o ho
    have hb := nbr_range W ho
    have := hl o hb.1 hb.2
    rw [decide_eq_true_eq]
    omega
  rw [e]
  rfl
/-- names by which the houses of a set go first -/
structure FirstsOk (many : Int) (names some' ns : List Int) : Prop where
  ok : NamesOk many ns
  first : ∀ h ∈ some', ∀ o, 0 ≤ o → o < many → o ∉ some' → nmAt ns h < nmAt ns o
theorem firsts_same (W : WebOk many ties) (N : NamesOk many names) {ns : List Int} (F : FirstsOk many names (pickedOf many ties names) ns) : pickedOf many ties ns = pickedOf many ties names := by
  unfold pickedOf
  refine List.filter_congr fun h hh => ?_
  have hh := rgI_mem.mp hh
  symm
  refine chosen_only W (c := fun h => (rowOf many ties names h).1) (fun x x0 x1 => ?_) many.toNat h (rank_bound ⟨hh.1, hh.2⟩) hh.1 hh.2
  constructor
  · intro c o ho
    exact picked_free W N ⟨x0, x1⟩ (List.mem_filter.mp ho).1 c
  · intro q
    cases e : (rowOf many ties names x).1 with
    | true => rfl
    | false =>
      obtain ⟨o, ho, c⟩ := picked_near W ⟨x0, x1⟩ e
      have ho := (List.mem_filter.mp ho).1
      have hb := nbr_range W ho
      have lt := F.first o (picked_mem.mpr ⟨hb, c⟩) x x0 x1 (fun z => by rw [(picked_mem.mp z).2] at e; cases e)
      rw [q o (List.mem_filter.mpr ⟨ho, decide_eq_true lt⟩)] at c
      cases c
/-- a tie of which neither house is chosen turns nothing -/
theorem more_same (W : WebOk many ties) {ties' : List (Int × Int)} (W' : WebOk many ties') (N : NamesOk many names) {a b : Int} (ha : (rowOf many ties names a).1 = false) (hb : (rowOf many ties names b).1 = false)
    (hm : ∀ t : Int × Int, t ∈ ties' ↔ t ∈ ties ∨ t = (a, b)) : pickedOf many ties' names = pickedOf many ties names := by
  unfold pickedOf
  refine List.filter_congr fun h hh => ?_
  have hh := rgI_mem.mp hh
  symm
  refine chosen_only W' (c := fun h => (rowOf many ties names h).1) (fun x x0 x1 => ?_) many.toNat h (rank_bound ⟨hh.1, hh.2⟩) hh.1 hh.2
  constructor
  · intro c o ho
    have ho := (List.mem_filter.mp ho).1
    have : o ∈ nbr ties x := by
      rcases (nbr_iff W').mp ho with q | q
      · rcases (hm _).mp q with z | z
        · exact (nbr_iff W).mpr (.inl z)
        · cases z
          have c : (rowOf many ties names a).1 = true := c
          rw [ha] at c
          cases c
      · rcases (hm _).mp q with z | z
        · exact (nbr_iff W).mpr (.inr z)
        · cases z
          have c : (rowOf many ties names b).1 = true := c
          rw [hb] at c
          cases c
    exact picked_free W N ⟨x0, x1⟩ this c
  · intro q
    cases e : (rowOf many ties names x).1 with
    | true => rfl
    | false =>
      obtain ⟨o, ho, c⟩ := picked_near W ⟨x0, x1⟩ e
      have hl := List.mem_filter.mp ho
      have m : o ∈ lessN ties' names x := by
        refine List.mem_filter.mpr ⟨?_, hl.2⟩
        rcases (nbr_iff W).mp hl.1 with z | z
        · exact (nbr_iff W').mpr (.inl ((hm _).mpr (.inl z)))
        · exact (nbr_iff W').mpr (.inr ((hm _).mpr (.inl z)))
      rw [q o m] at c
      cases c
end
/-! ### t + u, either may be empty -/
section
variable {prog : Program} {w : World} {A : Around} {E : Value → Shared → Prop} {s : Shared}
theorem cat_left0 {t b : Addr} {ws : List Value} {Q : Value → Shared → Prop} (ht : IsTup s.heap t ([] : List Value).toArray) (hb : IsTup s.heap b ws.toArray) (q : Q (.ref b) s) : wpAny (model prog w) A (binaryOp .Add (.ref t) (.ref b)) Q E s := by
  obtain ⟨⟨c1, d1, x1, l1⟩, o1, e1, m1, f1⟩ := id ht
  obtain ⟨⟨c2, d2, x2, l2⟩, o2, e2, m2, f2⟩ := id hb
  simp only at e1 f1 e2 f2
  subst e1 f1 e2 f2
  exact concat_meets ⟨_, o1, rfl⟩ ⟨_, o2, rfl⟩ noFill_tuple_add seq_tuple_add PySem.F.slot_tuple_add PySem.F.entry_tuple_add (PySem.F.args_tuple_add_2 _ _) (tuple_addW0 t b _ _ m1 m2 d1 d2 l1 l2 rfl) ⟨o1, o2, q⟩
end
def rCatTG (K : PySem.W.Frag) : R2 := fun x y H Q => ∃ a b xs ys, x = .ref a ∧ y = .ref b ∧ SqT K H a xs ∧ SqT K H b ys ∧ xs.length + ys.length ≤ sizeLine ∧ (xs = [] → Q (.ref b) H) ∧ (xs ≠ [] → ys = [] → Q (.ref a) H) ∧ (xs ≠ [] → ys ≠ [] → newK H (.tup (xs ++ ys)) Q)
theorem op_catTG {X : Cx} : OpR X (binaryOp .Add) (rCatTG X.K) := by
  intro pins s σ H x y v u Q I rx ry h
  obtain ⟨a, b, xs, ys, rfl, rfl, ha, hb, hz, q0, q1, q2⟩ := h
  by_cases hx : xs = []
  · cases rx
    cases ry
    obtain ⟨its, r1, p1, _⟩ := I.tuple ha
    obtain ⟨its2, r2, p2, _⟩ := I.tuple hb
    have e1 : its = [] := r1.nil_iff.mpr hx
    subst e1
    exact cat_left0 p1 p2 ⟨.ref b, H, I, rfl, q0 hx⟩
  · exact op_catT pins s σ H _ _ v u Q I rx ry ⟨a, b, xs, ys, rfl, rfl, ha, hb, hx, hz, q1 hx, fun hy => q2 hx hy⟩
theorem s_catT {K : PySem.W.Frag} {H : Hp} {a b : Addr} {xs ys : List V} {Q : VK} (ha : SqT K H a xs) (hb : SqT K H b ys) (hz : xs.length + ys.length ≤ 100000) (q0 : xs = [] → Q (.ref b) H) (q1 : xs ≠ [] → ys = [] → Q (.ref a) H) (q2 : xs ≠ [] → ys ≠ [] → newK H (.tup (xs ++ ys)) Q) : rCatTG K (.ref a) (.ref b) H Q :=
  ⟨a, b, xs, ys, rfl, rfl, ha, hb, Nat.le_trans hz (by decide), q0, q1, q2⟩
/-- x is y, x is not y, truths -/
theorem r_isB {a b : Bool} {H : Hp} {Q : VK} (q : Q (.bl (decide (a = b))) H) : (fun x y H Q => ∃ a b, x = V.bl a ∧ y = V.bl b ∧ Q (.bl (decide (a = b))) H : R2) (.bl a) (.bl b) H Q := ⟨a, b, rfl, rfl, q⟩
def rNotBl : R2 := fun x y H Q => ∃ a b, x = V.bl a ∧ y = V.bl b ∧ Q (.bl (!decide (a = b))) H
theorem op_notBl {X : Cx} : OpR X (compareOp .IsNot) rNotBl := op_isnot_bl
theorem r_notBl {a b : Bool} {H : Hp} {Q : VK} (q : Q (.bl (!decide (a = b))) H) : rNotBl (.bl a) (.bl b) H Q := ⟨a, b, rfl, rfl, q⟩
def rIsBl : R2 := fun x y H Q => ∃ a b, x = V.bl a ∧ y = V.bl b ∧ Q (.bl (decide (a = b))) H
theorem op_isBl2 {X : Cx} : OpR X (compareOp .Is) rIsBl := op_is_bl
theorem r_isBl {a b : Bool} {H : Hp} {Q : VK} (q : Q (.bl (decide (a = b))) H) : rIsBl (.bl a) (.bl b) H Q := ⟨a, b, rfl, rfl, q⟩
/-! ### == of lists of ints -/
theorem eqvAll_ints : ∀ a b : List Int, PyData.eqvAll (a.map PyData.int) (b.map PyData.int) = decide (a = b)
  | [], [] => by simp [PyData.eqvAll]
  | [], _ :: _ => by simp [PyData.eqvAll]
  | _ :: _, [] => by simp [PyData.eqvAll]
  | x :: a, y :: b => by
    rw [List.map_cons, List.map_cons, PyData.eqvAll, eqvAll_ints a b]
    by_cases h1 : x = y <;> by_cases h2 : a = b <;> simp [h1, h2, PyData.eqv]
theorem eqv_ints (a b : List Int) : PyData.eqv (intsD a) (intsD b) = decide (a = b) := by
  unfold intsD
  rw [PyData.eqv]
  exact eqvAll_ints a b
theorem r_neInts {K : PySem.W.Frag} {H : Hp} {Q : VK} {p q : Addr} {a b : List Int} (h : SqL K H p (a.map V.int)) (g : SqL K H q (b.map V.int)) (z : Q (.bl (!decide (a = b))) H) : rNeD K (.ref p) (.ref q) H Q :=
  ⟨_, _, dp_ints h, dp_ints g, shaped_ints a, shaped_ints b, by have := eqv_ints a b; unfold intsD at this; rw [this]; exact z⟩
theorem r_eqInts {K : PySem.W.Frag} {H : Hp} {Q : VK} {p q : Addr} {a b : List Int} (h : SqL K H p (a.map V.int)) (g : SqL K H q (b.map V.int)) (z : Q (.bl (decide (a = b))) H) : rEqD K (.ref p) (.ref q) H Q :=
  ⟨_, _, dp_ints h, dp_ints g, shaped_ints a, shaped_ints b, by have := eqv_ints a b; unfold intsD at this; rw [this]; exact z⟩
/-! ### min -/
theorem r_min {K : PySem.W.Frag} {H : Hp} {Q : VK} {a : Addr} {ns : List Int} (h : SqL K H a (ns.map V.int)) (h0 : 0 < ns.length) (q : ∀ m, m ∈ ns → (∀ y, y ∈ ns → m ≤ y) → Q (.int m) H) : rMin K [.ref a] H Q := ⟨a, ns, rfl, h, h0, q⟩
/-! ### sets of pairs -/
section
variable {io : List Addr} {H0 F0 F H : Hp} {M : List (Addr × Cel)} {K : PySem.W.Frag} {P : Program} {w : World} {Q : VK} {a : Addr}
/-- set(t), t a tuple of pairs of small numbers -/
theorem s_setTT {xs : List V} {ps : List (Int × Int)} (S : Sep io H0 F0 F H M) (h : SqT K F a xs) (ht : DpAll K F xs (ps.map tieD)) (few : ps.length < 64)
    (k : ∀ (q : Addr) (L : List (Addr × List Int)) (F' H' : Hp), Sep io H0 F0 F' H' M → Evl.Ex F F' → F' q = some (SetTO P w q L) → (∀ p ∈ L, ∃ t : Int × Int, t ∈ ps ∧ p.2 = [t.1, t.2] ∧ SqT K F' p.1 [.int t.1, .int t.2]) → (∀ t ∈ ps, [t.1, t.2] ∈ L.map (·.2)) → Q (.ref q) H') : rSetTT K P w [.ref a] H Q := by
  obtain ⟨ks, e1, e2, e3⟩ : ∃ ks : List (Addr × List Int), xs = ks.map (fun p => V.ref p.1) ∧ ks.map (·.2) = ps.map (fun t => [t.1, t.2]) ∧ ∀ p ∈ ks, ∃ t : Int × Int, t ∈ ps ∧ p.2 = [t.1, t.2] ∧ SqT K F p.1 [.int t.1, .int t.2] := by
    clear h few k
    induction ps generalizing xs with
    | nil => cases ht; exact ⟨[], rfl, rfl, fun p hp => by cases hp⟩
    | cons t r ih =>
      cases ht with
      | cons hx hr =>
        obtain ⟨b, rfl, hb⟩ := tieD_at hx
        obtain ⟨ks, i1, i2, i3⟩ := ih hr
        refine ⟨(b, [t.1, t.2]) :: ks, by rw [i1]; rfl, by rw [List.map_cons, List.map_cons, i2], fun p hp => ?_⟩
        rcases List.mem_cons.mp hp with rfl | hp
        · exact ⟨t, List.mem_cons_self, rfl, hb⟩
        · obtain ⟨u, g1, g2, g3⟩ := i3 p hp
          exact ⟨u, List.mem_cons_of_mem _ g1, g2, g3⟩
  subst e1
  have kl : ks.length = ps.length := by rw [← List.length_map (f := fun p : Addr × List Int => p.2), e2, List.length_map]
  refine ⟨a, ks, rfl, Evl.ex_t S.fr h, fun p hp => ?_, by omega, fun q L hq h1 h2 => ?_⟩
  · obtain ⟨t, _, g2, g3⟩ := e3 p hp
    rw [g2]
    exact Evl.ex_t S.fr g3
  · refine k q L _ _ (S.newF hq _) (Evl.Ex.new (S.fnone hq)) upd_same (fun p hp => ?_) fun t ht => ?_
    · obtain ⟨t, g1, g2, g3⟩ := e3 p (h1 p hp)
      exact ⟨t, g1, g2, Evl.ex_t (Evl.Ex.new (S.fnone hq)) g3⟩
    · have m : [t.1, t.2] ∈ ks.map (·.2) := by rw [e2]; exact List.mem_map.mpr ⟨t, ht, rfl⟩
      obtain ⟨p, hp, e⟩ := List.mem_map.mp m
      rw [← e]
      exact h2 p hp
/-- sorted(that set): the pairs, each once, rising -/
theorem s_sortTT {ps : List (Int × Int)} {L : List (Addr × List Int)} (S : Sep io H0 F0 F H M) (h : F a = some (SetTO P w a L)) (hb : ∀ t ∈ ps, (0 ≤ t.1 ∧ t.1 < 64) ∧ 0 ≤ t.2 ∧ t.2 < 64) (h1 : ∀ p ∈ L, ∃ t : Int × Int, t ∈ ps ∧ p.2 = [t.1, t.2] ∧ SqT K F p.1 [.int t.1, .int t.2]) (h2 : ∀ t ∈ ps, [t.1, t.2] ∈ L.map (·.2))
    (k : ∀ (q : Addr) (ys : List V) (ts : List (Int × Int)) (F' H' : Hp), Sep io H0 F0 F' H' M → Evl.Ex F F' → F' q = some (.lst ys) → DpAll K F' ys (ts.map tieD) → ts.Pairwise Lx → (∀ t, t ∈ ts ↔ t ∈ ps) → Q (.ref q) H') : rSortedT K P w [.ref a] H Q := by
  refine ⟨a, L, 2, 64, rfl, S.fr _ _ h, fun p hp => ?_, by decide, fun p hp => ?_, fun L' q hp nd len pw hq => ?_⟩
  · obtain ⟨t, _, g2, g3⟩ := h1 p hp
    rw [g2]
    exact Evl.ex_t S.fr g3
  · obtain ⟨t, g1, g2, _⟩ := h1 p hp
    rw [g2]
    refine ⟨rfl, fun n hn => ?_⟩
    have := hb t g1
    rcases List.mem_cons.mp hn with rfl | hn
    · exact this.1
    · rw [List.mem_singleton.mp hn]; exact this.2
  · have S' := S.newF hq (.lst (L'.map fun q => V.ref q.1))
    have e := Evl.Ex.new (o := .lst (L'.map fun q => V.ref q.1)) (S.fnone hq)
    let f : Addr × List Int → Int × Int := fun p => (p.2.getD 0 0, p.2.getD 1 0)
    have hf : ∀ p ∈ L', ∃ t : Int × Int, t ∈ ps ∧ p.2 = [t.1, t.2] ∧ SqT K F p.1 [.int t.1, .int t.2] ∧ f p = t := fun p hp' => by
      obtain ⟨t, g1, g2, g3⟩ := h1 p (hp.mem_iff.mp hp')
      refine ⟨t, g1, g2, g3, ?_⟩
      show (p.2.getD 0 0, p.2.getD 1 0) = t
      rw [g2]
      rfl
    refine k q _ (L'.map f) _ _ S' e upd_same ?_ ?_ fun t => ?_
    · refine DpAll.ex e _ _ ?_
      clear hp nd len pw S' e hq
      induction L' with
      | nil => exact .nil
      | cons p r ih =>
        obtain ⟨t, _, _, g3, g4⟩ := hf p List.mem_cons_self
        refine .cons ?_ (ih fun p hp => hf p (List.mem_cons_of_mem _ hp))
        rw [g4]
        exact .tup g3 (.cons (.int _) (.cons (.int _) .nil))
    · refine List.pairwise_map.mpr (List.Pairwise.imp_of_mem ?_ (List.Pairwise.and pw (List.pairwise_map.mp nd)))
      intro p r hp' hr' ⟨c, ne⟩
      obtain ⟨t, g1, g2, _, g4⟩ := hf p hp'
      obtain ⟨u, k1, k2, _, k4⟩ := hf r hr'
      rw [g4, k4]
      rw [g2, k2] at c ne
      have b1 := hb t g1
      have b2 := hb u k1
      exact pair_lt c ne b1.1 b1.2 b2.1 b2.2
    · constructor
      · intro m
        obtain ⟨p, hp', e⟩ := List.mem_map.mp m
        obtain ⟨u, g1, _, _, g4⟩ := hf p hp'
        rw [← e, g4]
        exact g1
      · intro m
        obtain ⟨p, hp', e⟩ := List.mem_map.mp (h2 t m)
        refine List.mem_map.mpr ⟨p, hp.mem_iff.mpr hp', ?_⟩
        show (p.2.getD 0 0, p.2.getD 1 0) = t
        rw [e]
        rfl
theorem s_catS {b : Addr} {xs ys : List V} (S : Sep io H0 F0 F H M) (ha : SqT K F a xs) (hb : SqT K F b ys) (hy : ys ≠ []) (hz : xs.length + ys.length ≤ 100000) (k : ∀ (u : Addr) (F' H' : Hp), Sep io H0 F0 F' H' M → Evl.Ex F F' → SqT K F' u (xs ++ ys) → Q (.ref u) H') : rCatTG K (.ref a) (.ref b) H Q := by
  refine s_catT (Evl.ex_t S.fr ha) (Evl.ex_t S.fr hb) hz (fun e => ?_) (fun _ e => absurd e hy) (fun _ _ => s_new S fun u F' H' S' e c => k u F' H' S' e (SqT.of c))
  subst e
  exact k b F H S (Evl.Ex.refl _) hb
theorem r_neSameD {x y : V} {d : PyData} (h : Dp K H x d) (g : Dp K H y d) (sh : SeqAt.shaped d = true) (z : Q (.bl false) H) : rNeD K x y H Q := by
  refine ⟨_, _, h, g, sh, sh, ?_⟩
  rw [SeqAt.eqv_refl _ (SeqAt.canLay_of_shaped sh)]
  exact z
end
/-! ### an own error whose __init__ says super().__init__(a text) and keeps a field -/
section
variable {prog : Program} {w : World} {A : Around} {E : Value → Shared → Prop} {h : Heap} {g : Array GenState} {d : Drawn} {t : Nat} {os : OsState}
/-- the bound ValueError.__init__, called -/
theorem call_mw {nm q : Str} {N : Addr} {bs bm : List Value} {hdct : Bool} {sn : List Str} {sub : List Value} {ab : Bool} {col : Option Bool} {dd : Option Addr} {k0 k1 k2 k3 k5 : Option Value}
    {C e u t0 : Addr} {rest : List Value} {Q : Value → Shared → Prop}
    (hC : h.get? C = some (excClassObj nm q C N bs bm hdct sn sub ab col dd k0 k1 k2 k3 k5 "ValueError.__new__"))
    (he : h.get? e = some (HandSPX.excO C t0)) (hu : h.get? u = some (PySem.W.kxs_mw "ValueError.__init__" e)) (hz : rest.length ≤ sizeLine)
    (fin : ∀ h' t1, (∀ b o, b ≠ e → h.get? b = some o → h'.get? b = some o) → h'.get? e = some (HandSPX.excO C t1) → Q .none ⟨h', g, d, t, os⟩) :
    wpAny (model prog w) A (call (.ref u) rest) Q E ⟨h, g, d, t, os⟩ := by
  have FB := F.excBase_ValueError
  refine wpAny_call (codeAny_of_tree ?_)
  show wpAny _ A.in1 (callAny (Value.ref u) { pos := rest, kw := [] }) _ _ _
  simp only [callAny]
  refine wpAny_bind (wpAny_load hu ?_)
  rw [show (PySem.W.kxs_mw "ValueError.__init__" e).cls = Value.type "method-wrapper" from rfl]
  simp only [PySem.W.kxs_mw]
  refine W.KFB.if_so (by decide) ?_
  refine W.KFB.if_so (by decide) ?_
  refine wpAny_bind (W.check_bound_init FB.toExcCallFacts hC he rfl ?_)
  refine wpAny_bind (wpAny_pure (wpAny_pure ⟨plainId_quiet FB.init.plain _, codeAny_builtin FB.initEntry ?_⟩))
  exact W.exc_init_tree (t0 := t0) (cls := .ref C) (dv := none) (c2 := .none) (c3 := .none) (b4 := .bool false) he hz fun h' k x _ => fin h' _ k x
end
/-- what the written part says of the class at C and its __init__ at fI -/
structure SupC (prog : Program) (K : PySem.W.Frag) (C fI cc cda : Addr) (qual file : Str) : Prop where
  oex : OexC K C
  mro : PySem.W.mroIn K C (.ref C) = some true
  sup : PySem.W.ks_superIn K C C "__init__" = some (some (.builtin "ValueError.__init__"))
  ve : PySem.W.subIn K (.ref C) (.type "ValueError") = some true
  tp : PySem.W.nsIn K cStatics "thirdparty.any" = some none
  cel : ∃ ccl cdd ccs, K.lookup cc = some ⟨ccl, cdd, .cell (some (.ref C)), ccs⟩
  cod : ∃ ccl cdd vs ccs tf, K.lookup cda = some ⟨ccl, cdd, .fields vs, ccs⟩ ∧ vs[2]? = some (.str file tf)
  fil : ((prog.main.file : Str) == file) = true
  top : (prog.main.scope.names.lookup ("super" : Str)).isSome = false
  cdi : PySem.W.codeIn K (.ref cda) qual = true
abbrev supScope : Scope := { kind := .function, names := [("self", .local), ("number", .local), ("__class__", .free), ("super", .globalImplicit)], isGenerator := false, isCoroutine := false, more := [] }
abbrev supBody (text : Str) (p0 p1 p2 p3 p4 p5 p6 p7 p8 p9 : Pos) : List Stmt :=
  [.Expr (.Call (.Attribute (.Call (.Name "super" p0) [] [] p1) "__init__" p2) [.Constant (.str text) 0 p3] [] p4) p5, .Assign [.Attribute (.Name "self" p6) "number" p7] (.Name "number" p8) p9]
abbrev supParams (q1 q2 : Pos) : Arguments := { posonlyargs := [], args := [{ arg := "self", annotation := none, pos := q1 }, { arg := "number", annotation := none, pos := q2 }], vararg := none, kwonlyargs := [], kw_defaults := [], kwarg := none, defaults := [] }
/-- the promise of such an __init__ -/
def SpSup (C : Addr) : Sp := fun vs H Q _ => ∃ (a : Addr) (n : Int), vs = [.ref a, .int n] ∧ H a = some (exo a C none) ∧ ∀ dx, H dx = none → dx ≠ a → Q .non (upd (upd H dx (exd dx [("number", .int n)])) a (exo a C (some dx)))
section
variable {P : Program} {w : World} {K : PySem.W.Frag} {mg : Str → Option Value} {base : Heap} {CX : CXT} {C fI cc cda : Addr} {name qual file text : Str} {q1 q2 p0 p1 p2 p3 p4 p5 p6 p7 p8 p9 : Pos} {dV kV doc pm ct oc : Value} {an od : Option Addr} {osl : Array (Option Value)} {k : Nat}
abbrev supFd (name qual : Str) (q1 q2 p0 p1 p2 p3 p4 p5 p6 p7 p8 p9 : Pos) (text : Str) (dV kV doc pm ct : Value) (an : Option Addr) (cc cda : Addr) : FuncData :=
  PySem.W.ksFn name qual (supParams q1 q2) (supBody text p0 p1 p2 p3 p4 p5 p6 p7 p8 p9) supScope dV kV doc pm an (.ref cda) ct cc
abbrev supEnv (qual : Str) (s : Shared) (fI cda cc : Addr) : Env := PySem.W.ksEnv qual supScope s.heap.objs.size fI (.ref cda) cc
abbrev supX (CX : CXT) (P : Program) (w : World) (K : PySem.W.Frag) (mg : Str → Option Value) (base : Heap) (qual : Str) (fI cda cc : Addr) (A : Around) (outer : List Env) (s : Shared) (H : Hp) (E : XK) : Cx where
  prog := P
  w := w
  K := K
  mg := mg
  base := base
  A := A.deeper (supEnv qual s fI cda cc)
  N := ["self", "number"]
  s_0 := s
  H_0 := H
  env := supEnv qual s fI cda cc
  outer := outer
  stack := supEnv qual s fI cda cc :: outer
  ex := []
  fn := fun _ => false
  calm := true
  pn := []
  xe := fun e s' => wpAny (model P w) (A.deeper (supEnv qual s fI cda cc)) (leaving (supEnv qual s fI cda cc) e) (fun _ s2 => CX outer H s E e s2) (fun e2 s2 => CX outer H s E e2 s2) s'
theorem sup_start {A : Around} {outer : List Env} {s : Shared} {H : Hp} {E : XK} {a : Addr} {n : Int} {u : Value} (T : SupC P K C fI cc cda qual file) (hd : A.handled = none) (e0 : Env0 P w K mg base A outer s H) (ru : RelV (.int n) u)
    {h0 : Heap} {tk : Nat} (hn : h0.Ns s.heap.objs.size (fun x => (List.reverse [(("self" : Str), Value.ref a), ("number", u)]).lookup x)) (hk : ∀ b o, s.heap.get? b = some o → h0.get? b = some o) :
    Inv (supX CX P w K mg base qual fI cda cc A outer s H E) [] [some (.ref a), some (.int n)] H { s with heap := h0, toks := tk } := by
  obtain ⟨ccl, cdd, ccs, hcc⟩ := T.cel
  have hc0 := e0.mod.kin _ _ hcc
  obtain ⟨hc1, hc2⟩ := e0.bs _ _ hc0
  have cl : ∀ (x : Str) (c : Addr), (supX CX P w K mg base qual fI cda cc A outer s H E).env.cells.lookup x = some c → c = cc ∧ x = "__class__" := fun x c e => by
    have e : List.lookup x [(("__class__" : Str), cc)] = some c := e
    have m := PySem.mem_of_lookup e
    rw [List.mem_singleton] at m
    cases m
    exact ⟨rfl, rfl⟩
  refine ⟨⟨e0.mod, rfl, rfl, rfl, Nat.le_refl _, fun y z c h1 h2 => ?_, fun y hy => ?_, fun y c h _ => (by cases h), fun _ => hd, Around.frames_deeper e0.frames, .inr ⟨rfl, rfl⟩, fun b z => (by cases z), e0.bs, e0.bsz, fun b _ _ z => (by cases z), fun b z => (by cases z), e0.funs, e0.frf⟩,
    rfl, e0.bare, Un.kept hk, ⟨_, hn, fun i y v h1 h2 h3 => ?_⟩, fun y c h => ?_, e0.hok.fresh (Nat.le_refl _), fun y c h => ?_, fun p hp => (by cases hp), e0.hok.kept hk, rfl⟩
  · rw [(cl _ _ h1).2, (cl _ _ h2).2]
  · have hy : supScope.names.lookup y = some .cell ∨ supScope.names.lookup y = some .free := hy
    rcases hy with hy | hy
    · have m := PySem.mem_of_lookup hy
      simp [supScope] at m
    · have m := PySem.mem_of_lookup hy
      simp [supScope] at m
      rw [m]
      exact ⟨cc, rfl⟩
  · match i, h1, h2 with
    | 0, h1, h2 => cases h1; cases h2; exact ⟨.ref a, rfl, .inl ⟨rfl, rfl⟩⟩
    | 1, h1, h2 => cases h1; cases h2; exact ⟨u, ru, .inl ⟨rfl, rfl⟩⟩
    | i + 2, h1, h2 => simp at h2
  · rw [(cl _ _ h).1]
    exact ⟨_, _, hk _ _ hc1, rfl⟩
  · rw [(cl _ _ h).1]
    exact hc2
theorem excBM_ve {nm q : Str} {N : Addr} {bs bm : List Value} {sn : List Str} {sub : List Value} {ab : Bool} {col : Option Bool} {dd : Option Addr} {k0 k1 k2 k3 k5 : Option Value} (h : K.lookup C = some (excClassObj nm q C N bs bm true sn sub ab col dd k0 k1 k2 k3 k5 "ValueError.__new__")) :
    PySem.W.clsIn K C = some { name := nm, bases := bs, mro := .ref C :: bm, ns := N, qualname := q, hasDict := true, slotNames := sn, subclasses := sub, abstract := ab, collection := col, hasDel := false } := by
  unfold PySem.W.clsIn
  rw [h] <;> rfl
def SupEval (text : Str) (p0 p1 p2 p3 p4 : Pos) : Prop := ∀ env : Env, ∃ pl, eval (.Call (.Attribute (.Call (.Name "super" p0) [] [] p1) "__init__" p2) [.Constant (.str text) 0 p3] [] p4) env = (do
      let ov ← attributeBase (.Call (.Name "super" p0) [] [] p1) "__init__" env (eval (.Call (.Name "super" p0) [] [] p1) env)
      standAt p2.atName
      let (f, first) ← holding [ov] (getMethod ov "__init__" pl)
      callWith p4 f first (backTo p4 (starEach [.Constant (.str text) 0 p3] env)) [])
theorem sup_ok (T : SupC P K C fI cc cda qual file) (lk : K.lookup fI = some ⟨oc, od, .func (supFd name qual q1 q2 p0 p1 p2 p3 p4 p5 p6 p7 p8 p9 text dV kV doc pm ct an cc cda), osl⟩)
    (hno : PySem.W.findIn K (.ref C) "number" = some none) (mgs : mg "super" = none) (hev : SupEval text p0 p1 p2 p3 p4) :
    FnOk P w K mg base CX (k + 1) fI (supFd name qual q1 q2 p0 p1 p2 p3 p4 p5 p6 p7 p8 p9 text dV kV doc pm ct an cc cda) ["self", "number"] (SpSup C) := by
  refine ⟨fun vs H Q E h => (by obtain ⟨a, n, rfl, _⟩ := h; rfl), fun A outer s H args us vs Q E hr e0 hb r hsp => ?_⟩
  obtain ⟨a, n, rfl, ha, fin⟩ := hsp
  obtain ⟨u, ru, rfl⟩ : ∃ u, RelV (.int n) u ∧ us = [.ref a, u] := by
    cases r with
    | cons r1 r2 => cases r2 with
      | cons r3 r4 => cases r4; exact ⟨_, r3, by rw [show _ = Value.ref a from r1]⟩
  have KX : K.In s.heap := e0.mod.kin.keeps fun b o e => (e0.bs b o e).1
  have lim : s.heap.NoLimit := e0.mod.nolimit.keeps fun b o e => (e0.bs b o e).1
  refine ks_codeAny_call_defAt (fd := supFd name qual q1 q2 p0 p1 p2 p3 p4 p5 p6 p7 p8 p9 text dV kV doc pm ct an cc cda) (body := supBody text p0 p1 p2 p3 p4 p5 p6 p7 p8 p9) (binds := [("self", .ref a), ("number", u)]) hr.depth (KX _ _ lk) rfl lim (PySem.W.codeRec_of KX T.cdi) rfl hb (show ∀ x ∈ supScope.names, x.2 ≠ .cell by decide) (fun x hx => by rcases List.mem_cons.mp hx with rfl | hx; (· rfl); rw [List.mem_singleton.mp hx]; rfl) (fun h0 hn hk => ?_) rfl rfl rfl
  have I0 := sup_start (w := w) (mg := mg) (base := base) (CX := CX) (E := E) T hr.hd e0 ru (tk := s.toks + 2) hn hk
  have hk2 : ∀ b o, base.get? b = some o → h0.get? b = some o := fun b o e => hk _ _ (e0.bs b o e).1
  have K0 : K.In h0 := e0.mod.kin.keeps hk2
  obtain ⟨nm, q, N, bs, bm, sn, sub, ab, col, dd, k0, k1, k2, k3, k5, hC, hbm⟩ := T.oex.cls
  have hcl := excBM_ve hC
  obtain ⟨ccl, cdd, ccs, hcc⟩ := T.cel
  obtain ⟨dcl, ddd, dvs, dcs, tf, hda, hfl⟩ := T.cod
  obtain ⟨t1, hx⟩ := exo_at I0.hok ha
  obtain ⟨mb, hmb, hbt⟩ := e0.mod.blt
  have neC : a ≠ C := fun z => by
    have := K0 _ _ hC
    rw [← z, hx] at this
    cases this
  obtain ⟨pl, he⟩ := hev (supEnv qual s fI cda cc)
  refine ks_wpAt_execs_cons (ks_wpAt_Expr_any (ks_wpAt_MethodCall (pl := pl) (he := he) (ks_wpAt_super_base (f := fI) (cc := cda) rfl rfl (by decide) rfl (K0 _ _ lk) rfl rfl rfl (K0 _ _ hda) rfl hfl T.fil T.top ?_)))
  refine PySem.W.ks_loadName_global rfl rfl (PySem.Calls.loadGlobal_builtin (env := supEnv qual s fI cda cc) (e0.mod.glob.keeps hk2) mgs (hmb.keeps hk2) ((hbt _ (by decide +kernel)).trans (by kernel_rfl)) ⟨rfl, ?_⟩)
  refine wpAny_loadName_free rfl rfl rfl ⟨_, K0 _ _ hcc, rfl⟩ ?_
  refine wpAny_loadName_local rfl rfl hn (by rfl) ?_
  refine ks_wpAny_isType_cls (K0 _ _ hC) rfl ⟨rfl, ?_⟩
  refine ks_wpAny_call_super (K0 _ _ hC) rfl hx rfl (fun c e => by cases e) (PySem.W.looks_mroIn K0 T.mro) (fun h1 e1 k1 => ?_)
  have K1 : K.In h1 := K0.keeps k1
  have sp := T.sup
  unfold PySem.W.ks_superIn at sp
  rw [hcl] at sp
  have x1 := k1 _ _ hx
  have Ix : PySem.W.InstAt h1 a (HandSPX.excO C t1) C none := ⟨x1, rfl, rfl, trivial⟩
  refine PySem.W.kxs_getMethod PySem.W.kxs_ValueError e1 (PySem.W.looks_opaque K1 T.tp) (fun A Q E s k q => wpAny_bind ((PySem.W.looks_clsIn K1 hcl) A _ E s k (wpAny_pure q))) rfl K1 sp (Ix.type.andThen (PySem.W.looks_subIn K1 T.ve)) neC (by decide) ?_
  have hu : (h1.push (PySem.W.kxs_mw "ValueError.__init__" a)).get? h1.objs.size = some (PySem.W.kxs_mw "ValueError.__init__" a) := Heap.get?_push_size _ rfl
  have k2 : ∀ b o, h0.get? b = some o → (h1.push (PySem.W.kxs_mw "ValueError.__init__" a)).get? b = some o := fun b o e => Heap.get?_push_of_some _ (k1 b o e)
  have J := I0.kept (t' := s.toks + 2 + 1) (h' := h1.push (PySem.W.kxs_mw "ValueError.__init__" a)) k2
  have PAx : PA (supX CX P w K mg base qual fI cda cc A outer s H E) [.Constant (.str text) 0 p3] (tCons (tC (.str text)) tNil) := pa_cons pe_str pa_nil
  have hs1 : s.heap.objs.size < h1.objs.size := by
    obtain ⟨o, es, ep, e2, _⟩ := hn
    exact Heap.lt_size (k1 _ _ e2)
  have hun : H h1.objs.size = none := by
    cases z : H h1.objs.size with
    | none => rfl
    | some o => exact absurd (Nat.lt_trans (e0.hok.lt z) hs1) (Nat.lt_irrefl _)
  have nfs : h1.objs.size ∉ (supX CX P w K mg base qual fI cda cc A outer s H E).fs := fun z => by
    obtain ⟨_, o, ho, _⟩ := I0.ok.funs.mem z
    exact absurd (Nat.lt_trans (Heap.lt_size ho) hs1) (Nat.lt_irrefl _)
  have Jp : L2.Inv (supX CX P w K mg base qual fI cda cc A outer s H E) [(h1.objs.size, PySem.W.kxs_mw "ValueError.__init__" a)] [some (.ref a), some (.int n)] H ⟨h1.push (PySem.W.kxs_mw "ValueError.__init__" a), s.gens, s.drawn, s.toks + 2 + 1, s.os⟩ := J.pins_of fun p hp => by
    have hp : p ∈ [(h1.objs.size, PySem.W.kxs_mw "ValueError.__init__" a)] := hp
    rw [List.mem_singleton.mp hp]
    exact ⟨hu, hun, fun z => absurd hs1 (by rw [show h1.objs.size = s.heap.objs.size from z]; exact Nat.lt_irrefl _), nfs, fun v z => by cases z⟩
  refine PySem.W.kxs_callWith (i := "ValueError.__init__") (x := a) rfl ?_
  refine PySem.Calls.evalArgs_plain ?_
  refine thn (wpAny_mono (PAx.run p4 _ _ _ _ (fun vs H' => vs = [.str text] ∧ H' = H) Jp (r_cons (r_c (r_nil ⟨rfl, rfl⟩)))) (fun _ _ z => z) fun _ _ z => z) fun us2 s2 hs2 => ?_
  obtain ⟨vs2, H2, J2, r2, rfl, rfl⟩ := hs2
  have u2 := (J2.pin _ (List.mem_append_right _ List.mem_cons_self)).1
  obtain ⟨t2, x2⟩ := exo_at J2.hok ha
  have K2 := J2.kIn
  refine ⟨u2, ?_⟩
  have hl : us2.length ≤ sizeLine := by rw [← r2.length]; show 1 ≤ sizeLine; decide
  show wpAny _ _ (call (.ref h1.objs.size) us2 []) _ _ _
  refine call_mw (K2 _ _ hC) x2 u2 hl fun h3 t3 k3 x3 => ?_
  have J3 := J2.write (t' := s2.toks) (x := a) (e := a) (o := exo a C none) (by rw [ha]; exact True.intro) (.inl rfl) k3 ⟨_, x3⟩ (exo_ok x3)
  have eu : upd H2 a (exo a C none) = H2 := by
    funext b
    by_cases hb : b = a
    · rw [hb, upd_same, ha]
    · rw [upd_ne hb]
  rw [eu] at J3
  refine PySem.wpAt_of_wpAny ?_
  have PSx : PSs (supX CX P w K mg base qual fI cda cc A outer s H2 E) [.Assign [.Attribute (.Name "self" p6) "number" p7] (.Name "number" p8) p9] (tOst K "number" (tVar 0) (tVar 1)) := pss_one (ps_ost (pv 0) (pv 1))
  refine wpAny_mono (PSx.run _ _ _ _ { nx := fun _ H' => Q .non H', rt := fun _ _ => False, bk := fun _ _ => False, ct := fun _ _ => False } (J3.pins_of (pins' := []) fun p hp => by cases hp) ?_) (fun fl s4 h4 => ?_) fun e s4 h4 => h4
  · refine r_var rfl (r_var rfl ?_)
    exact ⟨a, C, rfl, T.oex, hno, .inl ⟨ha, fun dx h d => fin dx h d⟩⟩
  · cases fl with
    | next =>
      obtain ⟨σ', H', J4, q⟩ := h4
      exact ⟨.non, H', J4.os, J4.bare, J4.base, J4.hok, rfl, q⟩
    | ret v => obtain ⟨_, _, _, _, _, q⟩ := h4; exact q.elim
    | brk => obtain ⟨_, _, _, q⟩ := h4; exact q.elim
    | cont => obtain ⟨_, _, _, q⟩ := h4; exact q.elim
end
/-! ### exceptions as values, their fields -/
def XdAt (H : Hp) (dd : Addr) (fs : List (Str × V)) : Prop := H dd = some (.xd fs) ∨ H dd = some (exd dd fs)
/-- at a: an exception of the class at D, its dict d -/
def ExV (H : Hp) (a D : Addr) (d : Option Addr) : Prop := (∃ φ : Heap → Prop, H a = some (.ext φ) ∧ ∀ h, φ h → ∃ (o : Obj) (vs : Array Value), h.get? a = some o ∧ Zc (.ref D) d o ∧ o.data = .fields vs) ∧ ∀ dd, d = some dd → ∃ fs, XdAt H dd fs
theorem XdAt.ex {H H' : Hp} {dd : Addr} {fs : List (Str × V)} (h : XdAt H dd fs) (e : Evl.Ex H H') : XdAt H' dd fs := h.imp (e _ _) (e _ _)
theorem ExV.ex {H H' : Hp} {a D : Addr} {d : Option Addr} (h : ExV H a D d) (e : Evl.Ex H H') : ExV H' a D d := by
  obtain ⟨⟨φ, h1, h2⟩, h3⟩ := h
  exact ⟨⟨φ, e _ _ h1, h2⟩, fun dd z => (h3 dd z).imp fun fs y => y.ex e⟩
theorem ExV.kept {H : Hp} {a D : Addr} {d : Option Addr} (e : H a = some (KeptO (.ref D) d a)) (hd : ∀ dd, d = some dd → ∃ fs, XdAt H dd fs) : ExV H a D d := ⟨⟨_, e, fun _ z => z⟩, hd⟩
theorem ExV.made {H : Hp} {a D : Addr} (e : H a = some (ExO (.ref D) a)) : ExV H a D none := ⟨⟨_, e, fun _ z => by obtain ⟨o, vs, h1, h2, h3, _⟩ := z; exact ⟨o, vs, h1, h2, h3⟩⟩, fun _ z => by cases z⟩
theorem ExV.exo {H : Hp} {a D dd : Addr} {fs : List (Str × V)} (e : H a = some (exo a D (some dd))) (ed : H dd = some (exd dd fs)) : ExV H a D (some dd) :=
  ⟨⟨_, e, fun _ z => by obtain ⟨t1, h1⟩ := z; exact ⟨_, _, h1, ⟨rfl, rfl⟩, rfl⟩⟩, fun _ z => by cases z; exact ⟨fs, .inr ed⟩⟩
theorem XdAt.ns {X : Cx} {pins : List (Addr × Obj)} {σ : L2.St} {H : Hp} {s : Shared} {dd : Addr} {fs : List (Str × V)} (I : Inv X pins σ H s) (h : XdAt H dd fs) : ∃ mA, s.heap.Ns1 dd mA ∧ ∀ f, RelO (fs.lookup f) (mA f) := by
  rcases h with h | h
  · exact I.hok dd _ h
  · exact exd_at I.hok h
theorem ExV.inst {X : Cx} {pins : List (Addr × Obj)} {σ : L2.St} {H : Hp} {s : Shared} {a D : Addr} {d : Option Addr} (I : Inv X pins σ H s) (h : ExV H a D d) : ∃ (o : Obj) (od : Option Obj), PySem.W.InstAt s.heap a o D od ∧ ∀ dd, d = some dd → ∃ ob, od = some ob ∧ s.heap.get? dd = some ob := by
  obtain ⟨⟨φ, ha, hφ⟩, hd⟩ := h
  obtain ⟨o, vs, hg, hz, hf⟩ := hφ _ (I.hok a _ ha).1
  have nc : PySem.W.notCls o = true := by unfold PySem.W.notCls; rw [hf] <;> rfl
  cases d with
  | none => exact ⟨o, none, ⟨hg, hz.1, nc, by rw [hz.2]; trivial⟩, fun dd z => by cases z⟩
  | some dd =>
    obtain ⟨fs, hx⟩ := hd dd rfl
    obtain ⟨mA, ⟨ob, es, ep, ho, _⟩, _⟩ := hx.ns I
    exact ⟨o, some ob, ⟨hg, hz.1, nc, by rw [hz.2]; exact ho⟩, fun d2 z => by cases z; exact ⟨ob, rfl, ho⟩⟩
/-- isinstance(x, c), x an exception that is told -/
def rIsX (K : PySem.W.Frag) : List V → Hp → VK → Prop := fun xs H Q => ∃ (a D : Addr) (d : Option Addr) (c : V) (cv : Value) (b : Bool), xs = [.ref a, c] ∧ ExV H a D d ∧ ExcC K D ∧ (∀ u, RelV c u → u = cv) ∧ PySem.W.kitOne K (.ref D) cv = some b ∧ Q (.bl b) H
theorem call_isX {X : Cx} : CallR X (.builtin "isinstance") (rIsX X.K) := by
  intro pins s σ H xs us Q I r h
  obtain ⟨a, D, d, c, cv, b, rfl, hx, C, hcv, e, q⟩ := h
  match us, r with
  | [_, _], .cons rx (.cons rt .nil) =>
    cases rx
    obtain rfl := hcv _ rt
    obtain ⟨o, od, J, _⟩ := hx.inst I
    exact PySem.W.kia_one (PySem.W.kitx_exc (by obtain ⟨cd, hc, _⟩ := PySem.W.any_some C.hd; rw [hc]; rfl) C.hg C.hk C.hs C.ha C.hn C.ht C.hm) I.kIn J e (fun z => nomatch z) fun tk => ⟨.bl b, H, I.kept (t' := tk) fun _ _ z => z, rfl, q⟩
theorem r_isX {K : PySem.W.Frag} {H : Hp} {Q : VK} {a D C : Addr} {d : Option Addr} {b : Bool} (h : ExV H a D d) (e : ExcC K D) (k : PySem.W.kitOne K (.ref D) (.ref C) = some b) (q : Q (.bl b) H) : rIsX K [.ref a, .ref C] H Q := ⟨a, D, d, _, _, b, rfl, h, e, fun _ r => r, k, q⟩
theorem r_isXV {K : PySem.W.Frag} {H : Hp} {Q : VK} {a D : Addr} {d : Option Addr} {b : Bool} {t : String} (h : ExV H a D d) (e : ExcC K D) (k : PySem.W.kitOne K (.ref D) (.type t) = some b) (q : Q (.bl b) H) : rIsX K [.ref a, .ty t] H Q := ⟨a, D, d, _, _, b, rfl, h, e, fun _ r => r, k, q⟩
/-- x.f, x an exception that is told -/
def tXfv (K : PySem.W.Frag) (f : Str) (te : TE) : TE := fun σ H Q => te σ H fun x H1 => ∃ (a D dd : Addr) (fs : List (Str × V)) (v : V), x = .ref a ∧ ExV H1 a D (some dd) ∧ ExcC K D ∧ PySem.W.findIn K (.ref D) f = some none ∧ XdAt H1 dd fs ∧ fs.lookup f = some v ∧ Q v H1
theorem pe_xfv {X : Cx} {e : Expr} {te : TE} {pos : Pos} {n : Str} (he : PE X e te) (hb : attributeBase e n X.env (eval e X.env) = eval e X.env := by rfl) : PE X (.Attribute e n pos) (tXfv X.K n te) := by
  refine ⟨fun pins s σ H Q I h => ?_⟩
  refine attr_of hb (thn (he.run pins s σ H _ I h) fun u s1 hh => ?_)
  obtain ⟨x, H1, I1, rx, a, D, dd, fs, v, ex, hx, C, hno, hd, l, q⟩ := hh
  subst ex
  obtain rfl : u = Value.ref a := rx
  obtain ⟨o, od, J, hod⟩ := hx.inst I1
  obtain ⟨ob, rfl, ho⟩ := hod dd rfl
  obtain ⟨mA, hns, hr⟩ := hd.ns I1
  obtain ⟨ob2, ho2, hl⟩ := lookIn_ns hns
  have e2 : ob2 = ob := Option.some.inj (ho2.symm.trans ho)
  subst e2
  obtain ⟨u, hu, ru⟩ := RelO.some_of (v := v) (o := mA n) (by rw [← l]; exact hr n)
  exact HandSPX.exc_get I1.kIn J C.hg C.hk C.hs (PySem.W.findObj_own C.hd hno rfl (by rw [hl, hu])) (handed_of ru) ⟨v, H1, I1.tok _, ru, q⟩
theorem r_xfv {K : PySem.W.Frag} {σ : L2.St} {H : Hp} {Q : VK} {f : Str} {te : TE} (h : te σ H fun x H1 => ∃ (a D dd : Addr) (fs : List (Str × V)) (v : V), x = .ref a ∧ ExV H1 a D (some dd) ∧ ExcC K D ∧ PySem.W.findIn K (.ref D) f = some none ∧ XdAt H1 dd fs ∧ fs.lookup f = some v ∧ Q v H1) : tXfv K f te σ H Q := h
/-- an exception that is made, as a value -/
theorem pe_of_mk {X : Cx} {e : Expr} {t : L2.St → Hp → XK → Prop} (h : PMk X e t) : PE X e (fun σ H Q => t σ H fun cls d H1 => ∀ a, H1 a = none → Q (.ref a) (upd H1 a (KeptO cls d a))) := by
  refine ⟨fun pins s σ H Q I hq => ?_⟩
  refine thn (h pins s σ H _ I hq) fun u s1 hu => ?_
  obtain ⟨a, oe, vs, sI, H1, cls, d, rfl, J, k, hne, ha, hz, hd, h1, na, os, ag, r, q⟩ := hu
  have ok : ObjOk X.prog X.w (upd H1 a (KeptO cls d a)) s1.heap a (KeptO cls d a) := ⟨⟨oe, vs, ha, hz, hd⟩, ⟨oe, ha⟩, fun _ _ ⟨o, v, q, r⟩ k => ⟨o, v, k o q, r⟩⟩
  exact ⟨.ref a, _, J.call' (ch := []) os (Un.laidN k hne na) (HOk.laidN J.hok k na ok) ag (fun b z => by cases z), rfl, q a na⟩
theorem r_mkN {C : Addr} {σ : L2.St} {H : Hp} {Q : XK} {ta : TA} (h : ta σ H fun vs H1 => ∃ n : Int, vs = [.int n] ∧ ∀ d, H1 d = none → Q (.ref C) (some d) (upd H1 d (.xd [("number", .int n)]))) (mono : ∀ {P P' : List V → Hp → Prop}, ta σ H P → (∀ vs H1, P vs H1 → P' vs H1) → ta σ H P') : tMkO C (SpSup C) [] ta σ H Q := by
  refine mono h fun vs H1 q => ?_
  obtain ⟨n, rfl, k⟩ := q
  refine ⟨(by show 1 ≤ 1000; omega), fun a ha => ⟨a, n, rfl, upd_same, fun dx hd ne => ⟨rfl, dx, _, upd_same, by rw [upd_ne ne]; exact upd_same, by rw [upd_ne ne] at hd; exact hd, ?_⟩⟩⟩
  have e : upd (del (upd (upd (upd H1 a (exo a C none)) dx (exd dx [("number", .int n)])) a (exo a C (some dx))) a) dx (.xd [("number", .int n)]) = upd H1 dx (.xd [("number", .int n)]) := by
    funext b
    by_cases hb : b = dx
    · rw [hb, upd_same, upd_same]
    · rw [upd_ne hb, upd_ne hb]
      by_cases hb2 : b = a
      · rw [hb2, del_same, ha]
      · rw [del_ne hb2, upd_ne hb2, upd_ne hb, upd_ne hb2]
  rw [e]
  rw [upd_ne ne] at hd
  exact k dx hd
theorem r_mkNV {C : Addr} {σ : L2.St} {H : Hp} {Q : XK} {i : Nat} {n : Int} (hv : σ[i]? = some (some (.int n))) (k : ∀ d, H d = none → Q (.ref C) (some d) (upd H d (.xd [("number", .int n)]))) : tMkO C (SpSup C) [] (tCons (tVar i) tNil) σ H Q :=
  r_mkN (r_cons (r_var hv (r_nil ⟨n, rfl, k⟩))) fun ⟨v, e, p⟩ q => ⟨v, e, q _ _ p⟩
/-! ### promises that may end in an exception -/
def SpX {α : Type} (A : α → List V → Hp → Prop) (B : α → V → List (Addr × Cel) → Hp → Prop) (R : α → Value → Option Addr → Hp → Prop) : Sp := fun vs H Q E => ∃ (x : α) (F : Hp), Evl.Ex F H ∧ A x vs F ∧
  (∀ (v : V) (N : List (Addr × Cel)) (F' H' : Hp), Sep [] H F F' H' N → B x v N F' → Q v H') ∧
  (∀ (c : Value) (d : Option Addr) (F' H' : Hp), Sep [] H F F' H' [] → R x c d F' → E c d H')
theorem r_callX {io : List Addr} {H0 F0 F H : Hp} {M : List (Addr × Cel)} {Q : VK} {E : XK} {α : Type} {A : α → List V → Hp → Prop} {B : α → V → List (Addr × Cel) → Hp → Prop} {R : α → Value → Option Addr → Hp → Prop} {vs : List V}
    (S : Sep io H0 F0 F H M) (x : α) (a : A x vs F) (k : ∀ v N F' H', Sep io H0 F0 F' H' (N ++ M) → Evl.Ex F F' → B x v N F' → Q v H')
    (kx : ∀ c d F' H', Sep io H0 F0 F' H' M → Evl.Ex F F' → R x c d F' → E c d H') : SpX A B R vs H Q E :=
  ⟨x, F, S.fr, a, fun v N F' H' S' b => k v N F' H' (S.comp S') S'.gr b, fun c d F' H' S' b => kx c d F' H' (S.comp S') S'.gr b⟩
/-- a callee that may raise, where it is known that it doesn't -/
theorem SpX.calm {α : Type} {A : α → List V → Hp → Prop} {B : α → V → List (Addr × Cel) → Hp → Prop} {R : α → Value → Option Addr → Hp → Prop} {vs : List V} {H : Hp} {Q : VK} {E : XK} {A' : α → List V → Hp → Prop}
    (h : SpF A' B vs H Q E) (hA : ∀ x vs F, A' x vs F → A x vs F ∧ ∀ c d F', ¬ R x c d F') : SpX A B R vs H Q E := by
  obtain ⟨x, F, fr, a, k⟩ := h
  obtain ⟨a1, a2⟩ := hA _ _ _ a
  exact ⟨x, F, fr, a1, k, fun c d F' H' _ r => absurd r (a2 c d F')⟩
/-! ### text * number -/
def strRep (z : Str) (n : Nat) : Str := ⟨(List.replicate n z.cps).foldl (· ++ ·) #[]⟩
theorem foldl_emp : ∀ (n : Nat) (a : Array Nat), (List.replicate n (#[] : Array Nat)).foldl (· ++ ·) a = a
  | 0, a => rfl
  | n + 1, a => by rw [List.replicate_succ, List.foldl_cons, Array.append_empty]; exact foldl_emp n a
theorem strRep_one (z : Str) : strRep z 1 = z := by
  obtain ⟨c⟩ := z
  simp [strRep]
theorem strRep_nil {z : Str} (h : z.length = 0) (n : Nat) : strRep z n = z := by
  obtain ⟨c⟩ := z
  have : c = #[] := Array.eq_empty_of_size_eq_zero h
  subst this
  exact congrArg Str.mk (foldl_emp n #[])
theorem foldl_size (c : Array Nat) : ∀ (n : Nat) (a : Array Nat), ((List.replicate n c).foldl (· ++ ·) a).size = a.size + n * c.size
  | 0, a => by simp
  | n + 1, a => by
    rw [List.replicate_succ, List.foldl_cons, foldl_size c n, Array.size_append, Nat.add_mul]
    omega
theorem strRep_len (z : Str) (n : Nat) : (strRep z n).length = n * z.length := by
  show ((List.replicate n z.cps).foldl (· ++ ·) #[]).size = n * z.cps.size
  rw [foldl_size]
  simp
def rMulS : R2 := fun x y H Q => ∃ (z : Str) (n : Int), x = .str z ∧ y = .int n ∧ 0 ≤ n ∧ n ≤ 100000 ∧ z.length ≤ 100000 ∧ z.length * n.toNat ≤ 1000000 ∧ Q (.str (strRep z n.toNat)) H
theorem op_mulS {X : Cx} : OpR X (binaryOp .Mult) rMulS := by
  intro pins s σ H x y v u Q I rx ry h
  obtain ⟨z, n, rfl, rfl, h0, h1, hz, hl, q⟩ := h
  obtain ⟨t, rfl⟩ := rx
  obtain ⟨t', rfl⟩ := ry
  refine P.mul_str (by rw [Bool.or_eq_false_iff]; exact ⟨decide_eq_false (by omega), decide_eq_false (by omega)⟩) (fun h2 _ => ?_) (fun _ _ => ?_) ?_
  · have : (100000 : Int) ≤ (2 ^ 63 - 1) / n := Int.le_ediv_of_mul_le (by omega) (by omega)
    omega
  · exact decide_eq_false (by rw [sizeLine_eq]; omega)
  · by_cases c0 : n < 1
    · rw [if_pos c0]
      have e0 : n = 0 := by omega
      subst e0
      exact ⟨by decide, .str (strRep z 0), H, I.tok _, ⟨_, rfl⟩, q⟩
    · rw [if_neg c0]
      by_cases c1 : (n == 1 || z.length == 0) = true
      · rw [if_pos c1]
        have e1 : strRep z n.toNat = z := by
          rcases Bool.or_eq_true_iff.mp c1 with c | c
          · rw [beq_iff_eq.mp c]; exact strRep_one z
          · exact strRep_nil (beq_iff_eq.mp c) _
        rw [e1] at q
        exact ⟨.str z, H, I.tok _, ⟨_, rfl⟩, q⟩
      · rw [if_neg c1]
        exact ⟨by show (strRep z n.toNat).length ≤ sizeLine; rw [strRep_len, Nat.mul_comm, sizeLine_eq]; omega, .str (strRep z n.toNat), H, I.tok _, ⟨_, rfl⟩, q⟩
theorem r_mulS {z : Str} {n : Int} {H : Hp} {Q : VK} (h0 : 0 ≤ n) (h1 : n ≤ 100000) (hz : z.length ≤ 100000) (hl : z.length * n.toNat ≤ 1000000) (q : Q (.str (strRep z n.toNat)) H) : rMulS (.str z) (.int n) H Q := ⟨z, n, rfl, rfl, h0, h1, hz, hl, q⟩
/-! ### a callee that may raise, where nothing that is raised may leave -/
theorem passN {X : Cx} : Passes (L2.CX X.prog X.w) X (fun _ _ _ => False) := fun _ _ _ _ _ _ _ h => by
  obtain ⟨_, _, _, _, _, _, _, _, _, _, _, _, z⟩ := h
  exact z.elim
def rReprI : List V → Hp → VK → Prop := fun xs H Q => ∃ i, xs = [.int i] ∧ i.natAbs.log2 < 1920 ∧ Q (.str (toString i)) H
theorem cr_reprI {X : Cx} : CallR X (.builtin "repr") rReprI := SkE.call_repr_int
theorem r_reprI {i : Int} {H : Hp} {Q : VK} (h : i.natAbs.log2 < 1920) (q : Q (.str (toString i)) H) : rReprI [.int i] H Q := ⟨i, rfl, h, q⟩
def newA (H : Hp) (o : Addr → HO) (Q : VK) : Prop := ∀ a, H a = none → Q (.ref a) (upd H a (o a))
def tExc1 (C : Addr) (ta : TE) : TE := fun σ H Q => ta σ H fun _ H1 => newA H1 (fun a => ExO (.ref C) a) Q
theorem pe_exc1N {X : Cx} {C : Addr} {bmB : List Value} {B newId initId : String} {x : Str} {e : Expr} {ta : TE} {p pos : Pos} (F : ExcBaseFacts B newId initId bmB) (q : PySem.W.excIn X.K C bmB newId = true) (gC : X.mg x = some (.ref C)) (kC : PySem.W.keepIn X.K (.ref C) = true) (hg : Gl X x) (he : PE X e ta)
    (hs : starEach [e] X.env = (false, eval e X.env) :: starEach [] X.env := by rfl) (hdb : (x == ("__debug__" : Str)) = false := by decide) : PE X (.Call (.Name x p) [e] [] pos) (tExc1 C ta) := pe_exc1 F q gC kC hg he hs hdb
theorem r_exc1 {C : Addr} {σ : L2.St} {H : Hp} {Q : VK} {ta : TE} (h : ta σ H fun _ H1 => newA H1 (fun a => ExO (.ref C) a) Q) : tExc1 C ta σ H Q := h
def tOfMk (t : L2.St → Hp → XK → Prop) : TE := fun σ H Q => t σ H fun cls d H1 => newA H1 (fun a => KeptO cls d a) Q
theorem pe_of_mkN {X : Cx} {e : Expr} {t : L2.St → Hp → XK → Prop} (h : PMk X e t) : PE X e (tOfMk t) := pe_of_mk h
theorem r_ofMk {t : L2.St → Hp → XK → Prop} {σ : L2.St} {H : Hp} {Q : VK} (h : t σ H fun cls d H1 => newA H1 (fun a => KeptO cls d a) Q) : tOfMk t σ H Q := h
section
variable {io : List Addr} {H0 F0 F H : Hp} {M : List (Addr × Cel)} {K : PySem.W.Frag} {Q : VK}
theorem s_newA {o : Addr → HO} (S : Sep io H0 F0 F H M) (k : ∀ p F' H', Sep io H0 F0 F' H' M → Evl.Ex F F' → F' p = some (o p) → Q (.ref p) H') : newA H o Q := fun a ha =>
  k a _ _ (S.newF ha (o a)) (Evl.Ex.new (S.fnone ha)) upd_same
theorem r_eqSameD {x y : V} {d : PyData} (h : Dp K H x d) (g : Dp K H y d) (sh : SeqAt.shaped d = true) (z : Q (.bl true) H) : rEqD K x y H Q := by
  refine ⟨d, d, h, g, sh, sh, ?_⟩
  rw [SeqAt.eqv_refl _ (SeqAt.canLay_of_shaped sh)]
  exact z
end
/-! ### fractions in lowest terms, of numbers of up to 8000 bits -/
def Big8 (i : Int) : Prop := i.natAbs < 2 ^ 8000
def gOf (f : Int × Int) : Int := ((Nat.gcd f.1.natAbs f.2.natAbs : Nat) : Int)
def lowF (f : Int × Int) : Int × Int := (f.1 / gOf f, f.2 / gOf f)
theorem gcd_step {a b : Int} (ha : 0 ≤ a) (hb : 0 < b) : Nat.gcd b.natAbs (a % b).natAbs = Nat.gcd a.natAbs b.natAbs := by
  obtain ⟨m, rfl⟩ := Int.eq_ofNat_of_zero_le ha
  obtain ⟨n, rfl⟩ := Int.eq_ofNat_of_zero_le (Int.le_of_lt hb)
  have e : ((m : Int) % (n : Int)).natAbs = m % n := by rw [← Int.natCast_emod]; rfl
  rw [e, Int.natAbs_natCast, Int.natAbs_natCast, Nat.gcd_comm m n, Nat.gcd_rec n m, Nat.gcd_comm]
theorem gOf_div {f : Int × Int} (h : 0 < f.2) (b : Big8 f.2) : 0 < gOf f ∧ (gOf f).natAbs.log2 < 9000 := by
  have p : 0 < f.2.natAbs := by omega
  have g1 : 0 < Nat.gcd f.1.natAbs f.2.natAbs := Nat.gcd_pos_of_pos_right _ p
  have g2 : Nat.gcd f.1.natAbs f.2.natAbs ≤ f.2.natAbs := Nat.gcd_le_right _ p
  unfold gOf Big8 at *
  refine ⟨by omega, ?_⟩
  rw [Int.natAbs_natCast]
  have h9 := PySem.Flt.log2_lt_of (by decide : 0 < 8000) (Nat.lt_of_le_of_lt g2 b)
  exact Nat.lt_trans h9 (by decide)
structure FrLow (f : Int × Int) : Prop where
  one : 0 ≤ f.1
  two : 0 < f.2
  cop : Nat.gcd f.1.natAbs f.2.natAbs = 1
theorem lowF_ok {f : Int × Int} (h1 : 0 ≤ f.1) (h2 : 0 < f.2) : FrLow (lowF f) := by
  obtain ⟨a, b⟩ := f
  obtain ⟨m, rfl⟩ := Int.eq_ofNat_of_zero_le h1
  obtain ⟨n, rfl⟩ := Int.eq_ofNat_of_zero_le (Int.le_of_lt h2)
  have np : 0 < n := by simp only at h2; omega
  have gp : 0 < Nat.gcd m n := Nat.gcd_pos_of_pos_right m np
  have gl : Nat.gcd m n ≤ n := Nat.gcd_le_right m np
  have e1 : (m : Int) / ((Nat.gcd m n : Nat) : Int) = ((m / Nat.gcd m n : Nat) : Int) := (Int.natCast_ediv _ _).symm
  have e2 : (n : Int) / ((Nat.gcd m n : Nat) : Int) = ((n / Nat.gcd m n : Nat) : Int) := (Int.natCast_ediv _ _).symm
  have p2 : 0 < n / Nat.gcd m n := Nat.div_pos gl gp
  unfold lowF gOf
  simp only [Int.natAbs_natCast]
  rw [e1, e2]
  exact ⟨Int.natCast_nonneg _, by show 0 < ((n / Nat.gcd m n : Nat) : Int); omega, Nat.gcd_div_gcd_div_gcd_of_pos_right np⟩
theorem walk_perm {L : List (List Nat)} : Walk (ItPm L) L.length (fun _ => True) (fun i H v H' => ∃ T o, v = .ref T ∧ H T = none ∧ L[i]? = some o ∧ H' = upd H T (.tup (o.map fun (x : Nat) => V.int (x : Int)))) :=
  ⟨fun i H hi _ => hi, fun H _ => rfl, fun i H v H' hi _ y => y⟩
theorem srcPm {io : List Addr} {H0 F0 F : Hp} {L : List (List Nat)} : Src (ItPm L) io H0 F0 F [] L (fun o v F' => ∃ t, v = .ref t ∧ F' t = some (.tup (o.map fun (x : Nat) => V.int (x : Int)))) := by
  refine ⟨_, _, walk_perm, fun F' H' M' S e _ => trivial, fun i a v F' H' H'' M' ha S e _ y => ?_⟩
  obtain ⟨T, o, rfl, hT, h1, rfl⟩ := y
  rw [h1] at ha
  cases ha
  exact ⟨_, S.newF hT _, Evl.Ex.new (S.fnone hT), T, rfl, upd_same⟩
theorem r_iPerm {f : L2.St → Hp → (Int → Int → Hp → Prop) → Prop} {σ : L2.St} {H : Hp} {R : It → Hp → Prop} (h : f σ H fun a b H1 => RgOk a b ∧ a = 0 ∧ b ≤ 50 ∧ ∃ np L, SeqP np b.toNat L ∧ R (ItPm L) H1) : iPerm f σ H R := h
theorem r_iSeq {K : PySem.W.Frag} {te : TE} {σ : L2.St} {H : Hp} {R : It → Hp → Prop} (h : te σ H fun x H1 => ∃ a, x = .ref a ∧ (((∃ xs, SqL K H1 a xs) ∧ R (Itl K a) H1) ∨ ((∃ xs, SqT K H1 a xs) ∧ R (Itt K a) H1))) : iSeq K te σ H R := h
/-- a list or a tuple -/
def SqE (K : PySem.W.Frag) (F : Hp) (a : Addr) (xs : List V) : Prop := SqL K F a xs ∨ SqT K F a xs
theorem exE {K : PySem.W.Frag} {F F' : Hp} {a : Addr} {xs : List V} (e : Evl.Ex F F') (h : SqE K F a xs) : SqE K F' a xs := h.imp (Evl.ex_l e) (Evl.ex_t e)
theorem srcIT {K : PySem.W.Frag} {io : List Addr} {H0 F0 F : Hp} {b : Addr} {ns : List Int} (h : SqT K F b (ns.map V.int)) : Src (Itt K b) io H0 F0 F [] ns (fun a x _ => x = .int a) := (srcVT h).map
theorem forSeq {K : PySem.W.Frag} {io : List Addr} {H0 F0 F H : Hp} {M : List (Addr × Cel)} {u : Addr} {ns : List Int} {R : It → Hp → Prop} (S : Sep io H0 F0 F H M) (h : SqE K F u (ns.map V.int)) (k : ∀ J, Src J io H0 F0 F [] ns (fun a x _ => x = .int a) → R J H) :
    ((∃ xs, SqL K H u xs) ∧ R (Itl K u) H) ∨ ((∃ xs, SqT K H u xs) ∧ R (Itt K u) H) := by
  rcases h with h | h
  · exact .inl ⟨⟨_, Evl.ex_l S.fr h⟩, k _ (srcI h)⟩
  · exact .inr ⟨⟨_, Evl.ex_t S.fr h⟩, k _ (srcIT h)⟩
theorem forSeqW {K : PySem.W.Frag} {io : List Addr} {H0 F0 F H : Hp} {M : List (Addr × Cel)} {u : Addr} {ns : List Int} {g : TG} {tb : TS} {D : Ends} {σ : L2.St} (S : Sep io H0 F0 F H M) (h : SqE K F u (ns.map V.int)) (k : ∀ J, Src J io H0 F0 F [] ns (fun a x _ => x = .int a) → ForW J D g tb σ H) :
    ((∃ xs, SqL K H u xs) ∧ ForW (Itl K u) D g tb σ H) ∨ ((∃ xs, SqT K H u xs) ∧ ForW (Itt K u) D g tb σ H) := forSeq (R := fun J H => ForW J D g tb σ H) S h k
def natI (l : List Nat) : List Int := l.map fun x : Nat => (x : Int)
def ordN (o : List Nat) : List Int := natI (invO o)
def lawI (n : Nat) : List (List Int) := (lawP n).map natI
theorem natI_range (n : Int) : natI (List.range n.toNat) = rgI n := rfl
theorem nm_ord {o : List Nat} (hn : o.Nodup) {i : Nat} (hi : i < o.length) (hl : ∀ x ∈ o, x < o.length) : nmAt (ordN o) ((o[i] : Nat) : Int) = (i : Int) := by
  have h1 := hl o[i] (List.getElem_mem hi)
  unfold nmAt ordN natI invO
  rw [Int.toNat_natCast, List.getD_eq_getElem?_getD, List.map_map, List.getElem?_map, List.getElem?_range h1]
  show ((o.findIdx (· == o[i]) : Nat) : Int) = _
  rw [invO_get hn hi]
theorem ord_ok {n : Int} {o : List Nat} (hp : o.Perm (List.range n.toNat)) : (natI o).Perm (rgI n) ∧ NamesOk n (ordN o) ∧ (natI o).Pairwise (fun a b => nmAt (ordN o) a < nmAt (ordN o) b) := by
  have hn : o.Nodup := hp.nodup_iff.mpr List.nodup_range
  have hl : o.length = n.toNat := by rw [hp.length_eq, List.length_range]
  have hx : ∀ x ∈ o, x < o.length := fun x m => by rw [hl]; exact List.mem_range.mp (hp.mem_iff.mp m)
  refine ⟨hp.map _, ⟨by unfold ordN natI; rw [List.length_map, invO_len, hl], ?_⟩, ?_⟩
  · unfold ordN natI invO
    rw [List.map_map]
    refine List.pairwise_map.mpr (List.Pairwise.imp_of_mem ?_ List.nodup_range)
    intro a b ma mb ne e
    have ma : a ∈ o := hp.mem_iff.mpr (by rw [← hl]; exact ma)
    have mb : b ∈ o := hp.mem_iff.mpr (by rw [← hl]; exact mb)
    obtain ⟨i, hi, rfl⟩ := List.getElem_of_mem ma
    obtain ⟨j, hj, rfl⟩ := List.getElem_of_mem mb
    have e : ((o.findIdx (· == o[i]) : Nat) : Int) = ((o.findIdx (· == o[j]) : Nat) : Int) := e
    rw [invO_get hn hi, invO_get hn hj] at e
    have : i = j := by omega
    subst this
    exact ne rfl
  · unfold natI
    refine List.pairwise_map.mpr (List.pairwise_iff_getElem.mpr fun i j hi hj h => ?_)
    rw [nm_ord hn hi hx, nm_ord hn hj hx]
    omega
theorem orders_all : ∃ np : NP, ∀ many : Int, 1 ≤ many → many ≤ 6 → ∃ L, SeqP np many.toNat L ∧ (∀ o ∈ L, o.Perm (List.range many.toNat)) ∧ (L.map ordN).Perm (lawI many.toNat) := by
  obtain ⟨np, h⟩ := orders_nat
  refine ⟨np, fun many h1 h6 => ?_⟩
  obtain ⟨L, a, b, c⟩ := h many.toNat (by omega) (by omega)
  refine ⟨L, a, b, ?_⟩
  have := c.map natI
  rw [List.map_map] at this
  exact this
theorem lawI_len {n : Nat} {r : List Int} (h : r ∈ lawI n) : r.length = n := by
  obtain ⟨a, h1, rfl⟩ := List.mem_map.mp h
  unfold natI
  rw [List.length_map]
  exact lawP_len n a h1
theorem lawP_num (n : Nat) : (lawP (n + 1)).length = (n + 1) * (lawP n).length := by
  rw [lawP, List.length_flatMap]
  have e : ((lawP n).map fun row => ((List.range (row.length + 1)).map fun i => (row.take i ++ [n]) ++ row.drop i).length) = (lawP n).map fun _ => n + 1 := List.map_congr_left fun r hr => by
    rw [List.length_map, List.length_range, lawP_len n r hr]
  rw [e, List.map_const', List.sum_replicate_nat, Nat.mul_comm]
theorem lawI_num {n : Nat} (h : n ≤ 6) : 1 ≤ (lawI n).length ∧ (lawI n).length ≤ 720 := by
  unfold lawI
  rw [List.length_map]
  have h0 : (lawP 0).length = 1 := rfl
  have h1 := lawP_num 0
  have h2 := lawP_num 1
  have h3 := lawP_num 2
  have h4 := lawP_num 3
  have h5 := lawP_num 4
  have h6 := lawP_num 5
  simp only [Nat.zero_add, Nat.reduceAdd] at h1 h2 h3 h4 h5 h6
  have : n = 0 ∨ n = 1 ∨ n = 2 ∨ n = 3 ∨ n = 4 ∨ n = 5 ∨ n = 6 := by omega
  rcases this with rfl | rfl | rfl | rfl | rfl | rfl | rfl <;> omega
theorem lawI_ok {n : Int} (h1 : 1 ≤ n) (h6 : n ≤ 6) {r : List Int} (h : r ∈ lawI n.toNat) : NamesOk n r := by
  obtain ⟨np, H⟩ := orders_all
  obtain ⟨L, _, b, c⟩ := H n h1 h6
  obtain ⟨o, ho, rfl⟩ := List.mem_map.mp (c.mem_iff.mpr h)
  exact (ord_ok (b o ho)).2.1
theorem ordN_perm {n : Int} {o : List Nat} (hp : o.Perm (List.range n.toNat)) : (ordN o).Perm (rgI n) := by
  obtain ⟨a1, a2, a3⟩ := ord_ok hp
  have hn : o.Nodup := hp.nodup_iff.mpr List.nodup_range
  have hl : o.length = n.toNat := by rw [hp.length_eq, List.length_range]
  have hx : ∀ x ∈ o, x < o.length := fun x m => by rw [hl]; exact List.mem_range.mp (hp.mem_iff.mp m)
  have e : (natI o).map (nmAt (ordN o)) = rgI n := by
    refine List.ext_getElem? fun i => ?_
    by_cases hi : i < o.length
    · rw [List.getElem?_map, rgI_get (by omega)]
      unfold natI
      rw [List.getElem?_map, List.getElem?_eq_getElem hi]
      show some (nmAt (ordN o) ((o[i] : Nat) : Int)) = _
      rw [nm_ord hn hi hx]
    · rw [List.getElem?_eq_none (by unfold natI; rw [List.length_map, List.length_map]; omega), List.getElem?_eq_none (by rw [rgI_len]; omega)]
  have e2 : (rgI n).map (nmAt (ordN o)) = ordN o := by
    refine List.ext_getElem? fun i => ?_
    by_cases hi : i < n.toNat
    · rw [List.getElem?_map, rgI_get (by omega)]
      show some (nmAt (ordN o) (i : Int)) = _
      unfold nmAt
      rw [Int.toNat_natCast, List.getD_eq_getElem?_getD, List.getElem?_eq_getElem (by rw [a2.len]; exact hi)]
      rfl
    · rw [List.getElem?_eq_none (by rw [List.length_map, rgI_len]; omega), List.getElem?_eq_none (by rw [a2.len]; omega)]
  have := a1.map (nmAt (ordN o))
  rw [e, e2] at this
  exact this.symm
theorem lawI_perm {n : Int} (h1 : 1 ≤ n) (h6 : n ≤ 6) {r : List Int} (h : r ∈ lawI n.toNat) : r.Perm (rgI n) := by
  obtain ⟨np, H⟩ := orders_all
  obtain ⟨L, _, b, c⟩ := H n h1 h6
  obtain ⟨o, ho, rfl⟩ := List.mem_map.mp (c.mem_iff.mpr h)
  exact ordN_perm (b o ho)
theorem lawI_succ (n : Nat) : lawI (n + 1) = (lawI n).flatMap fun row => (rgI ((row.length : Int) + 1)).map fun i => (row.take i.toNat ++ [(n : Int)]) ++ row.drop i.toNat := by
  unfold lawI
  rw [lawP, List.map_flatMap, List.flatMap_map]
  refine congrArg (fun f => List.flatMap f (lawP n)) (funext fun row => ?_)
  unfold rgI natI
  rw [List.map_map, List.map_map, List.length_map, show ((row.length : Int) + 1).toNat = row.length + 1 by omega]
  refine List.map_congr_left fun i _ => ?_
  simp
theorem sum_leO {α : Type} (f : α → Nat) (k : Nat) : ∀ xs : List α, (∀ x ∈ xs, f x ≤ k) → (xs.map f).sum ≤ xs.length * k
  | [], _ => by simp
  | x :: r, h => by
    have ih := sum_leO f k r fun y m => h y (List.mem_cons_of_mem _ m)
    have := h x List.mem_cons_self
    rw [List.map_cons, List.sum_cons, List.length_cons, Nat.add_mul]
    omega
def P : Program := PySem.Challenge.pw_fullapart_k42_whole_over_all_orders
def topS (i : Nat) : Stmt := PySem.Challenge.pw_fullapart_k42_whole_over_all_orders.main.body.getD i (.Pass ⟨0, 0, 0, 0⟩)
abbrev s_fraction_of : Stmt := topS 3
abbrev s_is_whole : Stmt := topS 15
abbrev s_neighbours : Stmt := topS 16
abbrev s_refuse_no_house : Stmt := topS 17
abbrev s_tied_to : Stmt := topS 18
abbrev s_refuse_alike : Stmt := topS 20
abbrev s_latest_of : Stmt := topS 21
abbrev s_row_by : Stmt := topS 22
abbrev s_rows_along : Stmt := topS 23
abbrev s_rounds_by : Stmt := topS 24
abbrev s_latest_by : Stmt := topS 25
abbrev s_rows_of_orders : Stmt := topS 27
abbrev s_mean_of : Stmt := topS 28
abbrev s_gone_first : Stmt := topS 29
abbrev s_chance_in : Stmt := topS 30
abbrev s_mean_size : Stmt := topS 31
abbrev s_mean_latest : Stmt := topS 32
abbrev s_mean_gone : Stmt := topS 33
abbrev s_names_along : Stmt := topS 34
abbrev s_most_latest : Stmt := topS 35
abbrev s__law_blend : Stmt := topS 37
abbrev s__law_pot : Stmt := topS 38
abbrev s__law_pick : Stmt := topS 39
abbrev s__law_web : Stmt := topS 40
abbrev s__law_kind : Stmt := topS 41
abbrev s__law_lowest : Stmt := topS 42
abbrev s__law_added : Stmt := topS 43
abbrev s__law_at_most : Stmt := topS 44
abbrev s__law_places : Stmt := topS 45
abbrev s__law_refused : Stmt := topS 46
abbrev s__law_same_turned : Stmt := topS 47
abbrev s_law : Stmt := topS 48
theorem sc_fraction_of : FnScope ["over", "under", "common"] ["over", "under"] (defScope s_fraction_of) := ⟨rfl, rfl, rfl, by decide +kernel, rfl, by decide +kernel, by decide +kernel⟩
theorem sc_is_whole : FnScope ["thing"] ["thing"] (defScope s_is_whole) := ⟨rfl, rfl, rfl, by decide +kernel, rfl, by decide +kernel, by decide +kernel⟩
theorem sc_neighbours : FnScope ["web", "many", "ties", "near", "one", "other", "_"] ["web"] (defScope s_neighbours) := ⟨rfl, rfl, rfl, by decide +kernel, rfl, by decide +kernel, by decide +kernel⟩
theorem sc_refuse_no_house : FnScope ["web", "house"] ["web", "house"] (defScope s_refuse_no_house) := ⟨rfl, rfl, rfl, by decide +kernel, rfl, by decide +kernel, by decide +kernel⟩
theorem sc_tied_to : FnScope ["web", "house"] ["web", "house"] (defScope s_tied_to) := ⟨rfl, rfl, rfl, by decide +kernel, rfl, by decide +kernel, by decide +kernel⟩
theorem sc_refuse_alike : FnScope ["names", "ahead", "house", "name"] ["names"] (defScope s_refuse_alike) := ⟨rfl, rfl, rfl, by decide +kernel, rfl, by decide +kernel, by decide +kernel⟩
theorem sc_latest_of : FnScope ["rows", "_", "number"] ["rows"] (defScope s_latest_of) := ⟨rfl, rfl, rfl, by decide +kernel, rfl, by decide +kernel, by decide +kernel⟩
theorem sc_row_by : FnScope ["rows", "chosen_in", "chosen", "number"] ["rows"] (defScope s_row_by) := ⟨rfl, rfl, rfl, by decide +kernel, rfl, by decide +kernel, by decide +kernel⟩
theorem sc_rows_along : FnScope ["near", "order", "rows", "house", "ahead", "other", "row"] ["near", "order"] (defScope s_rows_along) := ⟨rfl, rfl, rfl, by decide +kernel, rfl, by decide +kernel, by decide +kernel⟩
theorem sc_rounds_by : FnScope ["web", "names", "by_names", "house", "_"] ["web", "names"] (defScope s_rounds_by) := ⟨rfl, rfl, rfl, by decide +kernel, rfl, by decide +kernel, by decide +kernel⟩
theorem sc_latest_by : FnScope ["web", "names"] ["web", "names"] (defScope s_latest_by) := ⟨rfl, rfl, rfl, by decide +kernel, rfl, by decide +kernel, by decide +kernel⟩
theorem sc_rows_of_orders : FnScope ["web", "near", "order"] ["web"] (defScope s_rows_of_orders) := ⟨rfl, rfl, rfl, by decide +kernel, rfl, by decide +kernel, by decide +kernel⟩
theorem sc_mean_of : FnScope ["numbers"] ["numbers"] (defScope s_mean_of) := ⟨rfl, rfl, rfl, by decide +kernel, rfl, by decide +kernel, by decide +kernel⟩
theorem sc_gone_first : FnScope ["web", "rows", "first", "_", "number", "one", "other"] ["web", "rows"] (defScope s_gone_first) := ⟨rfl, rfl, rfl, by decide +kernel, rfl, by decide +kernel, by decide +kernel⟩
theorem sc_chance_in : FnScope ["web", "house", "rows"] ["web", "house"] (defScope s_chance_in) := ⟨rfl, rfl, rfl, by decide +kernel, rfl, by decide +kernel, by decide +kernel⟩
theorem sc_mean_size : FnScope ["web", "rows", "row"] ["web"] (defScope s_mean_size) := ⟨rfl, rfl, rfl, by decide +kernel, rfl, by decide +kernel, by decide +kernel⟩
theorem sc_mean_latest : FnScope ["web", "rows"] ["web"] (defScope s_mean_latest) := ⟨rfl, rfl, rfl, by decide +kernel, rfl, by decide +kernel, by decide +kernel⟩
theorem sc_mean_gone : FnScope ["web", "rows"] ["web"] (defScope s_mean_gone) := ⟨rfl, rfl, rfl, by decide +kernel, rfl, by decide +kernel, by decide +kernel⟩
theorem sc_names_along : FnScope ["order", "names", "name", "house"] ["order"] (defScope s_names_along) := ⟨rfl, rfl, rfl, by decide +kernel, rfl, by decide +kernel, by decide +kernel⟩
theorem sc_most_latest : FnScope ["web", "near", "most", "slowest", "order", "number"] ["web"] (defScope s_most_latest) := ⟨rfl, rfl, rfl, by decide +kernel, rfl, by decide +kernel, by decide +kernel⟩
theorem sc__law_blend : FnScope ["cell", "at", "one", "two", "three"] ["cell", "at"] (defScope s__law_blend) := ⟨rfl, rfl, rfl, by decide +kernel, rfl, by decide +kernel, by decide +kernel⟩
theorem sc__law_pot : FnScope ["script", "cells", "k", "cell"] ["script"] (defScope s__law_pot) := ⟨rfl, rfl, rfl, by decide +kernel, rfl, by decide +kernel, by decide +kernel⟩
theorem sc__law_pick : FnScope ["pot", "upto", "at", "cell", "found"] ["pot", "upto"] (defScope s__law_pick) := ⟨rfl, rfl, rfl, by decide +kernel, rfl, by decide +kernel, by decide +kernel⟩
theorem sc__law_web : FnScope ["pot", "most", "many", "way", "share", "order", "places", "ties", "one", "other", "here", "there", "drawn", "k"] ["pot", "most"] (defScope s__law_web) := ⟨rfl, rfl, rfl, by decide +kernel, rfl, by decide +kernel, by decide +kernel⟩
theorem sc__law_kind : FnScope ["caught", "some"] ["caught"] (defScope s__law_kind) := ⟨rfl, rfl, rfl, by decide +kernel, rfl, by decide +kernel, by decide +kernel⟩
theorem sc__law_lowest : FnScope ["over", "under", "one", "other"] ["over", "under"] (defScope s__law_lowest) := ⟨rfl, rfl, rfl, by decide +kernel, rfl, by decide +kernel, by decide +kernel⟩
theorem sc__law_added : FnScope ["fractions", "over", "under", "one"] ["fractions"] (defScope s__law_added) := ⟨rfl, rfl, rfl, by decide +kernel, rfl, by decide +kernel, by decide +kernel⟩
theorem sc__law_at_most : FnScope ["one", "other"] ["one", "other"] (defScope s__law_at_most) := ⟨rfl, rfl, rfl, by decide +kernel, rfl, by decide +kernel, by decide +kernel⟩
theorem sc__law_places : FnScope ["pot", "many", "order", "k"] ["pot", "many"] (defScope s__law_places) := ⟨rfl, rfl, rfl, by decide +kernel, rfl, by decide +kernel, by decide +kernel⟩
theorem sc__law_refused : FnScope ["web", "house", "caught", "e"] ["web", "house"] (defScope s__law_refused) := ⟨rfl, rfl, rfl, by decide +kernel, rfl, by decide +kernel, by decide +kernel⟩
theorem sc__law_same_turned : FnScope ["web", "places", "ties", "other", "house", "a", "b"] ["web", "places"] (defScope s__law_same_turned) := ⟨rfl, rfl, rfl, by decide +kernel, rfl, by decide +kernel, by decide +kernel⟩
theorem sc_law : FnScope ["script", "pot", "turn", "web", "chances", "house", "size", "most", "names", "wide", "far"] ["script"] (defScope s_law) := ⟨rfl, rfl, rfl, by decide +kernel, rfl, by decide +kernel, by decide +kernel⟩
structure Env (K : PySem.W.Frag) (mg : Str → Option Value) where
  a_fraction_of : Addr
  fd_fraction_of : FuncData
  F_fraction_of : Fun K "fraction_of" "fraction_of" s_fraction_of a_fraction_of fd_fraction_of
  b_fraction_of : Binds K fd_fraction_of ["over", "under"] []
  g_fraction_of : mg "fraction_of" = some (.ref a_fraction_of)
  a_is_whole : Addr
  fd_is_whole : FuncData
  F_is_whole : Fun K "is_whole" "is_whole" s_is_whole a_is_whole fd_is_whole
  b_is_whole : Binds K fd_is_whole ["thing"] []
  g_is_whole : mg "is_whole" = some (.ref a_is_whole)
  a_neighbours : Addr
  fd_neighbours : FuncData
  F_neighbours : Fun K "neighbours" "neighbours" s_neighbours a_neighbours fd_neighbours
  b_neighbours : Binds K fd_neighbours ["web"] []
  g_neighbours : mg "neighbours" = some (.ref a_neighbours)
  a_refuse_no_house : Addr
  fd_refuse_no_house : FuncData
  F_refuse_no_house : Fun K "refuse_no_house" "refuse_no_house" s_refuse_no_house a_refuse_no_house fd_refuse_no_house
  b_refuse_no_house : Binds K fd_refuse_no_house ["web", "house"] []
  g_refuse_no_house : mg "refuse_no_house" = some (.ref a_refuse_no_house)
  a_tied_to : Addr
  fd_tied_to : FuncData
  F_tied_to : Fun K "tied_to" "tied_to" s_tied_to a_tied_to fd_tied_to
  b_tied_to : Binds K fd_tied_to ["web", "house"] []
  g_tied_to : mg "tied_to" = some (.ref a_tied_to)
  a_refuse_alike : Addr
  fd_refuse_alike : FuncData
  F_refuse_alike : Fun K "refuse_alike" "refuse_alike" s_refuse_alike a_refuse_alike fd_refuse_alike
  b_refuse_alike : Binds K fd_refuse_alike ["names"] []
  g_refuse_alike : mg "refuse_alike" = some (.ref a_refuse_alike)
  a_latest_of : Addr
  fd_latest_of : FuncData
  F_latest_of : Fun K "latest_of" "latest_of" s_latest_of a_latest_of fd_latest_of
  b_latest_of : Binds K fd_latest_of ["rows"] []
  g_latest_of : mg "latest_of" = some (.ref a_latest_of)
  a_row_by : Addr
  fd_row_by : FuncData
  F_row_by : Fun K "row_by" "row_by" s_row_by a_row_by fd_row_by
  b_row_by : Binds K fd_row_by ["rows"] []
  g_row_by : mg "row_by" = some (.ref a_row_by)
  a_rows_along : Addr
  fd_rows_along : FuncData
  F_rows_along : Fun K "rows_along" "rows_along" s_rows_along a_rows_along fd_rows_along
  b_rows_along : Binds K fd_rows_along ["near", "order"] []
  g_rows_along : mg "rows_along" = some (.ref a_rows_along)
  a_rounds_by : Addr
  fd_rounds_by : FuncData
  F_rounds_by : Fun K "rounds_by" "rounds_by" s_rounds_by a_rounds_by fd_rounds_by
  b_rounds_by : Binds K fd_rounds_by ["web", "names"] []
  g_rounds_by : mg "rounds_by" = some (.ref a_rounds_by)
  a_latest_by : Addr
  fd_latest_by : FuncData
  F_latest_by : Fun K "latest_by" "latest_by" s_latest_by a_latest_by fd_latest_by
  b_latest_by : Binds K fd_latest_by ["web", "names"] []
  g_latest_by : mg "latest_by" = some (.ref a_latest_by)
  a_rows_of_orders : Addr
  fd_rows_of_orders : FuncData
  F_rows_of_orders : Fun K "rows_of_orders" "rows_of_orders" s_rows_of_orders a_rows_of_orders fd_rows_of_orders
  b_rows_of_orders : Binds K fd_rows_of_orders ["web"] []
  g_rows_of_orders : mg "rows_of_orders" = some (.ref a_rows_of_orders)
  a_mean_of : Addr
  fd_mean_of : FuncData
  F_mean_of : Fun K "mean_of" "mean_of" s_mean_of a_mean_of fd_mean_of
  b_mean_of : Binds K fd_mean_of ["numbers"] []
  g_mean_of : mg "mean_of" = some (.ref a_mean_of)
  a_gone_first : Addr
  fd_gone_first : FuncData
  F_gone_first : Fun K "gone_first" "gone_first" s_gone_first a_gone_first fd_gone_first
  b_gone_first : Binds K fd_gone_first ["web", "rows"] []
  g_gone_first : mg "gone_first" = some (.ref a_gone_first)
  a_chance_in : Addr
  fd_chance_in : FuncData
  F_chance_in : Fun K "chance_in" "chance_in" s_chance_in a_chance_in fd_chance_in
  b_chance_in : Binds K fd_chance_in ["web", "house"] []
  g_chance_in : mg "chance_in" = some (.ref a_chance_in)
  a_mean_size : Addr
  fd_mean_size : FuncData
  F_mean_size : Fun K "mean_size" "mean_size" s_mean_size a_mean_size fd_mean_size
  b_mean_size : Binds K fd_mean_size ["web"] []
  g_mean_size : mg "mean_size" = some (.ref a_mean_size)
  a_mean_latest : Addr
  fd_mean_latest : FuncData
  F_mean_latest : Fun K "mean_latest" "mean_latest" s_mean_latest a_mean_latest fd_mean_latest
  b_mean_latest : Binds K fd_mean_latest ["web"] []
  g_mean_latest : mg "mean_latest" = some (.ref a_mean_latest)
  a_mean_gone : Addr
  fd_mean_gone : FuncData
  F_mean_gone : Fun K "mean_gone" "mean_gone" s_mean_gone a_mean_gone fd_mean_gone
  b_mean_gone : Binds K fd_mean_gone ["web"] []
  g_mean_gone : mg "mean_gone" = some (.ref a_mean_gone)
  a_names_along : Addr
  fd_names_along : FuncData
  F_names_along : Fun K "names_along" "names_along" s_names_along a_names_along fd_names_along
  b_names_along : Binds K fd_names_along ["order"] []
  g_names_along : mg "names_along" = some (.ref a_names_along)
  a_most_latest : Addr
  fd_most_latest : FuncData
  F_most_latest : Fun K "most_latest" "most_latest" s_most_latest a_most_latest fd_most_latest
  b_most_latest : Binds K fd_most_latest ["web"] []
  g_most_latest : mg "most_latest" = some (.ref a_most_latest)
  a__law_blend : Addr
  fd__law_blend : FuncData
  F__law_blend : Fun K "_law_blend" "_law_blend" s__law_blend a__law_blend fd__law_blend
  b__law_blend : Binds K fd__law_blend ["cell", "at"] []
  g__law_blend : mg "_law_blend" = some (.ref a__law_blend)
  a__law_pot : Addr
  fd__law_pot : FuncData
  F__law_pot : Fun K "_law_pot" "_law_pot" s__law_pot a__law_pot fd__law_pot
  b__law_pot : Binds K fd__law_pot ["script"] []
  g__law_pot : mg "_law_pot" = some (.ref a__law_pot)
  a__law_pick : Addr
  fd__law_pick : FuncData
  F__law_pick : Fun K "_law_pick" "_law_pick" s__law_pick a__law_pick fd__law_pick
  b__law_pick : Binds K fd__law_pick ["pot", "upto"] []
  g__law_pick : mg "_law_pick" = some (.ref a__law_pick)
  a__law_web : Addr
  fd__law_web : FuncData
  F__law_web : Fun K "_law_web" "_law_web" s__law_web a__law_web fd__law_web
  b__law_web : Binds K fd__law_web ["pot", "most"] []
  g__law_web : mg "_law_web" = some (.ref a__law_web)
  a__law_kind : Addr
  fd__law_kind : FuncData
  F__law_kind : Fun K "_law_kind" "_law_kind" s__law_kind a__law_kind fd__law_kind
  b__law_kind : Binds K fd__law_kind ["caught"] []
  g__law_kind : mg "_law_kind" = some (.ref a__law_kind)
  a__law_lowest : Addr
  fd__law_lowest : FuncData
  F__law_lowest : Fun K "_law_lowest" "_law_lowest" s__law_lowest a__law_lowest fd__law_lowest
  b__law_lowest : Binds K fd__law_lowest ["over", "under"] []
  g__law_lowest : mg "_law_lowest" = some (.ref a__law_lowest)
  a__law_added : Addr
  fd__law_added : FuncData
  F__law_added : Fun K "_law_added" "_law_added" s__law_added a__law_added fd__law_added
  b__law_added : Binds K fd__law_added ["fractions"] []
  g__law_added : mg "_law_added" = some (.ref a__law_added)
  a__law_at_most : Addr
  fd__law_at_most : FuncData
  F__law_at_most : Fun K "_law_at_most" "_law_at_most" s__law_at_most a__law_at_most fd__law_at_most
  b__law_at_most : Binds K fd__law_at_most ["one", "other"] []
  g__law_at_most : mg "_law_at_most" = some (.ref a__law_at_most)
  a__law_places : Addr
  fd__law_places : FuncData
  F__law_places : Fun K "_law_places" "_law_places" s__law_places a__law_places fd__law_places
  b__law_places : Binds K fd__law_places ["pot", "many"] []
  g__law_places : mg "_law_places" = some (.ref a__law_places)
  a__law_refused : Addr
  fd__law_refused : FuncData
  F__law_refused : Fun K "_law_refused" "_law_refused" s__law_refused a__law_refused fd__law_refused
  b__law_refused : Binds K fd__law_refused ["web", "house"] []
  g__law_refused : mg "_law_refused" = some (.ref a__law_refused)
  a__law_same_turned : Addr
  fd__law_same_turned : FuncData
  F__law_same_turned : Fun K "_law_same_turned" "_law_same_turned" s__law_same_turned a__law_same_turned fd__law_same_turned
  b__law_same_turned : Binds K fd__law_same_turned ["web", "places"] []
  g__law_same_turned : mg "_law_same_turned" = some (.ref a__law_same_turned)
  c_ApartError : Addr
  g_ApartError : mg "ApartError" = some (.ref c_ApartError)
  kp_ApartError : PySem.W.keepIn K (.ref c_ApartError) = true
  y_ApartError : ExcC K c_ApartError
  ty_ApartError : PySem.W.typeIn K (.ref c_ApartError) = some (.type "type")
  x_ApartError : PySem.W.excIn K c_ApartError [.type "ValueError", .type "Exception", .type "BaseException", .type "object"] "ValueError.__new__" = true
  c_NoHouse : Addr
  g_NoHouse : mg "NoHouse" = some (.ref c_NoHouse)
  kp_NoHouse : PySem.W.keepIn K (.ref c_NoHouse) = true
  y_NoHouse : ExcC K c_NoHouse
  ty_NoHouse : PySem.W.typeIn K (.ref c_NoHouse) = some (.type "type")
  x_NoHouse : PySem.W.excIn K c_NoHouse [.type "ValueError", .type "Exception", .type "BaseException", .type "object"] "ValueError.__new__" = true
  c_NoTie : Addr
  g_NoTie : mg "NoTie" = some (.ref c_NoTie)
  kp_NoTie : PySem.W.keepIn K (.ref c_NoTie) = true
  y_NoTie : ExcC K c_NoTie
  ty_NoTie : PySem.W.typeIn K (.ref c_NoTie) = some (.type "type")
  x_NoTie : PySem.W.excIn K c_NoTie [.type "ValueError", .type "Exception", .type "BaseException", .type "object"] "ValueError.__new__" = true
  c_NoSet : Addr
  g_NoSet : mg "NoSet" = some (.ref c_NoSet)
  kp_NoSet : PySem.W.keepIn K (.ref c_NoSet) = true
  y_NoSet : ExcC K c_NoSet
  ty_NoSet : PySem.W.typeIn K (.ref c_NoSet) = some (.type "type")
  x_NoSet : PySem.W.excIn K c_NoSet [.type "ValueError", .type "Exception", .type "BaseException", .type "object"] "ValueError.__new__" = true
  c_NoHues : Addr
  g_NoHues : mg "NoHues" = some (.ref c_NoHues)
  kp_NoHues : PySem.W.keepIn K (.ref c_NoHues) = true
  y_NoHues : ExcC K c_NoHues
  ty_NoHues : PySem.W.typeIn K (.ref c_NoHues) = some (.type "type")
  x_NoHues : PySem.W.excIn K c_NoHues [.type "ValueError", .type "Exception", .type "BaseException", .type "object"] "ValueError.__new__" = true
  c_NoStep : Addr
  g_NoStep : mg "NoStep" = some (.ref c_NoStep)
  kp_NoStep : PySem.W.keepIn K (.ref c_NoStep) = true
  y_NoStep : ExcC K c_NoStep
  ty_NoStep : PySem.W.typeIn K (.ref c_NoStep) = some (.type "type")
  x_NoStep : PySem.W.excIn K c_NoStep [.type "ValueError", .type "Exception", .type "BaseException", .type "object"] "ValueError.__new__" = true
  c_NoText : Addr
  g_NoText : mg "NoText" = some (.ref c_NoText)
  kp_NoText : PySem.W.keepIn K (.ref c_NoText) = true
  y_NoText : ExcC K c_NoText
  ty_NoText : PySem.W.typeIn K (.ref c_NoText) = some (.type "type")
  x_NoText : PySem.W.excIn K c_NoText [.type "ValueError", .type "Exception", .type "BaseException", .type "object"] "ValueError.__new__" = true
  c_NoRow : Addr
  g_NoRow : mg "NoRow" = some (.ref c_NoRow)
  kp_NoRow : PySem.W.keepIn K (.ref c_NoRow) = true
  y_NoRow : ExcC K c_NoRow
  ty_NoRow : PySem.W.typeIn K (.ref c_NoRow) = some (.type "type")
  x_NoRow : PySem.W.excIn K c_NoRow [.type "ValueError", .type "Exception", .type "BaseException", .type "object"] "ValueError.__new__" = true
  c_NoName : Addr
  g_NoName : mg "NoName" = some (.ref c_NoName)
  kp_NoName : PySem.W.keepIn K (.ref c_NoName) = true
  y_NoName : ExcC K c_NoName
  ty_NoName : PySem.W.typeIn K (.ref c_NoName) = some (.type "type")
  fi_NoName : Addr
  fdi_NoName : FuncData
  iC_NoName : PySem.W.findIn K (.ref c_NoName) "__init__" = some (some (.ref fi_NoName))
  tI_NoName : PySem.W.typeIn K (.ref fi_NoName) = some (.type "function")
  bi_NoName : Binds K fdi_NoName ["self", "number"] []
  ox_NoName : OexC K c_NoName
  no_NoName : PySem.W.findIn K (.ref c_NoName) "number" = some none
  I_NoName : ∀ {w : World} {mg : Str → Option Value} {base : Heap} {CX : CXT} {k : Nat}, mg "super" = none → FnOk P w K mg base CX (k + 1) fi_NoName fdi_NoName ["self", "number"] (SpSup c_NoName)
  k_ApartError_ApartError : PySem.W.kitOne K (.ref c_ApartError) (.ref c_ApartError) = some true
  k_ApartError_NoHouse : PySem.W.kitOne K (.ref c_ApartError) (.ref c_NoHouse) = some false
  k_ApartError_NoTie : PySem.W.kitOne K (.ref c_ApartError) (.ref c_NoTie) = some false
  k_ApartError_NoSet : PySem.W.kitOne K (.ref c_ApartError) (.ref c_NoSet) = some false
  k_ApartError_NoHues : PySem.W.kitOne K (.ref c_ApartError) (.ref c_NoHues) = some false
  k_ApartError_NoStep : PySem.W.kitOne K (.ref c_ApartError) (.ref c_NoStep) = some false
  k_ApartError_NoText : PySem.W.kitOne K (.ref c_ApartError) (.ref c_NoText) = some false
  k_ApartError_NoRow : PySem.W.kitOne K (.ref c_ApartError) (.ref c_NoRow) = some false
  k_ApartError_NoName : PySem.W.kitOne K (.ref c_ApartError) (.ref c_NoName) = some false
  kv_ApartError : PySem.W.kitOne K (.ref c_ApartError) (.type "ValueError") = some true
  e_ApartError : PySem.W.exmOne K (.ref c_ApartError) (.ref c_ApartError) = some true
  k_NoHouse_ApartError : PySem.W.kitOne K (.ref c_NoHouse) (.ref c_ApartError) = some true
  k_NoHouse_NoHouse : PySem.W.kitOne K (.ref c_NoHouse) (.ref c_NoHouse) = some true
  k_NoHouse_NoTie : PySem.W.kitOne K (.ref c_NoHouse) (.ref c_NoTie) = some false
  k_NoHouse_NoSet : PySem.W.kitOne K (.ref c_NoHouse) (.ref c_NoSet) = some false
  k_NoHouse_NoHues : PySem.W.kitOne K (.ref c_NoHouse) (.ref c_NoHues) = some false
  k_NoHouse_NoStep : PySem.W.kitOne K (.ref c_NoHouse) (.ref c_NoStep) = some false
  k_NoHouse_NoText : PySem.W.kitOne K (.ref c_NoHouse) (.ref c_NoText) = some false
  k_NoHouse_NoRow : PySem.W.kitOne K (.ref c_NoHouse) (.ref c_NoRow) = some false
  k_NoHouse_NoName : PySem.W.kitOne K (.ref c_NoHouse) (.ref c_NoName) = some false
  kv_NoHouse : PySem.W.kitOne K (.ref c_NoHouse) (.type "ValueError") = some true
  e_NoHouse : PySem.W.exmOne K (.ref c_NoHouse) (.ref c_ApartError) = some true
  k_NoTie_ApartError : PySem.W.kitOne K (.ref c_NoTie) (.ref c_ApartError) = some true
  k_NoTie_NoHouse : PySem.W.kitOne K (.ref c_NoTie) (.ref c_NoHouse) = some false
  k_NoTie_NoTie : PySem.W.kitOne K (.ref c_NoTie) (.ref c_NoTie) = some true
  k_NoTie_NoSet : PySem.W.kitOne K (.ref c_NoTie) (.ref c_NoSet) = some false
  k_NoTie_NoHues : PySem.W.kitOne K (.ref c_NoTie) (.ref c_NoHues) = some false
  k_NoTie_NoStep : PySem.W.kitOne K (.ref c_NoTie) (.ref c_NoStep) = some false
  k_NoTie_NoText : PySem.W.kitOne K (.ref c_NoTie) (.ref c_NoText) = some false
  k_NoTie_NoRow : PySem.W.kitOne K (.ref c_NoTie) (.ref c_NoRow) = some false
  k_NoTie_NoName : PySem.W.kitOne K (.ref c_NoTie) (.ref c_NoName) = some false
  kv_NoTie : PySem.W.kitOne K (.ref c_NoTie) (.type "ValueError") = some true
  e_NoTie : PySem.W.exmOne K (.ref c_NoTie) (.ref c_ApartError) = some true
  k_NoSet_ApartError : PySem.W.kitOne K (.ref c_NoSet) (.ref c_ApartError) = some true
  k_NoSet_NoHouse : PySem.W.kitOne K (.ref c_NoSet) (.ref c_NoHouse) = some false
  k_NoSet_NoTie : PySem.W.kitOne K (.ref c_NoSet) (.ref c_NoTie) = some false
  k_NoSet_NoSet : PySem.W.kitOne K (.ref c_NoSet) (.ref c_NoSet) = some true
  k_NoSet_NoHues : PySem.W.kitOne K (.ref c_NoSet) (.ref c_NoHues) = some false
  k_NoSet_NoStep : PySem.W.kitOne K (.ref c_NoSet) (.ref c_NoStep) = some false
  k_NoSet_NoText : PySem.W.kitOne K (.ref c_NoSet) (.ref c_NoText) = some false
  k_NoSet_NoRow : PySem.W.kitOne K (.ref c_NoSet) (.ref c_NoRow) = some false
  k_NoSet_NoName : PySem.W.kitOne K (.ref c_NoSet) (.ref c_NoName) = some false
  kv_NoSet : PySem.W.kitOne K (.ref c_NoSet) (.type "ValueError") = some true
  e_NoSet : PySem.W.exmOne K (.ref c_NoSet) (.ref c_ApartError) = some true
  k_NoHues_ApartError : PySem.W.kitOne K (.ref c_NoHues) (.ref c_ApartError) = some true
  k_NoHues_NoHouse : PySem.W.kitOne K (.ref c_NoHues) (.ref c_NoHouse) = some false
  k_NoHues_NoTie : PySem.W.kitOne K (.ref c_NoHues) (.ref c_NoTie) = some false
  k_NoHues_NoSet : PySem.W.kitOne K (.ref c_NoHues) (.ref c_NoSet) = some false
  k_NoHues_NoHues : PySem.W.kitOne K (.ref c_NoHues) (.ref c_NoHues) = some true
  k_NoHues_NoStep : PySem.W.kitOne K (.ref c_NoHues) (.ref c_NoStep) = some false
  k_NoHues_NoText : PySem.W.kitOne K (.ref c_NoHues) (.ref c_NoText) = some false
  k_NoHues_NoRow : PySem.W.kitOne K (.ref c_NoHues) (.ref c_NoRow) = some false
  k_NoHues_NoName : PySem.W.kitOne K (.ref c_NoHues) (.ref c_NoName) = some false
  kv_NoHues : PySem.W.kitOne K (.ref c_NoHues) (.type "ValueError") = some true
  e_NoHues : PySem.W.exmOne K (.ref c_NoHues) (.ref c_ApartError) = some true
  k_NoStep_ApartError : PySem.W.kitOne K (.ref c_NoStep) (.ref c_ApartError) = some true
  k_NoStep_NoHouse : PySem.W.kitOne K (.ref c_NoStep) (.ref c_NoHouse) = some false
  k_NoStep_NoTie : PySem.W.kitOne K (.ref c_NoStep) (.ref c_NoTie) = some false
  k_NoStep_NoSet : PySem.W.kitOne K (.ref c_NoStep) (.ref c_NoSet) = some false
  k_NoStep_NoHues : PySem.W.kitOne K (.ref c_NoStep) (.ref c_NoHues) = some false
  k_NoStep_NoStep : PySem.W.kitOne K (.ref c_NoStep) (.ref c_NoStep) = some true
  k_NoStep_NoText : PySem.W.kitOne K (.ref c_NoStep) (.ref c_NoText) = some false
  k_NoStep_NoRow : PySem.W.kitOne K (.ref c_NoStep) (.ref c_NoRow) = some false
  k_NoStep_NoName : PySem.W.kitOne K (.ref c_NoStep) (.ref c_NoName) = some false
  kv_NoStep : PySem.W.kitOne K (.ref c_NoStep) (.type "ValueError") = some true
  e_NoStep : PySem.W.exmOne K (.ref c_NoStep) (.ref c_ApartError) = some true
  k_NoText_ApartError : PySem.W.kitOne K (.ref c_NoText) (.ref c_ApartError) = some true
  k_NoText_NoHouse : PySem.W.kitOne K (.ref c_NoText) (.ref c_NoHouse) = some false
  k_NoText_NoTie : PySem.W.kitOne K (.ref c_NoText) (.ref c_NoTie) = some false
  k_NoText_NoSet : PySem.W.kitOne K (.ref c_NoText) (.ref c_NoSet) = some false
  k_NoText_NoHues : PySem.W.kitOne K (.ref c_NoText) (.ref c_NoHues) = some false
  k_NoText_NoStep : PySem.W.kitOne K (.ref c_NoText) (.ref c_NoStep) = some false
  k_NoText_NoText : PySem.W.kitOne K (.ref c_NoText) (.ref c_NoText) = some true
  k_NoText_NoRow : PySem.W.kitOne K (.ref c_NoText) (.ref c_NoRow) = some false
  k_NoText_NoName : PySem.W.kitOne K (.ref c_NoText) (.ref c_NoName) = some false
  kv_NoText : PySem.W.kitOne K (.ref c_NoText) (.type "ValueError") = some true
  e_NoText : PySem.W.exmOne K (.ref c_NoText) (.ref c_ApartError) = some true
  k_NoRow_ApartError : PySem.W.kitOne K (.ref c_NoRow) (.ref c_ApartError) = some true
  k_NoRow_NoHouse : PySem.W.kitOne K (.ref c_NoRow) (.ref c_NoHouse) = some false
  k_NoRow_NoTie : PySem.W.kitOne K (.ref c_NoRow) (.ref c_NoTie) = some false
  k_NoRow_NoSet : PySem.W.kitOne K (.ref c_NoRow) (.ref c_NoSet) = some false
  k_NoRow_NoHues : PySem.W.kitOne K (.ref c_NoRow) (.ref c_NoHues) = some false
  k_NoRow_NoStep : PySem.W.kitOne K (.ref c_NoRow) (.ref c_NoStep) = some false
  k_NoRow_NoText : PySem.W.kitOne K (.ref c_NoRow) (.ref c_NoText) = some false
  k_NoRow_NoRow : PySem.W.kitOne K (.ref c_NoRow) (.ref c_NoRow) = some true
  k_NoRow_NoName : PySem.W.kitOne K (.ref c_NoRow) (.ref c_NoName) = some false
  kv_NoRow : PySem.W.kitOne K (.ref c_NoRow) (.type "ValueError") = some true
  e_NoRow : PySem.W.exmOne K (.ref c_NoRow) (.ref c_ApartError) = some true
  k_NoName_ApartError : PySem.W.kitOne K (.ref c_NoName) (.ref c_ApartError) = some true
  k_NoName_NoHouse : PySem.W.kitOne K (.ref c_NoName) (.ref c_NoHouse) = some false
  k_NoName_NoTie : PySem.W.kitOne K (.ref c_NoName) (.ref c_NoTie) = some false
  k_NoName_NoSet : PySem.W.kitOne K (.ref c_NoName) (.ref c_NoSet) = some false
  k_NoName_NoHues : PySem.W.kitOne K (.ref c_NoName) (.ref c_NoHues) = some false
  k_NoName_NoStep : PySem.W.kitOne K (.ref c_NoName) (.ref c_NoStep) = some false
  k_NoName_NoText : PySem.W.kitOne K (.ref c_NoName) (.ref c_NoText) = some false
  k_NoName_NoRow : PySem.W.kitOne K (.ref c_NoName) (.ref c_NoRow) = some false
  k_NoName_NoName : PySem.W.kitOne K (.ref c_NoName) (.ref c_NoName) = some true
  kv_NoName : PySem.W.kitOne K (.ref c_NoName) (.type "ValueError") = some true
  e_NoName : PySem.W.exmOne K (.ref c_NoName) (.ref c_ApartError) = some true
  g_permutations : mg "permutations" = some (.type "itertools.permutations")
  g_gcd : mg "gcd" = some (.builtin "math.gcd")
  n_ValueError : mg "ValueError" = none
  n_set : mg "set" = none
  n_enumerate : mg "enumerate" = none
  n_max : mg "max" = none
  n_sorted : mg "sorted" = none
  n_len : mg "len" = none
  n_list : mg "list" = none
  n_range : mg "range" = none
  n_isinstance : mg "isinstance" = none
  n_int : mg "int" = none
  n_sum : mg "sum" = none
  n_tuple : mg "tuple" = none
  n_bool : mg "bool" = none
  n_min : mg "min" = none
  n_super : mg "super" = none
section
local macro_rules | `(tactic| walk_at "rd1") => `(tactic| (first
  | (with_reducible refine r_seq ?_) | (with_reducible refine r_asg ?_) | (with_reducible refine r_asgG ?_) | (with_reducible refine r_par ?_) | (with_reducible refine r_if ?_) | (with_reducible refine r_ret ?_) | (with_reducible refine r_drop ?_) | (with_reducible refine r_next ?_)
  | ((with_reducible refine' r_var ?hx ?_); (case hx => exact rfl)) | (with_reducible refine r_c ?_) | (with_reducible refine r_op ?_) | (with_reducible refine r_un ?_) | (with_reducible refine r_I0 ?_) | ((with_reducible refine r_I ?_ ?_); (· first | (show (0 : Int) < _; omega) | exact Or.inr ⟨by omega, by omega⟩ | exact Or.inl ⟨by omega, by omega⟩ | exact ⟨by omega, by omega, by decide⟩)) | (with_reducible refine r_U ?_)
  | (with_reducible refine r_test ?_) | (with_reducible refine r_B ?_) | (with_reducible refine r_bl ?_) | (with_reducible refine r_eqI ?_) | (with_reducible refine r_neI ?_)
  | ((with_reducible refine r_eq ?_ ?_); (· exact rfl)) | ((with_reducible refine r_ne ?_ ?_); (· exact rfl))
  | (with_reducible refine r_nil ?_) | (with_reducible refine r_cons ?_) | (with_reducible refine r_tup ?_) | (with_reducible refine r_lst ?_) | (with_reducible refine r_call ?_) | (with_reducible refine r_cb ?_)
  | (with_reducible refine r_and ?_) | (with_reducible refine r_or ?_) | (with_reducible refine r_not ?_) | (with_reducible refine r_andV ?_) | (with_reducible refine r_orV ?_) | (with_reducible refine r_notV ?_) | (with_reducible refine r_ifE ?_) | (with_reducible refine r_gSub ?_) | ((with_reducible refine' r_sIn ?h ?_); (case h => assumption)) | ((with_reducible refine' r_sNotIn ?h ?_); (case h => assumption)) | (with_reducible refine r_sadd ?_) | ((with_reducible refine' r_inI ?h ?_); (case h => assumption)) | ((with_reducible refine' r_notInI ?h ?_); (case h => assumption)) | ((with_reducible refine' r_eqNil ?h ?g ?_); (case h => assumption); (case g => assumption)) | ((with_reducible refine' r_neNil ?h ?g ?_); (case h => assumption); (case g => assumption)) | (with_reducible refine r_lstRg ?_) | (with_reducible refine r_rg1 ?_) | (with_reducible refine r_min2 ?_) | (with_reducible refine r_par2 ?_) | (with_reducible refine r_partI ?_) | (with_reducible refine r_lc ?_) | (with_reducible refine r_yes ?_) | (with_reducible refine r_iZipA ?_) | (with_reducible refine r_isN ?_) | ((with_reducible refine' iteRT ?hh ?_); (case hh => exact rfl)) | ((with_reducible refine' iteRF ?hh ?_); (case hh => exact rfl)) | ((with_reducible refine' r_isiT ?ty ?hk ?_); (case ty => first | assumption | exact tyx_L (by assumption) | exact tyx_T (by assumption) | exact .base (.non) | exact .base (.bl _) | exact .base (.int _) | exact .base (.str _)); (case hk => decide +kernel)) | ((with_reducible refine' r_isiF ?ty ?hk ?_); (case ty => first | assumption | exact tyx_L (by assumption) | exact tyx_T (by assumption) | exact .base (.non) | exact .base (.bl _) | exact .base (.int _) | exact .base (.str _)); (case hk => decide +kernel)) | (with_reducible refine r_for ?_) | (with_reducible refine r_iList ?_) | (with_reducible refine r_iTup ?_) | (with_reducible refine r_iRng1 ?_) | (with_reducible refine r_iRng2 ?_) | (with_reducible refine r_iEnum ?_) | (with_reducible refine r_iZip ?_) | (with_reducible refine r_gName ?_) | ((with_reducible refine' r_gTup2 ?hn ?hs ?_); (case hn => exact rfl); (case hs => first | assumption | exact SqT.of upd_same)) | (with_reducible refine r_bm ?_) | (with_reducible refine r_bm0 ?_) | (with_reducible refine r_sl ?_) | (with_reducible refine r_noPart ?_) | (with_reducible refine r_part ?_) | (with_reducible refine r_partI ?_) | ((refine' ⟨_, _, rfl, ?hl, ?_⟩); (case hl => first | exact Or.inl (by assumption) | exact Or.inr (by assumption)))
  | ((with_reducible refine' r_ixL ?hl ?ha ?_); (case hl => assumption); (case ha => first | exact rfl | assumption)) | ((with_reducible refine' r_ixT ?hl ?ha ?_); (case hl => assumption); (case ha => first | exact rfl | assumption))
  | ((with_reducible refine' r_setL ?hl ?hj ?_); (case hl => assumption); (case hj => first | exact rfl | assumption))))
local macro_rules | `(tactic| walk_at "rd") => `(tactic| repeat (walk_at "rd1"))

section
variable {w : World} {K : PySem.W.Frag} {mg : Str → Option Value} {base : Heap}

def sp_blend : Sp := fun vs H Q _ => ∃ cell at' : Int, vs = [.int cell, .int at'] ∧ 0 ≤ at' ∧ ∀ r : Int, 0 ≤ r → Q (.int r) H
theorem ok_l_blend0 (T : Env K mg) : FnOk P w K mg base CX0 1 T.a__law_blend T.fd__law_blend ["cell", "at"] sp_blend := by
  have nd := sc__law_blend.nd
  refine T.F__law_blend.ok sc__law_blend (fun vs H Q E h => ?_) (fun cdv A outer s H vs Q E hr h => ?_)
  · obtain ⟨c, a, rfl, _⟩ := h
    rfl
  · obtain ⟨cell, at', rfl, h0, k⟩ := h
    refine ⟨_, (pss_cons (ps_if (pt_cmpR op_ge (pv 0) (pe_op op_pow pe_int pe_int) (nomark _)) (pss_one (ps_ret (pv 0))) pss_nil)
      (pss_cons (ps_set (i := 2) nd rfl (.inl rfl) (pe_op op_mod (pe_op op_add (pe_op op_add (pe_op op_mul (pe_op op_mod (pv 0) pe_int) pe_int) (pe_op op_mul (pv 1) pe_int)) pe_int) pe_int))
      (pss_cons (ps_set (i := 3) nd rfl (.inl rfl) (pe_op op_mod (pe_op op_add (pe_op op_add (pe_op op_mul (pv 2) (pv 2)) (pe_op op_mul (pv 1) pe_int)) (pe_op op_mod (pv 0) pe_int)) pe_int))
      (pss_cons (ps_set (i := 4) nd rfl (.inl rfl) (pe_op op_mod (pe_op op_add (pe_op op_add (pe_op op_mul (pv 3) (pv 3)) (pe_op op_mul (pv 2) pe_int)) pe_int) pe_int))
      (pss_one (ps_ret (pe_op op_add (pe_op op_mul (pe_op op_add (pe_op op_mul (pv 2) pe_int) (pv 3)) pe_int) (pv 4)))))))), ?_⟩
    walk_at "rd"
    refine ite2 (fun hc => ?_) (fun hc => ?_)
    · walk_at "rd"
      refine k _ ?_
      have e : (10 : Int) ^ Int.toNat 18 = 1000000000000000000 := rfl
      have := of_decide_eq_true hc
      omega
    · walk_at "rd"
      exact k _ (by omega)

def sp_pick : Sp := fun vs H Q _ => ∃ (p c : Addr) (upto : Int), vs = [.ref p, .int upto] ∧ PotC H p c ∧ 0 < upto ∧ upto.natAbs < 2 ^ 1000 ∧ ∀ (r : Int) (H' : Hp), 0 ≤ r → r < upto → PotC H' p c → ExB p H H' → Q (.int r) H'
theorem ok_l_pick0 (T : Env K mg) : FnOk P w K mg base CX0 2 T.a__law_pick T.fd__law_pick ["pot", "upto"] sp_pick := by
  have nd := sc__law_pick.nd
  have G__law_blend : FnOk P w K mg base CX0 1 T.a__law_blend T.fd__law_blend ["cell", "at"] sp_blend := ok_l_blend0 T
  refine T.F__law_pick.ok sc__law_pick (fun vs H Q E h => ?_) (fun cdv A outer s H vs Q E hr h => ?_)
  · obtain ⟨p, c, a, rfl, _⟩ := h
    rfl
  · obtain ⟨p, c, upto, rfl, hP, hu0, hu1, k⟩ := h
    obtain ⟨cs, at', r, hp, hc, hcp, h0, hr0, hl⟩ := hP
    have sp : SqL K H p [.ref c, .int at', .int r] := SqL.of hp
    have sc : SqL K H c (cs.map V.int) := SqL.of hc
    refine ⟨_, (Evl.pss_cut (ps_if (pt_cmpR op_lt (pe_ix ix_list (pv 0) pe_int (fun _ _ => rfl)) (pv 1) (nomark _)) (pss_cons (ps_set (i := 2) nd rfl (.inl rfl) (pe_ix ix_list (pv 0) pe_int (fun _ _ => rfl)))
      (pss_cons (ps_set (i := 3) nd rfl (.inl rfl) (pe_op op_mul pe_int (pv 2)))
      (Evl.pss_cut (ps_if (pt_cmpR op_lt (pv 2) (pe_callB (id := "len") call_len_seq (by rfl) T.n_len PySem.boot_len (pa_cons (pe_ix ix_list (pv 0) pe_int (fun _ _ => rfl)) pa_nil)) (nomark _)) (pss_one (ps_set (i := 3) nd rfl (.inl rfl) (pe_ix ix_list (pe_ix ix_list (pv 0) pe_int (fun _ _ => rfl)) (pv 2) (fun _ _ => rfl)))) (pss_one (ps_if (pt_cmpR (op_neD hr.units) (pe_ix ix_list (pv 0) pe_int (fun _ _ => rfl)) (pe_lst pa_nil) (nomark _)) (pss_one (ps_set (i := 3) nd rfl (.inl rfl) (pe_op op_mod (pe_ix ix_list (pe_ix ix_list (pv 0) pe_int (fun _ _ => rfl)) (pe_op op_mod (pe_op op_add (pe_op op_mul (pv 2) pe_int) pe_int) (pe_callB (id := "len") call_len_seq (by rfl) T.n_len PySem.boot_len (pa_cons (pe_ix ix_list (pv 0) pe_int (fun _ _ => rfl)) pa_nil))) (fun _ _ => rfl)) (pe_op op_add (pe_op op_pow pe_int pe_int) (pe_op op_mul pe_int (pv 2)))))) pss_nil)))
      (pss_cons (ps_asg (pe_op op_add (pv 2) pe_int) (pg_sub (pv 0) pe_int set_list))
      (pss_one (ps_asg (pe_call G__law_blend (hr.mono (by decide)) (by rfl) T.g__law_blend T.F__law_blend.kp T.b__law_blend .nil pass0 (pa_cons (pv 3) (pa_cons (pv 2) pa_nil))) (pg_sub (pv 0) pe_int set_list))))))) pss_nil)
      (pss_cons (ps_set (i := 4) nd rfl (.inl rfl) (pe_op op_mod (pe_ix ix_list (pv 0) pe_int (fun _ _ => rfl)) (pv 1)))
      (pss_cons (ps_asg (pe_op op_fdivW (pe_ix ix_list (pv 0) pe_int (fun _ _ => rfl)) (pv 1)) (pg_sub (pv 0) pe_int set_list))
      (pss_one (ps_ret (pv 4)))))), ?_⟩
    refine ⟨fun σ' H' => ∃ x2 x3 x4, σ' = [some (.ref p), some (.int upto), x2, x3, x4] ∧ ExB p H H' ∧ ∃ at2 r2 : Int, 0 ≤ at2 ∧ 0 ≤ r2 ∧ H' p = some (.lst [.ref c, .int at2, .int r2]) ∧ H' c = some (.lst (cs.map V.int)), ?_, ?_⟩
    · walk_at "rd"
      refine ite2 (fun hc1 => ?_) (fun hc1 => ?_)
      · walk_at "rd"
        refine ⟨fun σ' H' => ∃ cell : Int, σ' = [some (.ref p), some (.int upto), some (.int at'), some (.int cell), none] ∧ Evl.Ex H H', ?_, ?_⟩
        · walk_at "rd"
          refine ite2 (fun hc2 => ?_) (fun hc2 => ?_)
          · have ha : atI (cs.map V.int) at' = some (.int (cs.getD at'.toNat 0)) := atI_int h0 (by
              have := of_decide_eq_true hc2
              rw [List.length_map] at this
              omega)
            walk_at "rd"
            exact ⟨_, rfl, Evl.Ex.refl _⟩
          · walk_at "rd"
            refine ⟨Nat.zero_le _, fun q hq => ?_⟩
            have ex : Evl.Ex H (upd H q (.lst [])) := Evl.Ex.new hq
            have sp1 := Evl.ex_l ex sp
            have sc1 := Evl.ex_l ex sc
            refine ⟨_, _, dp_ints sc1, dp_ints (cs := []) (SqL.of upd_same), shaped_ints cs, shaped_ints [], ?_⟩
            walk_at "rd"
            refine ite2 (fun hc3 => ?_) (fun hc3 => ?_)
            · have hn : cs ≠ [] := by
                rintro rfl
                exact absurd hc3 (by decide)
              have hlen : 0 < cs.length := List.length_pos_iff.mpr hn
              walk_at "rd"
              refine ⟨_, _, rfl, rfl, (by rw [List.length_map]; omega), ?_⟩
              have hm0 := Int.emod_nonneg (at' * 7 + 1) (b := ((cs.map V.int).length : Int)) (by rw [List.length_map]; omega)
              have hm1 := Int.emod_lt_of_pos (at' * 7 + 1) (b := ((cs.map V.int).length : Int)) (by rw [List.length_map]; omega)
              have ha : atI (cs.map V.int) ((at' * 7 + 1) % ((cs.map V.int).length : Int)) = some (.int (cs.getD ((at' * 7 + 1) % ((cs.map V.int).length : Int)).toNat 0)) := atI_int hm0 (by
                rw [List.length_map] at hm1 ⊢
                omega)
              walk_at "rd"
              refine ⟨_, _, rfl, rfl, (by have e : (10 : Int) ^ Int.toNat 17 = 100000000000000000 := rfl; omega), ?_⟩
              exact ⟨_, rfl, ex⟩
            · walk_at "rd"
              exact ⟨_, rfl, ex⟩
        · rintro σ' H' ⟨cell, rfl, ex⟩
          have hp1 := ex p _ hp
          have sp1 := Evl.ex_l ex sp
          walk_at "rd"
          refine ⟨cell, at', rfl, h0, fun r2 hr2 => ?_⟩
          walk_at "rd"
          refine r_setL upd_same (by exact rfl) ?_
          refine ⟨_, _, _, rfl, ?_, at' + 1, r2, by omega, hr2, ?_, ?_⟩
          · exact (ExB.of ex).trans (ExB.upd.trans ExB.upd)
          · exact upd_same
          · rw [upd_ne hcp, upd_ne hcp]
            exact ex c _ hc
      · walk_at "rd"
        exact ⟨_, _, _, rfl, ExB.refl _ _, at', r, h0, hr0, hp, hc⟩
    · rintro σ' H' ⟨x2, x3, x4, rfl, ex, at2, r2, ha2, hr2, hp2, hc2⟩
      have sp2 : SqL K H' p [.ref c, .int at2, .int r2] := SqL.of hp2
      walk_at "rd"
      refine r_I (wide_div hu0 hu1 (by decide) (by decide)) ?_
      walk_at "rd"
      refine k _ _ (Int.emod_nonneg _ (by omega)) (Int.emod_lt_of_pos _ hu0) ⟨cs, at2, r2 / upto, upd_same, ?_, hcp, ha2, Int.ediv_nonneg hr2 (by omega), hl⟩ (ex.trans ExB.upd)
      rw [upd_ne hcp]
      exact hc2

def A_pick : Int → List V → Hp → Prop := fun u vs _ => vs = [.int u] ∧ 0 < u ∧ u.natAbs < 2 ^ 1000
def B_pick : Int → V → List (Addr × Cel) → Hp → Prop := fun u v N _ => N = [] ∧ ∃ r : Int, v = .int r ∧ 0 ≤ r ∧ r < u
theorem PotS.c {F H : Hp} {p : Addr} (h : PotS F H p) (fr : Evl.Ex F H) (hF : F p = none) : ∃ c, PotC H p c := by
  obtain ⟨c, cs, a, r, h1, h2, h3, h4, h5⟩ := h
  exact ⟨c, cs, a, r, h1, fr _ _ h2, Hp.ne (Hp.some_ne h2) hF, h3, h4, h5⟩
theorem ok_l_pick (T : Env K mg) : FnOk P w K mg base CX0 2 T.a__law_pick T.fd__law_pick ["pot", "upto"] (SpP A_pick B_pick) := by
  refine (ok_l_pick0 T).imp fun vs H Q E h => ?_
  obtain ⟨u, F, p, r, rfl, fr, hF, hP, ⟨rfl, h0, h1⟩, k⟩ := h
  obtain ⟨c, cs, a, r, g1, g2, g3, g4, g5⟩ := hP
  have hc : c ≠ p := Hp.ne (Hp.some_ne g2) hF
  refine ⟨p, c, u, rfl, ⟨cs, a, r, g1, fr _ _ g2, hc, g3, g4, g5⟩, h0, h1, fun x H' x0 x1 P' e => ?_⟩
  obtain ⟨cs', a', r', q1, q2, q3, q4, q5, q6⟩ := P'
  have q2' := e c _ hc (fr _ _ g2)
  rw [q2] at q2'
  have q2' := HO.lst.inj (Option.some.inj q2')
  refine k (.int x) [] F H' ⟨fun b o hb n => e b o (by simpa using n) hb, fun b hb => ?_, Evl.Ex.refl _, fun b hb => .inl hb, fun b o hb => e b o (Hp.ne (Hp.some_ne hb) hF) (fr _ _ hb), fun m hm => ?_, by simp⟩ ⟨rfl, x, rfl, x0, x1⟩
  · cases z : H b with
    | none => rfl
    | some o =>
      by_cases q : b = p
      · rw [q, q1] at hb; cases hb
      · rw [e b o q z] at hb; cases hb
  · rw [List.nil_append, List.mem_singleton] at hm
    subst hm
    exact ⟨⟨⟨c, cs', a', r', q1, by rw [q2']; exact g2, q4, q5, q6⟩, .inl List.mem_cons_self⟩, hF⟩

end

end
section
local macro_rules | `(tactic| walk_at "ex") => `(tactic| first | exact Evl.Ex.refl _ | assumption | ((refine' Evl.Ex.trans ?x ?y); (case y => assumption); (case x => walk_at "ex")))
local macro_rules | `(tactic| walk_at "hc") => `(tactic| first
  | assumption
  | ((refine' Sep.rdM ?S 0 ?k); (case S => assumption); (case k => exact rfl)) | ((refine' Sep.rdM ?S 1 ?k); (case S => assumption); (case k => exact rfl)) | ((refine' Sep.rdM ?S 2 ?k); (case S => assumption); (case k => exact rfl)) | ((refine' Sep.rdM ?S 3 ?k); (case S => assumption); (case k => exact rfl)) | ((refine' Sep.rdM ?S 4 ?k); (case S => assumption); (case k => exact rfl))
  | ((refine' Sep.rdC ?S ?e ?h); (case S => assumption); (case h => assumption); (case e => walk_at "ex")))
local macro_rules | `(tactic| walk_at "hl") => `(tactic| first
  | assumption
  | ((refine' SqL.of (Sep.rdM ?S 0 ?k)); (case S => assumption); (case k => exact rfl)) | ((refine' SqL.of (Sep.rdM ?S 1 ?k)); (case S => assumption); (case k => exact rfl)) | ((refine' SqL.of (Sep.rdM ?S 2 ?k)); (case S => assumption); (case k => exact rfl)) | ((refine' SqL.of (Sep.rdM ?S 3 ?k)); (case S => assumption); (case k => exact rfl)) | ((refine' SqL.of (Sep.rdM ?S 4 ?k)); (case S => assumption); (case k => exact rfl))
  | ((refine' Sep.rdL ?S ?e ?h); (case S => assumption); (case h => assumption); (case e => walk_at "ex"))
  | ((refine' Sep.rdT ?S ?e ?h); (case S => assumption); (case h => assumption); (case e => walk_at "ex"))
  | ((refine' SqL.of (Sep.rdC ?S ?e ?h)); (case S => assumption); (case h => assumption); (case e => walk_at "ex"))
  | ((refine' SqT.of (Sep.rdC ?S ?e ?h)); (case S => assumption); (case h => assumption); (case e => walk_at "ex"))
  | ((refine' SqL.of ?h); (case h => assumption)) | ((refine' SqT.of ?h); (case h => assumption))
  | ((refine' Evl.ex_l ?e ?h); (case h => assumption); (case e => walk_at "ex")) | ((refine' Evl.ex_t ?e ?h); (case h => assumption); (case e => walk_at "ex"))
  | ((refine' SqL.of (?e _ _ ?h)); (case h => assumption); (case e => walk_at "ex")) | ((refine' SqT.of (?e _ _ ?h)); (case h => assumption); (case e => walk_at "ex")))
local macro_rules | `(tactic| walk_at "hs") => `(tactic| walk_at "hc")
local macro_rules | `(tactic| walk_at "dp") => `(tactic| first
  | assumption
  | ((refine' Sep.rdD ?S ?e ?h); (case S => assumption); (case h => assumption); (case e => walk_at "ex"))
  | ((refine' Dp.ex ?e _ _ ?h); (case h => assumption); (case e => walk_at "ex"))
  | ((refine' DpAll.ex ?e _ _ ?h); (case h => assumption); (case e => walk_at "ex"))
  | (refine' dp_intsD ?h; (case h => walk_at "hl")))
local macro_rules | `(tactic| walk_at "rd1") => `(tactic| (first
  | (with_reducible refine r_seq ?_)
  | (with_reducible refine r_asg ?_)
  | (with_reducible refine r_asgG ?_)
  | (with_reducible refine r_par ?_)
  | (with_reducible refine r_if ?_)
  | (with_reducible refine r_ret ?_)
  | (with_reducible refine r_drop ?_)
  | (with_reducible refine r_next ?_)
  | ((with_reducible refine' r_var ?hx ?_); (case hx => exact rfl))
  | (with_reducible refine r_c ?_)
  | (with_reducible refine r_op ?_)
  | (with_reducible refine r_un ?_)
  | (with_reducible refine r_I0 ?_)
  | ((with_reducible refine' r_I ?_ ?_); (· first | (show (0 : Int) < _; omega) | exact Or.inr ⟨by omega, by omega⟩ | exact Or.inl ⟨by omega, by omega⟩ | exact ⟨by omega, by omega, by decide⟩))
  | (with_reducible refine r_U ?_)
  | (with_reducible refine r_test ?_)
  | (with_reducible refine r_B ?_)
  | (with_reducible refine r_bl ?_)
  | (with_reducible refine r_eqI ?_)
  | (with_reducible refine r_neI ?_)
  | ((with_reducible refine' r_eq ?_ ?_); (· exact rfl))
  | ((with_reducible refine' r_ne ?_ ?_); (· exact rfl))
  | (with_reducible refine r_nil ?_)
  | (with_reducible refine r_cons ?_)
  | (with_reducible refine s_tup ?_)
  | (with_reducible refine s_lst ?_)
  | (with_reducible refine r_call ?_)
  | (with_reducible refine r_cb ?_)
  | (with_reducible refine r_and ?_)
  | (with_reducible refine r_or ?_)
  | (with_reducible refine r_not ?_)
  | (with_reducible refine r_andV ?_)
  | (with_reducible refine r_orV ?_)
  | (with_reducible refine r_notV ?_)
  | (with_reducible refine r_ifE ?_)
  | (with_reducible refine r_gSub ?_)
  | (with_reducible refine r_sadd ?_)
  | (with_reducible refine s_lstRg ?_)
  | (with_reducible refine r_rg1 ?_)
  | (with_reducible refine r_min2 ?_)
  | (with_reducible refine r_par2 ?_)
  | (with_reducible refine r_partI ?_)
  | (with_reducible refine s_lc ?_)
  | (with_reducible refine s_dc ?_)
  | (with_reducible refine r_yes ?_)
  | (with_reducible refine r_iZipA ?_)
  | (with_reducible refine r_isN ?_)
  | (with_reducible refine r_for ?_)
  | (with_reducible refine r_iList ?_)
  | (with_reducible refine r_iTup ?_)
  | (with_reducible refine r_iRng1 ?_)
  | (with_reducible refine r_iRng2 ?_)
  | (with_reducible refine r_iEnum ?_)
  | (with_reducible refine r_iZip ?_)
  | (with_reducible refine r_gName ?_)
  | (with_reducible refine r_isNV ?_)
  | (with_reducible refine r_notNV ?_)
  | (with_reducible refine r_bm ?_)
  | (with_reducible refine r_bm0 ?_)
  | (with_reducible refine r_sl ?_)
  | (with_reducible refine r_noPart ?_)
  | (with_reducible refine r_part ?_)
  | (with_reducible refine r_chain ?_)
  | (with_reducible refine r_iKeys ?_)
  | (with_reducible refine r_iItems ?_)
  | (with_reducible refine r_frz ?_)
  | (with_reducible refine r_dput ?_)
  | (with_reducible refine r_dget ?_)
  | (with_reducible refine r_din ?_)
  | (with_reducible refine r_dnotin ?_)
  | (with_reducible refine r_break ?_)
  | ((with_reducible refine' r_sIn ?h ?_); (case h => walk_at "hs"))
  | ((with_reducible refine' r_sNotIn ?h ?_); (case h => walk_at "hs"))
  | ((with_reducible refine' r_inI ?h ?_); (case h => walk_at "hl"))
  | ((with_reducible refine' r_notInI ?h ?_); (case h => walk_at "hl"))
  | ((with_reducible refine' r_eqNil ?h ?g ?_); (case h => walk_at "hl"); (case g => walk_at "hl"))
  | ((with_reducible refine' r_neNil ?h ?g ?_); (case h => walk_at "hl"); (case g => walk_at "hl"))
  | ((with_reducible refine' iteRT ?hh ?_); (case hh => exact rfl))
  | ((with_reducible refine' iteRF ?hh ?_); (case hh => exact rfl))
  | ((with_reducible refine' r_isiT ?ty ?hk ?_); (case ty => (first | assumption | exact tyx_L (by assumption) | exact tyx_T (by assumption) | exact .base (.non) | exact .base (.bl _) | exact .base (.int _) | exact .base (.str _) | exact tyx_L (by walk_at "hl") | exact tyx_T (by walk_at "hl"))); (case hk => decide +kernel))
  | ((with_reducible refine' r_isiF ?ty ?hk ?_); (case ty => (first | assumption | exact tyx_L (by assumption) | exact tyx_T (by assumption) | exact .base (.non) | exact .base (.bl _) | exact .base (.int _) | exact .base (.str _) | exact tyx_L (by walk_at "hl") | exact tyx_T (by walk_at "hl"))); (case hk => decide +kernel))
  | ((with_reducible refine' r_gTup2 ?hn ?hs ?_); (case hn => exact rfl); (case hs => walk_at "hl"))
  | ((with_reducible refine' s_list ?hl ?_); (case hl => first | exact Or.inl (by walk_at "hl") | exact Or.inr (by walk_at "hl")))
  | ((with_reducible refine' s_tupN ?hl ?_); (case hl => walk_at "hl"))
  | ((with_reducible refine' s_sortN ?hl ?_); (case hl => walk_at "hl"))
  | ((refine' ⟨_, _, rfl, ?hl, ?_⟩); (case hl => first | exact Or.inl (by walk_at "hl") | exact Or.inr (by walk_at "hl")))
  | ((with_reducible refine' r_ixL ?hl ?ha ?_); (case hl => walk_at "hl"); (case ha => first | exact rfl | assumption))
  | ((with_reducible refine' r_ixT ?hl ?ha ?_); (case hl => walk_at "hl"); (case ha => first | exact rfl | assumption))))
local macro_rules | `(tactic| walk_at "rd") => `(tactic| repeat (walk_at "rd1"))

section
variable {w : World} {K : PySem.W.Frag} {mg : Str → Option Value} {base : Heap}

def A_pot (K : PySem.W.Frag) : List Int → List V → Hp → Prop := fun ns vs F => ∃ a, vs = [.ref a] ∧ SqL K F a (ns.map V.int) ∧ ns.length ≤ 63
def B_pot : List Int → V → List (Addr × Cel) → Hp → Prop := fun _ v N _ => ∃ p, v = .ref p ∧ N = [(p, .pot)]
theorem ok_l_pot (T : Env K mg) : FnOk P w K mg base CX0 1 T.a__law_pot T.fd__law_pot ["script"] (SpF (A_pot K) B_pot) := by
  have nd := sc__law_pot.nd
  refine T.F__law_pot.ok sc__law_pot (fun vs H Q E h => ?_) (fun cdv A outer s H vs Q E hr h => ?_)
  · obtain ⟨x, F, _, ⟨a, rfl, _⟩, _⟩ := h
    rfl
  · obtain ⟨ns, F, fr, ⟨a, rfl, hS, hl⟩, k⟩ := h
    have S := Sep.start0 fr
    refine ⟨_, (pss_cons (ps_set (i := 1) nd rfl (.inl rfl) (pe_callTy call_listN (by rfl) T.n_list (by decide +kernel) (pa_cons (pe_slice sl_list (pv 0) po_none (po_some pe_int)) pa_nil)))
      (pss_cons (ps_for PassesOwn.never rfl (pi_enum (by rfl) T.n_enumerate (pa_cons (pe_slice sl_list (pv 0) (po_some pe_int) (po_some pe_int)) pa_nil)) (pg_tup rfl (pgs_cons (pg_name (i := 2) nd rfl (.inl rfl)) (pgs_cons (pg_name (i := 3) nd rfl (.inl rfl)) pgs_nil))) (pss_one (ps_asg (pe_op op_add (pe_ix ix_list (pv 1) (pe_op op_mod (pv 2) pe_int) (fun _ _ => rfl)) (pv 3)) (pg_sub (pv 1) (pe_op op_mod (pv 2) pe_int) set_list))))
      (pss_one (ps_ret (pe_lst (pa_cons (pv 1) (pa_cons pe_int (pa_cons pe_int pa_nil)))))))), ?_⟩
    walk_at "rd"
    refine s_slL (by walk_at "hl") (s_new S fun q F1 H1 S e1 c1 => ?_)
    walk_at "rd"
    refine s_own S fun c H2 S => ?_
    walk_at "rd"
    refine s_slL (by walk_at "hl") (s_new S fun q2 F3 H3 S e3 c3 => ?_)
    refine ⟨q2, _, rfl, by walk_at "hl", ?_⟩
    have e12 : cutV (ns.map V.int) none (some 12) = (ns.take 12).map V.int := by
      rw [cutV_map, show ((12 : Int)) = ((12 : Nat) : Int) from rfl, cutG_take]
    have e63 : cutV (ns.map V.int) (some 12) (some 63) = (cutG ns (some 12) (some 63)).map V.int := cutV_map ..
    have l63 := (cutG_len ns 12 63).2
    rw [e12] at S
    rw [e63] at c3
    refine s_forE (fun i σ' F' M' => ∃ (x2 x3 : Option V) (cs : List Int), σ' = [some (.ref a), some (.ref c), x2, x3] ∧ M' = [(c, .is (.lst (cs.map V.int)))] ∧ cs.length = (ns.take 12).length) S (SqL.of c3) ⟨none, none, ns.take 12, rfl, rfl, rfl⟩ ?_ ?_
    · rintro i x t σ' F4 F5 H5 M' ei S e4 e5 ct ⟨x2, x3, cs, rfl, rfl, h2⟩
      rw [List.getElem?_map] at ei
      cases e : (cutG ns (some 12) (some 63))[i]? with
      | none => rw [e] at ei; cases ei
      | some z =>
        rw [e] at ei
        cases ei
        have hlen : cs.length = 12 := by
          rw [h2, List.length_take]
          have : ¬ ns.length ≤ 12 := fun q => by
            have l := l63 q
            have lt := (List.getElem?_eq_some_iff.mp e).1
            have e1 : ((12 : Nat) : Int) = 12 := rfl
            have e2 : ((63 : Nat) : Int) = 63 := rfl
            rw [e1, e2] at l
            omega
          omega
        have ha : atI (cs.map V.int) ((i : Int) % 12) = some (.int (cs.getD ((i : Int) % 12).toNat 0)) := atI_int (by omega) (by omega)
        have hx : ixN (cs.map V.int).length ((i : Int) % 12) = some ((i : Int) % 12).toNat := by
          unfold ixN
          rw [if_pos (by omega), if_pos (by rw [List.length_map]; omega)]
        walk_at "rd"
        refine s_setL S 0 rfl hx fun H6 S => ?_
        refine ⟨F5, _, S, e4.trans e5, _, _, cs.set ((i : Int) % 12).toNat (cs.getD ((i : Int) % 12).toNat 0 + z), rfl, ?_, by rw [List.length_set]; exact h2⟩
        rw [List.map_set]
        rfl
    · rintro σ' F4 H4 M' S e4 ⟨x2, x3, cs, rfl, rfl, h2⟩
      walk_at "rd"
      obtain ⟨F5, S, e5, cc⟩ := S.frz 0 rfl
      refine ⟨(by show 3 ≤ sizeLine; decide), s_own S fun p H5 S => ?_⟩
      have S := S.topot 0 rfl ⟨c, cs, 0, 0, S.rdM 0 rfl, cc, Int.le_refl _, Int.le_refl _, by rw [h2, List.length_take]; omega⟩
      exact k _ _ _ _ S ⟨p, rfl, rfl⟩

end

end
section
local macro_rules | `(tactic| walk_at "ex") => `(tactic| first | exact Evl.Ex.refl _ | assumption | ((refine' Evl.Ex.trans ?x ?y); (case y => assumption); (case x => walk_at "ex")))
local macro_rules | `(tactic| walk_at "hc") => `(tactic| first
  | assumption
  | ((refine' Sep.rdM ?S 0 ?k); (case S => assumption); (case k => exact rfl)) | ((refine' Sep.rdM ?S 1 ?k); (case S => assumption); (case k => exact rfl)) | ((refine' Sep.rdM ?S 2 ?k); (case S => assumption); (case k => exact rfl)) | ((refine' Sep.rdM ?S 3 ?k); (case S => assumption); (case k => exact rfl)) | ((refine' Sep.rdM ?S 4 ?k); (case S => assumption); (case k => exact rfl))
  | ((refine' Sep.rdC ?S ?e ?h); (case S => assumption); (case h => assumption); (case e => walk_at "ex")))
local macro_rules | `(tactic| walk_at "hl") => `(tactic| first
  | assumption
  | ((refine' SqL.of (Sep.rdM ?S 0 ?k)); (case S => assumption); (case k => exact rfl)) | ((refine' SqL.of (Sep.rdM ?S 1 ?k)); (case S => assumption); (case k => exact rfl)) | ((refine' SqL.of (Sep.rdM ?S 2 ?k)); (case S => assumption); (case k => exact rfl)) | ((refine' SqL.of (Sep.rdM ?S 3 ?k)); (case S => assumption); (case k => exact rfl)) | ((refine' SqL.of (Sep.rdM ?S 4 ?k)); (case S => assumption); (case k => exact rfl))
  | ((refine' Sep.rdL ?S ?e ?h); (case S => assumption); (case h => assumption); (case e => walk_at "ex"))
  | ((refine' Sep.rdT ?S ?e ?h); (case S => assumption); (case h => assumption); (case e => walk_at "ex"))
  | ((refine' SqL.of (Sep.rdC ?S ?e ?h)); (case S => assumption); (case h => assumption); (case e => walk_at "ex"))
  | ((refine' SqT.of (Sep.rdC ?S ?e ?h)); (case S => assumption); (case h => assumption); (case e => walk_at "ex"))
  | ((refine' SqL.of ?h); (case h => assumption)) | ((refine' SqT.of ?h); (case h => assumption))
  | ((refine' Evl.ex_l ?e ?h); (case h => assumption); (case e => walk_at "ex")) | ((refine' Evl.ex_t ?e ?h); (case h => assumption); (case e => walk_at "ex"))
  | ((refine' SqL.of (?e _ _ ?h)); (case h => assumption); (case e => walk_at "ex")) | ((refine' SqT.of (?e _ _ ?h)); (case h => assumption); (case e => walk_at "ex")))
local macro_rules | `(tactic| walk_at "hs") => `(tactic| walk_at "hc")
local macro_rules | `(tactic| walk_at "dp") => `(tactic| first
  | assumption
  | ((refine' Sep.rdD ?S ?e ?h); (case S => assumption); (case h => assumption); (case e => walk_at "ex"))
  | ((refine' Dp.ex ?e _ _ ?h); (case h => assumption); (case e => walk_at "ex"))
  | ((refine' DpAll.ex ?e _ _ ?h); (case h => assumption); (case e => walk_at "ex"))
  | (refine' dp_intsD ?h; (case h => walk_at "hl")))
local macro_rules | `(tactic| walk_at "rd1") => `(tactic| (first
  | (with_reducible refine r_seq ?_)
  | (with_reducible refine r_asg ?_)
  | (with_reducible refine r_asgG ?_)
  | (with_reducible refine r_par ?_)
  | (with_reducible refine r_if ?_)
  | (with_reducible refine r_ret ?_)
  | (with_reducible refine r_drop ?_)
  | (with_reducible refine r_next ?_)
  | ((with_reducible refine' r_var ?hx ?_); (case hx => exact rfl))
  | (with_reducible refine r_c ?_)
  | (with_reducible refine r_op ?_)
  | (with_reducible refine r_un ?_)
  | (with_reducible refine r_I0 ?_)
  | ((with_reducible refine' r_I ?_ ?_); (· first | (show (0 : Int) < _; omega) | exact Or.inr ⟨by omega, by omega⟩ | exact Or.inl ⟨by omega, by omega⟩ | exact ⟨by omega, by omega, by decide⟩))
  | (with_reducible refine r_U ?_)
  | (with_reducible refine r_test ?_)
  | (with_reducible refine r_B ?_)
  | (with_reducible refine r_bl ?_)
  | (with_reducible refine r_eqI ?_)
  | (with_reducible refine r_neI ?_)
  | ((with_reducible refine' r_eq ?_ ?_); (· exact rfl))
  | ((with_reducible refine' r_ne ?_ ?_); (· exact rfl))
  | (with_reducible refine r_nil ?_)
  | (with_reducible refine r_cons ?_)
  | (with_reducible refine s_tup ?_)
  | (with_reducible refine s_lst ?_)
  | (with_reducible refine r_call ?_)
  | (with_reducible refine r_cb ?_)
  | (with_reducible refine r_and ?_)
  | (with_reducible refine r_or ?_)
  | (with_reducible refine r_not ?_)
  | (with_reducible refine r_andV ?_)
  | (with_reducible refine r_orV ?_)
  | (with_reducible refine r_notV ?_)
  | (with_reducible refine r_ifE ?_)
  | (with_reducible refine r_gSub ?_)
  | (with_reducible refine r_sadd ?_)
  | (with_reducible refine s_lstRg ?_)
  | (with_reducible refine r_rg1 ?_)
  | (with_reducible refine r_min2 ?_)
  | (with_reducible refine r_par2 ?_)
  | (with_reducible refine r_partI ?_)
  | (with_reducible refine s_lc ?_)
  | (with_reducible refine s_dc ?_)
  | (with_reducible refine r_yes ?_)
  | (with_reducible refine r_iZipA ?_)
  | (with_reducible refine r_isN ?_)
  | (with_reducible refine r_for ?_)
  | (with_reducible refine r_iList ?_)
  | (with_reducible refine r_iTup ?_)
  | (with_reducible refine r_iRng1 ?_)
  | (with_reducible refine r_iRng2 ?_)
  | (with_reducible refine r_iEnum ?_)
  | (with_reducible refine r_iZip ?_)
  | (with_reducible refine r_gName ?_)
  | (with_reducible refine r_isNV ?_)
  | (with_reducible refine r_notNV ?_)
  | (with_reducible refine r_bm ?_)
  | (with_reducible refine r_bm0 ?_)
  | (with_reducible refine r_sl ?_)
  | (with_reducible refine r_noPart ?_)
  | (with_reducible refine r_part ?_)
  | (with_reducible refine r_chain ?_)
  | (with_reducible refine r_iKeys ?_)
  | (with_reducible refine r_iItems ?_)
  | (with_reducible refine r_frz ?_)
  | (with_reducible refine r_dput ?_)
  | (with_reducible refine r_dget ?_)
  | (with_reducible refine r_din ?_)
  | (with_reducible refine r_dnotin ?_)
  | (with_reducible refine r_break ?_)
  | ((with_reducible refine' r_sIn ?h ?_); (case h => walk_at "hs"))
  | ((with_reducible refine' r_sNotIn ?h ?_); (case h => walk_at "hs"))
  | ((with_reducible refine' r_inI ?h ?_); (case h => walk_at "hl"))
  | ((with_reducible refine' r_notInI ?h ?_); (case h => walk_at "hl"))
  | ((with_reducible refine' r_eqNil ?h ?g ?_); (case h => walk_at "hl"); (case g => walk_at "hl"))
  | ((with_reducible refine' r_neNil ?h ?g ?_); (case h => walk_at "hl"); (case g => walk_at "hl"))
  | ((with_reducible refine' iteRT ?hh ?_); (case hh => exact rfl))
  | ((with_reducible refine' iteRF ?hh ?_); (case hh => exact rfl))
  | ((with_reducible refine' r_isiT ?ty ?hk ?_); (case ty => (first | assumption | exact tyx_L (by assumption) | exact tyx_T (by assumption) | exact .base (.non) | exact .base (.bl _) | exact .base (.int _) | exact .base (.str _) | exact tyx_L (by walk_at "hl") | exact tyx_T (by walk_at "hl"))); (case hk => decide +kernel))
  | ((with_reducible refine' r_isiF ?ty ?hk ?_); (case ty => (first | assumption | exact tyx_L (by assumption) | exact tyx_T (by assumption) | exact .base (.non) | exact .base (.bl _) | exact .base (.int _) | exact .base (.str _) | exact tyx_L (by walk_at "hl") | exact tyx_T (by walk_at "hl"))); (case hk => decide +kernel))
  | ((with_reducible refine' r_gTup2 ?hn ?hs ?_); (case hn => exact rfl); (case hs => walk_at "hl"))
  | ((with_reducible refine' s_list ?hl ?_); (case hl => first | exact Or.inl (by walk_at "hl") | exact Or.inr (by walk_at "hl")))
  | ((with_reducible refine' s_tupN ?hl ?_); (case hl => walk_at "hl"))
  | ((with_reducible refine' s_sortN ?hl ?_); (case hl => walk_at "hl"))
  | ((refine' ⟨_, _, rfl, ?hl, ?_⟩); (case hl => first | exact Or.inl (by walk_at "hl") | exact Or.inr (by walk_at "hl")))
  | ((with_reducible refine' r_ixL ?hl ?ha ?_); (case hl => walk_at "hl"); (case ha => first | exact rfl | assumption))
  | ((with_reducible refine' r_ixT ?hl ?ha ?_); (case hl => walk_at "hl"); (case ha => first | exact rfl | assumption))))
local macro_rules | `(tactic| walk_at "rd") => `(tactic| repeat (walk_at "rd1"))

section
variable {w : World} {K : PySem.W.Frag} {mg : Str → Option Value} {base : Heap}

def A_web : Int → List V → Hp → Prop := fun most vs _ => vs = [.int most] ∧ 1 ≤ most ∧ most ≤ 60
def B_web (K : PySem.W.Frag) : Int → V → List (Addr × Cel) → Hp → Prop := fun most v N F => N = [] ∧ ∃ many ties, many ≤ most ∧ WebOk many ties ∧ Dp K F v (webD many ties)
theorem ok_l_web (T : Env K mg) : FnOk P w K mg base CX0 3 T.a__law_web T.fd__law_web ["pot", "most"] (SpP A_web (B_web K)) := by
  have nd := sc__law_web.nd
  have G__law_pick : FnOk P w K mg base CX0 2 T.a__law_pick T.fd__law_pick ["pot", "upto"] (SpP A_pick B_pick) := ok_l_pick T
  refine T.F__law_web.ok sc__law_web (fun vs H Q E h => ?_) (fun cdv A outer s H vs Q E hr h => ?_)
  · obtain ⟨x, F, p, r, rfl, _, _, _, ⟨rfl, _⟩, _⟩ := h
    rfl
  · obtain ⟨most, F, p, r, rfl, fr, hF, hP, ⟨rfl, hm1, hm2⟩, k⟩ := h
    have S := Sep.startP fr hF hP
    refine ⟨_, (pss_cons (ps_set (i := 2) nd rfl (.inl rfl) (pe_op op_add pe_int (pe_call G__law_pick (hr.mono (by decide)) (by rfl) T.g__law_pick T.F__law_pick.kp T.b__law_pick .nil pass0 (pa_cons (pv 0) (pa_cons (pv 1) pa_nil)))))
      (pss_cons (ps_set (i := 3) nd rfl (.inl rfl) (pe_call G__law_pick (hr.mono (by decide)) (by rfl) T.g__law_pick T.F__law_pick.kp T.b__law_pick .nil pass0 (pa_cons (pv 0) (pa_cons pe_int pa_nil))))
      (pss_cons (ps_set (i := 4) nd rfl (.inl rfl) (pe_op op_add pe_int (pe_call G__law_pick (hr.mono (by decide)) (by rfl) T.g__law_pick T.F__law_pick.kp T.b__law_pick .nil pass0 (pa_cons (pv 0) (pa_cons pe_int pa_nil)))))
      (pss_cons (ps_set (i := 5) nd rfl (.inr rfl) (pe_listRg rfl (by rfl) T.n_list (prg_1 (by rfl) T.n_range (pv 2))))
      (pss_cons (ps_setLc (i := 6) (own := [("k", 13)]) (g := gName 13) (tt := tYes) (te := (tBM K "list" rPopAt (tVar 5) (tCons (tCall (SpP A_pick B_pick) [] E0 (tCons (tVar 0) (tCons (tCB (Evl.rLenS K) (tCons (tVar 5) tNil)) tNil))) tNil))) rfl nd rfl rfl (sw_true rfl rfl rfl (by decide +kernel)) (pi_range1 (by rfl) T.n_range (pa_cons (pv 2) pa_nil)) (blkOk_by (N := ["pot", "most", "many", "way", "share", "order", "places", "ties", "one", "other", "here", "there", "drawn", "k"]) (sc := defScope s__law_web) (by decide +kernel)) (fun _ _ _ _ _ => (pg_name (i := 13) nd rfl (.inl rfl))) (fun _ _ _ _ _ => pts_nil) (fun _ _ _ _ _ => (pe_bm PySem.F.plainAttrs_list PySem.F.slot_list_pop PySem.F.type_list_pop mt_popAt (pv 5) (pa_cons (pe_call G__law_pick (hr.mono (by decide)) (by rfl) T.g__law_pick T.F__law_pick.kp T.b__law_pick .nil pass0 (pa_cons (pv 0) (pa_cons (pe_callB (id := "len") call_len_seq (by rfl) T.n_len PySem.boot_len (pa_cons (pv 5) pa_nil)) pa_nil))) pa_nil))))
      (pss_cons (ps_set (i := 7) nd rfl (.inl rfl) (pe_lst pa_nil))
      (pss_cons (ps_for PassesOwn.never rfl (pi_range1 (by rfl) T.n_range (pa_cons (pv 2) pa_nil)) (pg_name (i := 8) nd rfl (.inl rfl)) (pss_one (ps_for PassesOwn.never rfl (pi_range2 (by rfl) T.n_range (pa_cons (pe_op op_add (pv 8) pe_int) (pa_cons (pv 2) pa_nil))) (pg_name (i := 9) nd rfl (.inl rfl)) (pss_cons (ps_par (i := 10) (j := 11) (by rfl) nd rfl rfl (by decide) rfl rfl (pa_cons (pe_ix ix_list (pv 6) (pv 8) (fun _ _ => rfl)) (pa_cons (pe_ix ix_list (pv 6) (pv 9) (fun _ _ => rfl)) pa_nil)) (by rfl))
      (pss_cons (ps_set (i := 12) nd rfl (.inl rfl) (pe_cmpR op_lt (pe_call G__law_pick (hr.mono (by decide)) (by rfl) T.g__law_pick T.F__law_pick.kp T.b__law_pick .nil pass0 (pa_cons (pv 0) (pa_cons pe_int pa_nil))) (pv 4) (nomark _)))
      (Evl.pss_cut (ps_if (pt_cmpR op_eq (pv 3) pe_int (nomark _)) (pss_one (ps_set (i := 12) nd rfl (.inl rfl) (pe_or (pe_cmpR op_eq (pv 9) (pe_op op_add (pv 8) pe_int) (nomark _)) (pe_one (pe_and (pe_cmpR op_eq (pv 8) pe_int (nomark _)) (pe_and (pe_cmpR op_eq (pv 9) (pe_op op_sub (pv 2) pe_int) (nomark _)) (pe_one (pe_cmpR op_gt (pv 4) pe_int (nomark _))))))))) pss_nil)
      (Evl.pss_cut (ps_if (pt_cmpR op_eq (pv 3) pe_int (nomark _)) (pss_one (ps_set (i := 12) nd rfl (.inl rfl) (pe_cmpR op_eq (pv 8) pe_int (nomark _)))) pss_nil)
      (pss_one (ps_if (pt_val (pv 12)) (pss_one (ps_expr (pe_bm PySem.F.plainAttrs_list PySem.F.slot_list_append PySem.F.type_list_append mt_append (pv 7) (pa_cons (pe_tup (pa_cons (pe_callB (id := "min") (call_min2 rfl) (by rfl) T.n_min (by decide +kernel) (pa_cons (pv 10) (pa_cons (pv 11) pa_nil))) (pa_cons (pe_callB (id := "max") (call_max2 rfl) (by rfl) T.n_max (by decide +kernel) (pa_cons (pv 10) (pa_cons (pv 11) pa_nil))) pa_nil))) pa_nil)))) pss_nil)))))))))
      (pss_one (ps_ret (pe_tup (pa_cons (pv 2) (pa_cons (pe_callTy call_tupN (by rfl) T.n_tuple (by decide +kernel) (pa_cons (pe_callB (id := "sorted") cr_sortedPN (by rfl) T.n_sorted (by decide +kernel) (pa_cons (pv 7) pa_nil)) pa_nil)) pa_nil)))))))))))), ?_⟩
    walk_at "rd"
    refine r_callP S 0 rfl most ⟨rfl, by omega, small_up (by omega) (by omega)⟩ fun v N F1 H1 S e1 ⟨z, r1, ev, h10, h11⟩ => ?_
    subst z ev
    walk_at "rd"
    refine r_callP S 0 rfl 6 ⟨rfl, by omega, small_up (by omega) (by omega)⟩ fun v N F2 H2 S e2 ⟨z, way, ev, h20, h21⟩ => ?_
    subst z ev
    walk_at "rd"
    refine r_callP S 0 rfl 5 ⟨rfl, by omega, small_up (by omega) (by omega)⟩ fun v N F3 H3 S e3 ⟨z, r3, ev, h30, h31⟩ => ?_
    subst z ev
    obtain ⟨many, rfl⟩ : ∃ many, r1 = many - 1 := ⟨r1 + 1, by omega⟩
    have hmany : 1 + (many - 1) = many := by omega
    rw [hmany]
    walk_at "rd"
    refine ⟨⟨by omega, by omega, by omega, by omega, by omega⟩, ?_⟩
    rw [rgV_eq]
    refine s_own S fun o H4 S => ?_
    walk_at "rd"
    refine ⟨many, rfl, by omega, by omega, ?_⟩
    refine s_lcI srcR (fun i acc F' M' => ∃ rem ac : List Int, acc = ac.map V.int ∧ M' = [(o, .is (.lst (rem.map V.int))), (p, .pot)] ∧ rem.length + i = many.toNat ∧ ac.length = i ∧ (ac ++ rem).Perm (rgI many)) S ⟨rgI many, [], rfl, rfl, by rw [rgI_len]; rfl, rfl, List.Perm.refl _⟩ (fun _ _ _ _ _ m hm => by cases hm) ?_ ?_
    · rintro i x _ acc D F5 F6 H6 M' hi S e5 e6 rfl ⟨rem, ac, rfl, rfl, h3, h4, h5⟩
      have hi := (List.getElem?_eq_some_iff.mp hi).1
      rw [List.length_map, List.length_range] at hi
      walk_at "rd"
      refine ⟨rfl, ?_⟩
      walk_at "rd"
      refine ⟨tyL (by walk_at "hl"), ?_⟩
      walk_at "rd"
      refine r_callP S 2 rfl _ ⟨rfl, by rw [List.length_map]; omega, small_up (by rw [List.length_map]; omega) (by rw [List.length_map]; omega)⟩ fun v N F7 H7 S e7 ⟨z, r, ev, hr0, hr1⟩ => ?_
      subst z ev
      rw [List.length_map] at hr1
      have hlt : r.toNat < rem.length := by omega
      have hy : (rem.map V.int)[r.toNat]? = some (.int rem[r.toNat]) := by
        rw [List.getElem?_map, List.getElem?_eq_getElem hlt]
        rfl
      walk_at "rd"
      refine s_popAt S 1 rfl hr0 (by rw [List.length_map]; exact hr1) (by rw [List.length_map]; omega) hy fun H8 S => ?_
      rw [map_eraseIdx] at S
      refine CI.put S (by walk_at "ex") (by rw [List.length_map]; omega) ⟨rem.eraseIdx r.toNat, ac ++ [rem[r.toNat]], by rw [List.map_append]; rfl, rfl, ?_, by rw [List.length_append]; simp [h4], ?_⟩
      · rw [List.length_eraseIdx_of_lt hlt]
        omega
      · refine List.Perm.trans ?_ h5
        rw [List.append_assoc]
        exact List.Perm.append_left _ (eraseIdx_perm rem r.toNat _ (List.getElem?_eq_getElem hlt))
    · rintro D acc F5 H5 M' S e5 ⟨rem, pl, rfl, rfl, h3, h4, h5⟩
      rw [List.length_map, List.length_range] at h3
      have hrem : rem = [] := List.length_eq_zero_iff.mp (by omega)
      rw [hrem, List.append_nil] at h5
      have hpl : pl.length = many.toNat := by rw [h5.length_eq, rgI_len]
      have pn : pl.Nodup := h5.nodup_iff.mpr (rgI_nd many)
      have S := S.drop 1
      clear h3 h4 hrem
      walk_at "rd"
      refine ⟨Nat.zero_le _, s_own S fun tl H6 S => ?_⟩
      walk_at "rd"
      refine ⟨many, rfl, by omega, by omega, ?_⟩
      refine s_forR (fun i σ' F' M' => ∃ (x8 x9 x10 x11 x12 : Option V) (rs : List V) (ps : List (Int × Int)), σ' = [some (.ref p), some (.int most), some (.int many), some (.int way), some (.int (1 + r3)), some (.ref o), some (.ref D), some (.ref tl), x8, x9, x10, x11, x12, none] ∧ M' = [(tl, .is (.lst rs)), (D, .is (.lst (pl.map V.int))), (p, .pot)] ∧ TupsAt F' rs ps ∧ PsOk pl ps i 0 ∧ rs.length ≤ i * 60) S ⟨none, none, none, none, none, [], [], rfl, rfl, .nil, ⟨List.nodup_nil, fun t ht => (by cases ht)⟩, Nat.zero_le _⟩ ?_ ?_
      · rintro i σ6 F6 H7 M' hi S e6 ⟨x8, x9, x10, x11, x12, rs, ps, rfl, rfl, g4, g5, g6⟩
        walk_at "rd"
        refine ⟨⟨by omega, by omega, by omega, by omega⟩, ?_⟩
        refine s_forR (fun j σ' F' M' => ∃ (x9 x10 x11 x12 : Option V) (rs : List V) (ps : List (Int × Int)), σ' = [some (.ref p), some (.int most), some (.int many), some (.int way), some (.int (1 + r3)), some (.ref o), some (.ref D), some (.ref tl), some (.int (0 + (i : Int))), x9, x10, x11, x12, none] ∧ M' = [(tl, .is (.lst rs)), (D, .is (.lst (pl.map V.int))), (p, .pot)] ∧ TupsAt F' rs ps ∧ PsOk pl ps i (i + 1 + j) ∧ rs.length ≤ i * 60 + j) S ⟨x9, x10, x11, x12, rs, ps, rfl, rfl, g4, g5.mono (by omega), g6⟩ ?_ ?_
        · rintro j σ8 F7 H9 M' hj S e7 ⟨x9, x10, x11, x12, rs, ps, rfl, rfl, g4, g5, g6⟩
          have a1 : atI (pl.map V.int) (0 + (i : Int)) = some (.int (pl.getD i 0)) := by
            have := atI_int (cs := pl) (i := 0 + (i : Int)) (by omega) (by omega)
            rw [show (0 + (i : Int)).toNat = i by omega] at this
            exact this
          have a2 : atI (pl.map V.int) (0 + (i : Int) + 1 + (j : Int)) = some (.int (pl.getD (i + 1 + j) 0)) := by
            have := atI_int (cs := pl) (i := 0 + (i : Int) + 1 + (j : Int)) (by omega) (by omega)
            rw [show (0 + (i : Int) + 1 + (j : Int)).toNat = i + 1 + j by omega] at this
            exact this
          walk_at "rd"
          refine r_callP S 2 rfl 6 ⟨rfl, by omega, small_up (by omega) (by omega)⟩ fun v N F8 HA S e8 ⟨z, r, ev, hr0, hr1⟩ => ?_
          subst z ev
          have g4 := g4.mono (ExT.of e8)
          walk_at "rd"
          refine ⟨fun σ' H' => ∃ b : Bool, σ' = [some (.ref p), some (.int most), some (.int many), some (.int way), some (.int (1 + r3)), some (.ref o), some (.ref D), some (.ref tl), some (.int (0 + (i : Int))), some (.int (0 + (i : Int) + 1 + (j : Int))), some (.int (pl.getD i 0)), some (.int (pl.getD (i + 1 + j) 0)), some (.bl b), none] ∧ H' = HA, ?_, ?_⟩
          · walk_at "rd"
            refine iteB (fun _ => ?_) (fun _ => ?_)
            · walk_at "rd"
              refine iteB (fun _ => ?_) (fun _ => ?_)
              · exact ⟨_, rfl, rfl⟩
              · walk_at "rd"
                refine iteB (fun _ => ?_) (fun _ => ?_)
                · walk_at "rd"
                  refine iteB (fun _ => ?_) (fun _ => ?_)
                  · walk_at "rd"
                    exact ⟨_, rfl, rfl⟩
                  · exact ⟨_, rfl, rfl⟩
                · exact ⟨_, rfl, rfl⟩
            · walk_at "rd"
              exact ⟨_, rfl, rfl⟩
          · rintro σ' H' ⟨b, rfl, rfl⟩
            refine ⟨fun σ' H'' => ∃ b : Bool, σ' = [some (.ref p), some (.int most), some (.int many), some (.int way), some (.int (1 + r3)), some (.ref o), some (.ref D), some (.ref tl), some (.int (0 + (i : Int))), some (.int (0 + (i : Int) + 1 + (j : Int))), some (.int (pl.getD i 0)), some (.int (pl.getD (i + 1 + j) 0)), some (.bl b), none] ∧ H'' = H', ?_, ?_⟩
            · walk_at "rd"
              refine iteB (fun _ => ?_) (fun _ => ?_)
              · walk_at "rd"
                exact ⟨_, rfl, rfl⟩
              · walk_at "rd"
                exact ⟨_, rfl, rfl⟩
            · rintro σ'' H'' ⟨b, rfl, rfl⟩
              walk_at "rd"
              refine iteB (fun _ => ?_) (fun _ => ?_)
              · walk_at "rd"
                refine ⟨tyL (by walk_at "hl"), ?_⟩
                walk_at "rd"
                refine ⟨(by show 2 ≤ sizeLine; decide), s_new S fun t F9 HB S e9 ct => ?_⟩
                walk_at "rd"
                refine s_app S 0 rfl (by omega) fun HC S => ?_
                exact ⟨_, _, S, by walk_at "ex", _, _, _, _, rs ++ [.ref t], ps ++ [fP pl i (i + 1 + j)], rfl, rfl, TupsAt.snoc ct (g4.mono (ExT.of e9)), (g5.snoc pn (by omega) (by omega)).mono (by omega), by rw [List.length_append]; simp; omega⟩
              · walk_at "rd"
                exact ⟨_, _, S, by walk_at "ex", _, _, _, _, rs, ps, rfl, rfl, g4, g5.mono (by omega), by omega⟩
        · rintro σ8 F7 H8 M' S e7 ⟨x9, x10, x11, x12, rs, ps, rfl, rfl, g4, g5, g6⟩
          exact ⟨_, _, S, by walk_at "ex", _, x9, x10, x11, x12, rs, ps, rfl, rfl, g4, g5.mono (by omega), by omega⟩
      · rintro σ6 F6 H7 M' S e6 ⟨x8, x9, x10, x11, x12, rs, ps, rfl, rfl, g4, g5, g6⟩
        walk_at "rd"
        refine ⟨tl, rs, pairOf F6, rfl, by walk_at "hl", fun x hx => ?_, fun ys hs hb => s_own S fun q H8 S => ?_⟩
        · obtain ⟨t, et, ht⟩ := g4.all x hx
          exact ⟨t, et, S.fr _ _ ht⟩
        walk_at "rd"
        refine s_new S fun l F9 H9 S e9 cl => ?_
        walk_at "rd"
        refine ⟨(by show 2 ≤ sizeLine; decide), s_new S fun f F10 H10 S e10 cf => ?_⟩
        have t1 : TupsAt F6 ys (ys.map (pairOf F6)) := tupsAt_of ys fun x hx => g4.all x (hb.perm.mem_iff.mp hx)
        have pp : (ys.map (pairOf F6)).Perm ps := by
          rw [← g4.map]
          exact hb.perm.map _
        refine k _ [] _ _ (S.sub (by simp)) ⟨rfl, many, ys.map (pairOf F6), by omega, ⟨by omega, by omega, fun t ht => ?_, sorted_up g5.nd pp ?_⟩, web_dp (SqT.of cf) (SqT.of (e10 _ _ cl)) ((t1.mono (ExT.of (e9.trans e10))).dp)⟩
        · exact g5.valid h5 t (pp.mem_iff.mp ht)
        · exact List.Pairwise.map _ (fun a b h => h) hs

end

end
section
local macro_rules | `(tactic| walk_at "ex") => `(tactic| first | exact Evl.Ex.refl _ | assumption | ((refine' Evl.Ex.trans ?x ?y); (case y => assumption); (case x => walk_at "ex")))
local macro_rules | `(tactic| walk_at "hc") => `(tactic| first
  | assumption
  | ((refine' Sep.rdM ?S 0 ?k); (case S => assumption); (case k => exact rfl)) | ((refine' Sep.rdM ?S 1 ?k); (case S => assumption); (case k => exact rfl)) | ((refine' Sep.rdM ?S 2 ?k); (case S => assumption); (case k => exact rfl)) | ((refine' Sep.rdM ?S 3 ?k); (case S => assumption); (case k => exact rfl)) | ((refine' Sep.rdM ?S 4 ?k); (case S => assumption); (case k => exact rfl))
  | ((refine' Sep.rdC ?S ?e ?h); (case S => assumption); (case h => assumption); (case e => walk_at "ex")))
local macro_rules | `(tactic| walk_at "hl") => `(tactic| first
  | assumption
  | ((refine' SqL.of (Sep.rdM ?S 0 ?k)); (case S => assumption); (case k => exact rfl)) | ((refine' SqL.of (Sep.rdM ?S 1 ?k)); (case S => assumption); (case k => exact rfl)) | ((refine' SqL.of (Sep.rdM ?S 2 ?k)); (case S => assumption); (case k => exact rfl)) | ((refine' SqL.of (Sep.rdM ?S 3 ?k)); (case S => assumption); (case k => exact rfl)) | ((refine' SqL.of (Sep.rdM ?S 4 ?k)); (case S => assumption); (case k => exact rfl))
  | ((refine' Sep.rdL ?S ?e ?h); (case S => assumption); (case h => assumption); (case e => walk_at "ex"))
  | ((refine' Sep.rdT ?S ?e ?h); (case S => assumption); (case h => assumption); (case e => walk_at "ex"))
  | ((refine' SqL.of (Sep.rdC ?S ?e ?h)); (case S => assumption); (case h => assumption); (case e => walk_at "ex"))
  | ((refine' SqT.of (Sep.rdC ?S ?e ?h)); (case S => assumption); (case h => assumption); (case e => walk_at "ex"))
  | ((refine' SqL.of ?h); (case h => assumption)) | ((refine' SqT.of ?h); (case h => assumption))
  | ((refine' Evl.ex_l ?e ?h); (case h => assumption); (case e => walk_at "ex")) | ((refine' Evl.ex_t ?e ?h); (case h => assumption); (case e => walk_at "ex"))
  | ((refine' SqL.of (?e _ _ ?h)); (case h => assumption); (case e => walk_at "ex")) | ((refine' SqT.of (?e _ _ ?h)); (case h => assumption); (case e => walk_at "ex")))
local macro_rules | `(tactic| walk_at "hs") => `(tactic| walk_at "hc")
local macro_rules | `(tactic| walk_at "dp") => `(tactic| first
  | assumption
  | ((refine' Sep.rdD ?S ?e ?h); (case S => assumption); (case h => assumption); (case e => walk_at "ex"))
  | ((refine' Dp.ex ?e _ _ ?h); (case h => assumption); (case e => walk_at "ex"))
  | ((refine' DpAll.ex ?e _ _ ?h); (case h => assumption); (case e => walk_at "ex"))
  | (refine' dp_intsD ?h; (case h => walk_at "hl")))
local macro_rules | `(tactic| walk_at "rd1") => `(tactic| (first
  | (with_reducible refine r_seq ?_)
  | (with_reducible refine r_asg ?_)
  | (with_reducible refine r_asgG ?_)
  | (with_reducible refine r_par ?_)
  | (with_reducible refine r_if ?_)
  | (with_reducible refine r_ret ?_)
  | (with_reducible refine r_drop ?_)
  | (with_reducible refine r_next ?_)
  | ((with_reducible refine' r_var ?hx ?_); (case hx => exact rfl))
  | (with_reducible refine r_c ?_)
  | (with_reducible refine r_op ?_)
  | (with_reducible refine r_un ?_)
  | (with_reducible refine r_I0 ?_)
  | ((with_reducible refine' r_I ?_ ?_); (· first | (show (0 : Int) < _; omega) | exact Or.inr ⟨by omega, by omega⟩ | exact Or.inl ⟨by omega, by omega⟩ | exact ⟨by omega, by omega, by decide⟩))
  | (with_reducible refine r_U ?_)
  | (with_reducible refine r_test ?_)
  | (with_reducible refine r_B ?_)
  | (with_reducible refine r_bl ?_)
  | (with_reducible refine r_eqI ?_)
  | (with_reducible refine r_neI ?_)
  | ((with_reducible refine' r_eq ?_ ?_); (· exact rfl))
  | ((with_reducible refine' r_ne ?_ ?_); (· exact rfl))
  | (with_reducible refine r_nil ?_)
  | (with_reducible refine r_cons ?_)
  | (with_reducible refine s_tup ?_)
  | (with_reducible refine s_lst ?_)
  | (with_reducible refine r_call ?_)
  | (with_reducible refine r_cb ?_)
  | (with_reducible refine r_and ?_)
  | (with_reducible refine r_or ?_)
  | (with_reducible refine r_not ?_)
  | (with_reducible refine r_andV ?_)
  | (with_reducible refine r_orV ?_)
  | (with_reducible refine r_notV ?_)
  | (with_reducible refine r_ifE ?_)
  | (with_reducible refine r_gSub ?_)
  | (with_reducible refine r_sadd ?_)
  | (with_reducible refine s_lstRg ?_)
  | (with_reducible refine r_rg1 ?_)
  | (with_reducible refine r_min2 ?_)
  | (with_reducible refine r_par2 ?_)
  | (with_reducible refine r_partI ?_)
  | (with_reducible refine s_lc ?_)
  | (with_reducible refine s_dc ?_)
  | (with_reducible refine r_yes ?_)
  | (with_reducible refine r_iZipA ?_)
  | (with_reducible refine r_isN ?_)
  | (with_reducible refine r_for ?_)
  | (with_reducible refine r_iList ?_)
  | (with_reducible refine r_iTup ?_)
  | (with_reducible refine r_iRng1 ?_)
  | (with_reducible refine r_iRng2 ?_)
  | (with_reducible refine r_iEnum ?_)
  | (with_reducible refine r_iZip ?_)
  | (with_reducible refine r_gName ?_)
  | (with_reducible refine r_isNV ?_)
  | (with_reducible refine r_notNV ?_)
  | (with_reducible refine r_bm ?_)
  | (with_reducible refine r_bm0 ?_)
  | (with_reducible refine r_sl ?_)
  | (with_reducible refine r_noPart ?_)
  | (with_reducible refine r_part ?_)
  | (with_reducible refine r_chain ?_)
  | (with_reducible refine r_iKeys ?_)
  | (with_reducible refine r_iItems ?_)
  | (with_reducible refine r_frz ?_)
  | (with_reducible refine r_dput ?_)
  | (with_reducible refine r_dget ?_)
  | (with_reducible refine r_din ?_)
  | (with_reducible refine r_dnotin ?_)
  | (with_reducible refine r_break ?_)
  | ((with_reducible refine' r_sIn ?h ?_); (case h => walk_at "hs"))
  | ((with_reducible refine' r_sNotIn ?h ?_); (case h => walk_at "hs"))
  | ((with_reducible refine' r_inI ?h ?_); (case h => walk_at "hl"))
  | ((with_reducible refine' r_notInI ?h ?_); (case h => walk_at "hl"))
  | ((with_reducible refine' r_eqNil ?h ?g ?_); (case h => walk_at "hl"); (case g => walk_at "hl"))
  | ((with_reducible refine' r_neNil ?h ?g ?_); (case h => walk_at "hl"); (case g => walk_at "hl"))
  | ((with_reducible refine' iteRT ?hh ?_); (case hh => exact rfl))
  | ((with_reducible refine' iteRF ?hh ?_); (case hh => exact rfl))
  | ((with_reducible refine' r_isiT ?ty ?hk ?_); (case ty => (first | assumption | exact tyx_L (by assumption) | exact tyx_T (by assumption) | exact .base (.non) | exact .base (.bl _) | exact .base (.int _) | exact .base (.str _) | exact tyx_L (by walk_at "hl") | exact tyx_T (by walk_at "hl"))); (case hk => decide +kernel))
  | ((with_reducible refine' r_isiF ?ty ?hk ?_); (case ty => (first | assumption | exact tyx_L (by assumption) | exact tyx_T (by assumption) | exact .base (.non) | exact .base (.bl _) | exact .base (.int _) | exact .base (.str _) | exact tyx_L (by walk_at "hl") | exact tyx_T (by walk_at "hl"))); (case hk => decide +kernel))
  | ((with_reducible refine' r_gTup2 ?hn ?hs ?_); (case hn => exact rfl); (case hs => walk_at "hl"))
  | ((with_reducible refine' s_list ?hl ?_); (case hl => first | exact Or.inl (by walk_at "hl") | exact Or.inr (by walk_at "hl")))
  | ((with_reducible refine' s_tupN ?hl ?_); (case hl => walk_at "hl"))
  | ((with_reducible refine' s_sortN ?hl ?_); (case hl => walk_at "hl"))
  | ((refine' ⟨_, _, rfl, ?hl, ?_⟩); (case hl => first | exact Or.inl (by walk_at "hl") | exact Or.inr (by walk_at "hl")))
  | ((with_reducible refine' r_ixL ?hl ?ha ?_); (case hl => walk_at "hl"); (case ha => first | exact rfl | assumption))
  | ((with_reducible refine' r_ixT ?hl ?ha ?_); (case hl => walk_at "hl"); (case ha => first | exact rfl | assumption))))
local macro_rules | `(tactic| walk_at "rd") => `(tactic| repeat (walk_at "rd1"))

section
variable {w : World} {K : PySem.W.Frag} {mg : Str → Option Value} {base : Heap}

structure KindF (T : Env K mg) (D : Addr) (j : Nat) : Prop where
  y : ExcC K D
  lt : j < 8
  f0 : PySem.W.kitOne K (.ref D) (.ref T.c_NoHouse) = some (decide (0 = j))
  f1 : PySem.W.kitOne K (.ref D) (.ref T.c_NoTie) = some (decide (1 = j))
  f2 : PySem.W.kitOne K (.ref D) (.ref T.c_NoSet) = some (decide (2 = j))
  f3 : PySem.W.kitOne K (.ref D) (.ref T.c_NoHues) = some (decide (3 = j))
  f4 : PySem.W.kitOne K (.ref D) (.ref T.c_NoStep) = some (decide (4 = j))
  f5 : PySem.W.kitOne K (.ref D) (.ref T.c_NoText) = some (decide (5 = j))
  f6 : PySem.W.kitOne K (.ref D) (.ref T.c_NoRow) = some (decide (6 = j))
  f7 : PySem.W.kitOne K (.ref D) (.ref T.c_NoName) = some (decide (7 = j))
  fa : PySem.W.kitOne K (.ref D) (.ref T.c_ApartError) = some true
  fv : PySem.W.kitOne K (.ref D) (.type "ValueError") = some true
theorem kind_NoHouse (T : Env K mg) : KindF T T.c_NoHouse 0 := ⟨T.y_NoHouse, by decide, T.k_NoHouse_NoHouse, T.k_NoHouse_NoTie, T.k_NoHouse_NoSet, T.k_NoHouse_NoHues, T.k_NoHouse_NoStep, T.k_NoHouse_NoText, T.k_NoHouse_NoRow, T.k_NoHouse_NoName, T.k_NoHouse_ApartError, T.kv_NoHouse⟩
theorem kind_NoTie (T : Env K mg) : KindF T T.c_NoTie 1 := ⟨T.y_NoTie, by decide, T.k_NoTie_NoHouse, T.k_NoTie_NoTie, T.k_NoTie_NoSet, T.k_NoTie_NoHues, T.k_NoTie_NoStep, T.k_NoTie_NoText, T.k_NoTie_NoRow, T.k_NoTie_NoName, T.k_NoTie_ApartError, T.kv_NoTie⟩
theorem kind_NoSet (T : Env K mg) : KindF T T.c_NoSet 2 := ⟨T.y_NoSet, by decide, T.k_NoSet_NoHouse, T.k_NoSet_NoTie, T.k_NoSet_NoSet, T.k_NoSet_NoHues, T.k_NoSet_NoStep, T.k_NoSet_NoText, T.k_NoSet_NoRow, T.k_NoSet_NoName, T.k_NoSet_ApartError, T.kv_NoSet⟩
theorem kind_NoHues (T : Env K mg) : KindF T T.c_NoHues 3 := ⟨T.y_NoHues, by decide, T.k_NoHues_NoHouse, T.k_NoHues_NoTie, T.k_NoHues_NoSet, T.k_NoHues_NoHues, T.k_NoHues_NoStep, T.k_NoHues_NoText, T.k_NoHues_NoRow, T.k_NoHues_NoName, T.k_NoHues_ApartError, T.kv_NoHues⟩
theorem kind_NoStep (T : Env K mg) : KindF T T.c_NoStep 4 := ⟨T.y_NoStep, by decide, T.k_NoStep_NoHouse, T.k_NoStep_NoTie, T.k_NoStep_NoSet, T.k_NoStep_NoHues, T.k_NoStep_NoStep, T.k_NoStep_NoText, T.k_NoStep_NoRow, T.k_NoStep_NoName, T.k_NoStep_ApartError, T.kv_NoStep⟩
theorem kind_NoText (T : Env K mg) : KindF T T.c_NoText 5 := ⟨T.y_NoText, by decide, T.k_NoText_NoHouse, T.k_NoText_NoTie, T.k_NoText_NoSet, T.k_NoText_NoHues, T.k_NoText_NoStep, T.k_NoText_NoText, T.k_NoText_NoRow, T.k_NoText_NoName, T.k_NoText_ApartError, T.kv_NoText⟩
theorem kind_NoRow (T : Env K mg) : KindF T T.c_NoRow 6 := ⟨T.y_NoRow, by decide, T.k_NoRow_NoHouse, T.k_NoRow_NoTie, T.k_NoRow_NoSet, T.k_NoRow_NoHues, T.k_NoRow_NoStep, T.k_NoRow_NoText, T.k_NoRow_NoRow, T.k_NoRow_NoName, T.k_NoRow_ApartError, T.kv_NoRow⟩
theorem kind_NoName (T : Env K mg) : KindF T T.c_NoName 7 := ⟨T.y_NoName, by decide, T.k_NoName_NoHouse, T.k_NoName_NoTie, T.k_NoName_NoSet, T.k_NoName_NoHues, T.k_NoName_NoStep, T.k_NoName_NoText, T.k_NoName_NoRow, T.k_NoName_NoName, T.k_NoName_ApartError, T.kv_NoName⟩
def kindNames : List Str := ["house", "tie", "set", "hues", "step", "text", "row", "name"]
def A_kind (T : Env K mg) : Nat → List V → Hp → Prop := fun j vs F => ∃ (a D : Addr) (d : Option Addr), vs = [.ref a] ∧ ExV F a D d ∧ KindF T D j
def B_kind : Nat → V → List (Addr × Cel) → Hp → Prop := fun j v N F => N = [] ∧ ∃ nm, kindNames[j]? = some nm ∧ v = .str nm
theorem ok_l_kind (T : Env K mg) : FnOk P w K mg base CX0 2 T.a__law_kind T.fd__law_kind ["caught"] (SpF (A_kind T) B_kind) := by
  have nd := sc__law_kind.nd
  refine T.F__law_kind.ok sc__law_kind (fun vs H Q E h => ?_) (fun cdv A outer s H vs Q E hr h => ?_)
  · obtain ⟨j, F, _, ⟨a, D, d, rfl, _⟩, _⟩ := h
    rfl
  · obtain ⟨j, F, fr, ⟨a, D, d, rfl, hx, G⟩, k⟩ := h
    have S := Sep.start0 fr
    have hx := fun {H' : Hp} {M} {F'} (S : Sep [] H F F' H' M) => (hx.ex S.gr).ex S.fr
    refine ⟨_, (pss_cons (ps_set (i := 1) nd rfl (.inl rfl) (pe_lst (pa_cons (pe_callB (id := "isinstance") call_isX (by rfl) T.n_isinstance (by decide +kernel) (pa_cons (pv 0) (pa_cons (pe_glob (v := .ref T.c_NoHouse) (by rfl) T.g_NoHouse rfl) pa_nil))) (pa_cons (pe_callB (id := "isinstance") call_isX (by rfl) T.n_isinstance (by decide +kernel) (pa_cons (pv 0) (pa_cons (pe_glob (v := .ref T.c_NoTie) (by rfl) T.g_NoTie rfl) pa_nil))) (pa_cons (pe_callB (id := "isinstance") call_isX (by rfl) T.n_isinstance (by decide +kernel) (pa_cons (pv 0) (pa_cons (pe_glob (v := .ref T.c_NoSet) (by rfl) T.g_NoSet rfl) pa_nil))) pa_nil)))))
      (pss_cons (ps_set (i := 1) nd rfl (.inl rfl) (pe_op op_cat (pv 1) (pe_lst (pa_cons (pe_callB (id := "isinstance") call_isX (by rfl) T.n_isinstance (by decide +kernel) (pa_cons (pv 0) (pa_cons (pe_glob (v := .ref T.c_NoHues) (by rfl) T.g_NoHues rfl) pa_nil))) (pa_cons (pe_callB (id := "isinstance") call_isX (by rfl) T.n_isinstance (by decide +kernel) (pa_cons (pv 0) (pa_cons (pe_glob (v := .ref T.c_NoStep) (by rfl) T.g_NoStep rfl) pa_nil))) (pa_cons (pe_callB (id := "isinstance") call_isX (by rfl) T.n_isinstance (by decide +kernel) (pa_cons (pv 0) (pa_cons (pe_glob (v := .ref T.c_NoText) (by rfl) T.g_NoText rfl) pa_nil))) pa_nil))))))
      (pss_cons (ps_set (i := 1) nd rfl (.inl rfl) (pe_op op_cat (pv 1) (pe_lst (pa_cons (pe_callB (id := "isinstance") call_isX (by rfl) T.n_isinstance (by decide +kernel) (pa_cons (pv 0) (pa_cons (pe_glob (v := .ref T.c_NoRow) (by rfl) T.g_NoRow rfl) pa_nil))) (pa_cons (pe_callB (id := "isinstance") call_isX (by rfl) T.n_isinstance (by decide +kernel) (pa_cons (pv 0) (pa_cons (pe_glob (v := .ref T.c_NoName) (by rfl) T.g_NoName rfl) pa_nil))) pa_nil)))))
      (pss_cons (ps_if (PW.pt (pw_or (pt_cmpR op_ne (pe_bm PySem.F.plainAttrs_list PySem.F.slot_list_count PySem.F.type_list_count mt_cntV (pv 1) (pa_cons pe_bl pa_nil)) pe_int (nomark _)) (pw_or (pt_not (pt_val (pe_callB (id := "isinstance") call_isX (by rfl) T.n_isinstance (by decide +kernel) (pa_cons (pv 0) (pa_cons (pe_glob (v := .ref T.c_ApartError) (by rfl) T.g_ApartError rfl) pa_nil))))) (pw_or1 (pt_not (pt_val (pe_callB (id := "isinstance") call_isX (by rfl) T.n_isinstance (by decide +kernel) (pa_cons (pv 0) (pa_cons (pe_bltn (v := .ty "ValueError") (u := .type "ValueError") (by rfl) T.n_ValueError (by decide +kernel) rfl) pa_nil))))))))) (pss_one (ps_ret pe_str)) pss_nil)
      (pss_one (ps_ret (pe_ix ix_list (pe_lst (pa_cons pe_str (pa_cons pe_str (pa_cons pe_str (pa_cons pe_str (pa_cons pe_str (pa_cons pe_str (pa_cons pe_str (pa_cons pe_str pa_nil))))))))) (pe_bm PySem.F.plainAttrs_list PySem.F.slot_list_index PySem.F.type_list_index mt_index (pv 1) (pa_cons pe_bl pa_nil)) (fun _ _ => rfl)))))))), ?_⟩
    walk_at "rd"
    refine r_isX (hx S) G.y G.f0 ?_
    walk_at "rd"
    refine r_isX (hx S) G.y G.f1 ?_
    walk_at "rd"
    refine r_isX (hx S) G.y G.f2 ?_
    walk_at "rd"
    refine ⟨by show 3 ≤ sizeLine; decide, s_new S fun q1 F1 H1 S e1 g1 => ?_⟩
    walk_at "rd"
    refine r_isX (hx S) G.y G.f3 ?_
    walk_at "rd"
    refine r_isX (hx S) G.y G.f4 ?_
    walk_at "rd"
    refine r_isX (hx S) G.y G.f5 ?_
    walk_at "rd"
    refine ⟨by show 3 ≤ sizeLine; decide, s_new S fun q2 F2 H2 S e2 g2 => ?_⟩
    refine s_cat (S.fr _ _ (e2 _ _ g1)) (S.fr _ _ g2) (by simp) ?_
    refine s_new S fun q3 F3 H3 S e3 g3 => ?_
    walk_at "rd"
    refine r_isX (hx S) G.y G.f6 ?_
    walk_at "rd"
    refine r_isX (hx S) G.y G.f7 ?_
    walk_at "rd"
    refine ⟨by show 2 ≤ sizeLine; decide, s_new S fun q4 F4 H4 S e4 g4 => ?_⟩
    refine s_cat (S.fr _ _ (e4 _ _ g3)) (S.fr _ _ g4) (by simp) ?_
    generalize hbs : [V.bl (decide (0 = j)), V.bl (decide (1 = j)), V.bl (decide (2 = j))] ++ [V.bl (decide (3 = j)), V.bl (decide (4 = j)), V.bl (decide (5 = j))] ++ [V.bl (decide (6 = j)), V.bl (decide (7 = j))] = bs
    refine s_new S fun q5 F5 H5 S e5 g5 => ?_
    have j8 := G.lt
    have fl : bs.all flatV = true := by rw [← hbs]; rfl
    have cnt : bs.countP (fun z => eqV z (.bl true)) = 1 := by
      rw [← hbs]
      rcases (show j = 0 ∨ j = 1 ∨ j = 2 ∨ j = 3 ∨ j = 4 ∨ j = 5 ∨ j = 6 ∨ j = 7 by omega) with rfl | rfl | rfl | rfl | rfl | rfl | rfl | rfl <;> rfl
    have ix : bs[j]? = some (.bl true) ∧ ∀ (m : Nat) (z : V), m < j → bs[m]? = some z → eqV z (.bl true) = false := by
      rw [← hbs]
      rcases (show j = 0 ∨ j = 1 ∨ j = 2 ∨ j = 3 ∨ j = 4 ∨ j = 5 ∨ j = 6 ∨ j = 7 by omega) with rfl | rfl | rfl | rfl | rfl | rfl | rfl | rfl <;> refine ⟨rfl, fun m z hm hz => ?_⟩ <;> (first | omega | skip) <;>
        (rcases (show m = 0 ∨ m = 1 ∨ m = 2 ∨ m = 3 ∨ m = 4 ∨ m = 5 ∨ m = 6 by omega) with rfl | rfl | rfl | rfl | rfl | rfl | rfl <;> first | omega | (cases hz; rfl))
    clear hbs
    walk_at "rd"
    refine ⟨tyL (by walk_at "hl"), ?_⟩
    walk_at "rd"
    refine ⟨q5, bs, _, rfl, rfl, by walk_at "hl", rfl, fl, ?_⟩
    rw [cnt]
    walk_at "rd"
    refine r_isX (hx S) G.y G.fa ?_
    walk_at "rd"
    refine r_isXV (hx S) G.y G.fv ?_
    walk_at "rd"
    refine ⟨by show 8 ≤ sizeLine; decide, s_new S fun q6 F6 H6 S e6 g6 => ?_⟩
    walk_at "rd"
    refine ⟨tyL (by walk_at "hl"), ?_⟩
    walk_at "rd"
    refine ⟨q5, bs, _, j, _, rfl, rfl, by walk_at "hl", rfl, fl, ix.1, rfl, ix.2, ?_⟩
    obtain ⟨nm, hnm⟩ : ∃ nm, kindNames[j]? = some nm := ⟨_, List.getElem?_eq_getElem (by show j < 8; omega)⟩
    refine r_ixL (K := K) (v := .str nm) (by walk_at "hl") (atI_of (by omega) ?_) (k _ [] _ _ S ⟨rfl, nm, hnm, rfl⟩)
    rw [Int.toNat_natCast]
    rcases (show j = 0 ∨ j = 1 ∨ j = 2 ∨ j = 3 ∨ j = 4 ∨ j = 5 ∨ j = 6 ∨ j = 7 by omega) with rfl | rfl | rfl | rfl | rfl | rfl | rfl | rfl <;> (cases hnm; rfl)

end

end
section
local macro_rules | `(tactic| walk_at "ex") => `(tactic| first | exact Evl.Ex.refl _ | assumption | ((refine' Evl.Ex.trans ?x ?y); (case y => assumption); (case x => walk_at "ex")))
local macro_rules | `(tactic| walk_at "hc") => `(tactic| first
  | assumption
  | ((refine' Sep.rdM ?S 0 ?k); (case S => assumption); (case k => exact rfl)) | ((refine' Sep.rdM ?S 1 ?k); (case S => assumption); (case k => exact rfl)) | ((refine' Sep.rdM ?S 2 ?k); (case S => assumption); (case k => exact rfl)) | ((refine' Sep.rdM ?S 3 ?k); (case S => assumption); (case k => exact rfl)) | ((refine' Sep.rdM ?S 4 ?k); (case S => assumption); (case k => exact rfl))
  | ((refine' Sep.rdC ?S ?e ?h); (case S => assumption); (case h => assumption); (case e => walk_at "ex")))
local macro_rules | `(tactic| walk_at "hl") => `(tactic| first
  | assumption
  | ((refine' SqL.of (Sep.rdM ?S 0 ?k)); (case S => assumption); (case k => exact rfl)) | ((refine' SqL.of (Sep.rdM ?S 1 ?k)); (case S => assumption); (case k => exact rfl)) | ((refine' SqL.of (Sep.rdM ?S 2 ?k)); (case S => assumption); (case k => exact rfl)) | ((refine' SqL.of (Sep.rdM ?S 3 ?k)); (case S => assumption); (case k => exact rfl)) | ((refine' SqL.of (Sep.rdM ?S 4 ?k)); (case S => assumption); (case k => exact rfl))
  | ((refine' Sep.rdL ?S ?e ?h); (case S => assumption); (case h => assumption); (case e => walk_at "ex"))
  | ((refine' Sep.rdT ?S ?e ?h); (case S => assumption); (case h => assumption); (case e => walk_at "ex"))
  | ((refine' SqL.of (Sep.rdC ?S ?e ?h)); (case S => assumption); (case h => assumption); (case e => walk_at "ex"))
  | ((refine' SqT.of (Sep.rdC ?S ?e ?h)); (case S => assumption); (case h => assumption); (case e => walk_at "ex"))
  | ((refine' SqL.of ?h); (case h => assumption)) | ((refine' SqT.of ?h); (case h => assumption))
  | ((refine' Evl.ex_l ?e ?h); (case h => assumption); (case e => walk_at "ex")) | ((refine' Evl.ex_t ?e ?h); (case h => assumption); (case e => walk_at "ex"))
  | ((refine' SqL.of (?e _ _ ?h)); (case h => assumption); (case e => walk_at "ex")) | ((refine' SqT.of (?e _ _ ?h)); (case h => assumption); (case e => walk_at "ex")))
local macro_rules | `(tactic| walk_at "hs") => `(tactic| walk_at "hc")
local macro_rules | `(tactic| walk_at "dp") => `(tactic| first
  | assumption
  | ((refine' Sep.rdD ?S ?e ?h); (case S => assumption); (case h => assumption); (case e => walk_at "ex"))
  | ((refine' Dp.ex ?e _ _ ?h); (case h => assumption); (case e => walk_at "ex"))
  | ((refine' DpAll.ex ?e _ _ ?h); (case h => assumption); (case e => walk_at "ex"))
  | (refine' dp_intsD ?h; (case h => walk_at "hl")))
local macro_rules | `(tactic| walk_at "rd1") => `(tactic| (first
  | (with_reducible refine r_seq ?_)
  | (with_reducible refine r_asg ?_)
  | (with_reducible refine r_asgG ?_)
  | (with_reducible refine r_par ?_)
  | (with_reducible refine r_if ?_)
  | (with_reducible refine r_ret ?_)
  | (with_reducible refine r_drop ?_)
  | (with_reducible refine r_next ?_)
  | ((with_reducible refine' r_var ?hx ?_); (case hx => exact rfl))
  | (with_reducible refine r_c ?_)
  | (with_reducible refine r_op ?_)
  | (with_reducible refine r_un ?_)
  | (with_reducible refine r_I0 ?_)
  | ((with_reducible refine' r_I ?_ ?_); (· first | (show (0 : Int) < _; omega) | exact Or.inr ⟨by omega, by omega⟩ | exact Or.inl ⟨by omega, by omega⟩ | exact ⟨by omega, by omega, by decide⟩))
  | (with_reducible refine r_U ?_)
  | (with_reducible refine r_test ?_)
  | (with_reducible refine r_B ?_)
  | (with_reducible refine r_bl ?_)
  | (with_reducible refine r_eqI ?_)
  | (with_reducible refine r_neI ?_)
  | ((with_reducible refine' r_eq ?_ ?_); (· exact rfl))
  | ((with_reducible refine' r_ne ?_ ?_); (· exact rfl))
  | (with_reducible refine r_nil ?_)
  | (with_reducible refine r_cons ?_)
  | (with_reducible refine s_tup ?_)
  | (with_reducible refine s_lst ?_)
  | (with_reducible refine r_call ?_)
  | (with_reducible refine r_cb ?_)
  | (with_reducible refine r_and ?_)
  | (with_reducible refine r_or ?_)
  | (with_reducible refine r_not ?_)
  | (with_reducible refine r_andV ?_)
  | (with_reducible refine r_orV ?_)
  | (with_reducible refine r_notV ?_)
  | (with_reducible refine r_ifE ?_)
  | (with_reducible refine r_gSub ?_)
  | (with_reducible refine r_sadd ?_)
  | (with_reducible refine s_lstRg ?_)
  | (with_reducible refine r_rg1 ?_)
  | (with_reducible refine r_min2 ?_)
  | (with_reducible refine r_par2 ?_)
  | (with_reducible refine r_partI ?_)
  | (with_reducible refine s_lc ?_)
  | (with_reducible refine s_dc ?_)
  | (with_reducible refine r_yes ?_)
  | (with_reducible refine r_iZipA ?_)
  | (with_reducible refine r_isN ?_)
  | (with_reducible refine r_for ?_)
  | (with_reducible refine r_iList ?_)
  | (with_reducible refine r_iTup ?_)
  | (with_reducible refine r_iRng1 ?_)
  | (with_reducible refine r_iRng2 ?_)
  | (with_reducible refine r_iEnum ?_)
  | (with_reducible refine r_iZip ?_)
  | (with_reducible refine r_gName ?_)
  | (with_reducible refine r_isNV ?_)
  | (with_reducible refine r_notNV ?_)
  | (with_reducible refine r_bm ?_)
  | (with_reducible refine r_bm0 ?_)
  | (with_reducible refine r_sl ?_)
  | (with_reducible refine r_noPart ?_)
  | (with_reducible refine r_part ?_)
  | (with_reducible refine r_chain ?_)
  | (with_reducible refine r_iKeys ?_)
  | (with_reducible refine r_iItems ?_)
  | (with_reducible refine r_frz ?_)
  | (with_reducible refine r_dput ?_)
  | (with_reducible refine r_dget ?_)
  | (with_reducible refine r_din ?_)
  | (with_reducible refine r_dnotin ?_)
  | (with_reducible refine r_break ?_)
  | ((with_reducible refine' r_sIn ?h ?_); (case h => walk_at "hs"))
  | ((with_reducible refine' r_sNotIn ?h ?_); (case h => walk_at "hs"))
  | ((with_reducible refine' r_inI ?h ?_); (case h => walk_at "hl"))
  | ((with_reducible refine' r_notInI ?h ?_); (case h => walk_at "hl"))
  | ((with_reducible refine' r_eqNil ?h ?g ?_); (case h => walk_at "hl"); (case g => walk_at "hl"))
  | ((with_reducible refine' r_neNil ?h ?g ?_); (case h => walk_at "hl"); (case g => walk_at "hl"))
  | ((with_reducible refine' iteRT ?hh ?_); (case hh => exact rfl))
  | ((with_reducible refine' iteRF ?hh ?_); (case hh => exact rfl))
  | ((with_reducible refine' r_isiT ?ty ?hk ?_); (case ty => (first | assumption | exact tyx_L (by assumption) | exact tyx_T (by assumption) | exact .base (.non) | exact .base (.bl _) | exact .base (.int _) | exact .base (.str _) | exact tyx_L (by walk_at "hl") | exact tyx_T (by walk_at "hl"))); (case hk => decide +kernel))
  | ((with_reducible refine' r_isiF ?ty ?hk ?_); (case ty => (first | assumption | exact tyx_L (by assumption) | exact tyx_T (by assumption) | exact .base (.non) | exact .base (.bl _) | exact .base (.int _) | exact .base (.str _) | exact tyx_L (by walk_at "hl") | exact tyx_T (by walk_at "hl"))); (case hk => decide +kernel))
  | ((with_reducible refine' r_gTup2 ?hn ?hs ?_); (case hn => exact rfl); (case hs => walk_at "hl"))
  | ((with_reducible refine' s_list ?hl ?_); (case hl => first | exact Or.inl (by walk_at "hl") | exact Or.inr (by walk_at "hl")))
  | ((with_reducible refine' s_tupN ?hl ?_); (case hl => walk_at "hl"))
  | ((with_reducible refine' s_sortN ?hl ?_); (case hl => walk_at "hl"))
  | ((refine' ⟨_, _, rfl, ?hl, ?_⟩); (case hl => first | exact Or.inl (by walk_at "hl") | exact Or.inr (by walk_at "hl")))
  | ((with_reducible refine' r_ixL ?hl ?ha ?_); (case hl => walk_at "hl"); (case ha => first | exact rfl | assumption))
  | ((with_reducible refine' r_ixT ?hl ?ha ?_); (case hl => walk_at "hl"); (case ha => first | exact rfl | assumption))))
local macro_rules | `(tactic| walk_at "rd") => `(tactic| repeat (walk_at "rd1"))

section
variable {w : World} {K : PySem.W.Frag} {mg : Str → Option Value} {base : Heap}

def A_fx : (Int × Int) → List V → Hp → Prop := fun f vs _ => vs = [.int f.1, .int f.2] ∧ 0 < f.2 ∧ Big8 f.2
def B_fx (K : PySem.W.Frag) : (Int × Int) → V → List (Addr × Cel) → Hp → Prop := fun f v N F => N = [] ∧ Dp K F v (tieD (lowF f))
theorem ok_fraction_of (T : Env K mg) : FnOk P w K mg base CX0 1 T.a_fraction_of T.fd_fraction_of ["over", "under"] (SpF A_fx (B_fx K)) := by
  have nd := sc_fraction_of.nd
  refine T.F_fraction_of.ok sc_fraction_of (fun vs H Q E h => ?_) (fun cdv A outer s H vs Q E hr h => ?_)
  · obtain ⟨_, F, _, ⟨rfl, _⟩, _⟩ := h
    rfl
  · obtain ⟨f, F, fr, ⟨rfl, h2, h3⟩, k⟩ := h
    have S := Sep.start0 fr
    have gd := gOf_div h2 h3
    refine ⟨_, (pss_cons (ps_set (i := 2) nd rfl (.inl rfl) (pe_callBfun cr_gcd (by rfl) T.g_gcd (pa_cons (pv 0) (pa_cons (pv 1) pa_nil))))
      (pss_one (ps_ret (pe_tup (pa_cons (pe_op op_fdivW (pv 0) (pv 2)) (pa_cons (pe_op op_fdivW (pv 1) (pv 2)) pa_nil)))))), ?_⟩
    walk_at "rd"
    refine ⟨f.1, f.2, rfl, ?_⟩
    walk_at "rd"
    refine ⟨_, _, rfl, rfl, gd, ?_⟩
    walk_at "rd"
    refine ⟨_, _, rfl, rfl, gd, ?_⟩
    walk_at "rd"
    refine ⟨by show 2 ≤ sizeLine; decide, s_new S fun q F1 H1 S e1 c1 => ?_⟩
    exact k _ [] _ _ S ⟨rfl, .tup (SqT.of c1) (.cons (.int _) (.cons (.int _) .nil))⟩
def A_lfx : (Int × Int) → List V → Hp → Prop := fun f vs _ => vs = [.int f.1, .int f.2] ∧ 0 ≤ f.1 ∧ 0 < f.2 ∧ Big8 f.2
theorem ok_l_lowest (T : Env K mg) : FnOk P w K mg base CX0 1 T.a__law_lowest T.fd__law_lowest ["over", "under"] (SpF A_lfx (B_fx K)) := by
  have nd := sc__law_lowest.nd
  refine T.F__law_lowest.ok sc__law_lowest (fun vs H Q E h => ?_) (fun cdv A outer s H vs Q E hr h => ?_)
  · obtain ⟨_, F, _, ⟨rfl, _⟩, _⟩ := h
    rfl
  · obtain ⟨f, F, fr, ⟨rfl, h1, h2, h3⟩, k⟩ := h
    have S := Sep.start0 fr
    have gd := gOf_div h2 h3
    refine ⟨_, (pss_cons (ps_par (i := 2) (j := 3) (by rfl) nd rfl rfl (by decide) rfl rfl (pa_cons (pv 0) (pa_cons (pv 1) pa_nil)) (by rfl))
      (pss_cons (ps_while PassesOwn.never (pt_cmpR op_ne (pv 3) pe_int (nomark _)) (pss_one (ps_par (i := 2) (j := 3) (by rfl) nd rfl rfl (by decide) rfl rfl (pa_cons (pv 3) (pa_cons (pe_op op_mod (pv 2) (pv 3)) pa_nil)) (by rfl))))
      (pss_one (ps_ret (pe_tup (pa_cons (pe_op op_fdivW (pv 0) (pv 2)) (pa_cons (pe_op op_fdivW (pv 1) (pv 2)) pa_nil))))))), ?_⟩
    walk_at "rd"
    refine s_while (fun n σ' F' M' => ∃ a b : Int, σ' = [some (.int f.1), some (.int f.2), some (.int a), some (.int b)] ∧ M' = [] ∧ n = b.natAbs ∧ 0 ≤ a ∧ 0 ≤ b ∧ Nat.gcd a.natAbs b.natAbs = Nat.gcd f.1.natAbs f.2.natAbs) S f.2.natAbs ⟨_, _, rfl, rfl, rfl, h1, by omega, rfl⟩ ?_
    rintro n σ' F1 H1 M' S e1 ⟨a, b, rfl, rfl, rfl, g1, g2, g3⟩
    walk_at "rd"
    refine iteB (fun c => ?_) (fun c => ?_)
    · have hb : b ≠ 0 := fun z => by rw [z] at c; exact absurd c (by decide)
      refine ⟨_, fun _ _ z => z, ?_⟩
      walk_at "rd"
      have m1 := Int.emod_nonneg a hb
      have m2 := Int.emod_lt_of_pos a (show 0 < b by omega)
      refine ⟨(a % b).natAbs, by omega, _, _, S, e1, b, a % b, rfl, rfl, rfl, g2, m1, ?_⟩
      rw [gcd_step g1 (by omega)]
      exact g3
    · have hb : b = 0 := Decidable.byContradiction fun z => by
        have : (decide (V.int b = V.int 0)) = false := decide_eq_false fun q => z (V.int.inj q)
        simp [this] at c
        exact z c
      subst hb
      have ea : a = gOf f := by
        unfold gOf
        rw [← g3]
        show a = ((Nat.gcd a.natAbs 0 : Nat) : Int)
        rw [Nat.gcd_zero_right, Int.natAbs_of_nonneg g1]
      subst ea
      walk_at "rd"
      refine ⟨_, _, rfl, rfl, gd, ?_⟩
      walk_at "rd"
      refine ⟨_, _, rfl, rfl, gd, ?_⟩
      walk_at "rd"
      refine ⟨by show 2 ≤ sizeLine; decide, s_new S fun q F2 H2 S e2 c2 => ?_⟩
      exact k _ [] _ _ S ⟨rfl, .tup (SqT.of c2) (.cons (.int _) (.cons (.int _) .nil))⟩

end

end
section
local macro_rules | `(tactic| walk_at "rd1") => `(tactic| (first
  | (with_reducible refine r_seq ?_) | (with_reducible refine r_asg ?_) | (with_reducible refine r_asgG ?_) | (with_reducible refine r_par ?_) | (with_reducible refine r_if ?_) | (with_reducible refine r_ret ?_) | (with_reducible refine r_drop ?_) | (with_reducible refine r_next ?_)
  | ((with_reducible refine' r_var ?hx ?_); (case hx => exact rfl)) | (with_reducible refine r_c ?_) | (with_reducible refine r_op ?_) | (with_reducible refine r_un ?_) | (with_reducible refine r_I0 ?_) | ((with_reducible refine r_I ?_ ?_); (· first | (show (0 : Int) < _; omega) | exact Or.inr ⟨by omega, by omega⟩ | exact Or.inl ⟨by omega, by omega⟩ | exact ⟨by omega, by omega, by decide⟩)) | (with_reducible refine r_U ?_)
  | (with_reducible refine r_test ?_) | (with_reducible refine r_B ?_) | (with_reducible refine r_bl ?_) | (with_reducible refine r_eqI ?_) | (with_reducible refine r_neI ?_)
  | ((with_reducible refine r_eq ?_ ?_); (· exact rfl)) | ((with_reducible refine r_ne ?_ ?_); (· exact rfl))
  | (with_reducible refine r_nil ?_) | (with_reducible refine r_cons ?_) | (with_reducible refine r_tup ?_) | (with_reducible refine r_lst ?_) | (with_reducible refine r_call ?_) | (with_reducible refine r_cb ?_)
  | (with_reducible refine r_and ?_) | (with_reducible refine r_or ?_) | (with_reducible refine r_not ?_) | (with_reducible refine r_andV ?_) | (with_reducible refine r_orV ?_) | (with_reducible refine r_notV ?_) | (with_reducible refine r_ifE ?_) | (with_reducible refine r_gSub ?_) | ((with_reducible refine' r_sIn ?h ?_); (case h => assumption)) | ((with_reducible refine' r_sNotIn ?h ?_); (case h => assumption)) | (with_reducible refine r_sadd ?_) | ((with_reducible refine' r_inI ?h ?_); (case h => assumption)) | ((with_reducible refine' r_notInI ?h ?_); (case h => assumption)) | ((with_reducible refine' r_eqNil ?h ?g ?_); (case h => assumption); (case g => assumption)) | ((with_reducible refine' r_neNil ?h ?g ?_); (case h => assumption); (case g => assumption)) | (with_reducible refine r_lstRg ?_) | (with_reducible refine r_rg1 ?_) | (with_reducible refine r_min2 ?_) | (with_reducible refine r_par2 ?_) | (with_reducible refine r_partI ?_) | (with_reducible refine r_lc ?_) | (with_reducible refine r_yes ?_) | (with_reducible refine r_iZipA ?_) | (with_reducible refine r_isN ?_) | ((with_reducible refine' iteRT ?hh ?_); (case hh => exact rfl)) | ((with_reducible refine' iteRF ?hh ?_); (case hh => exact rfl)) | ((with_reducible refine' r_isiT ?ty ?hk ?_); (case ty => first | assumption | exact tyx_L (by assumption) | exact tyx_T (by assumption) | exact .base (.non) | exact .base (.bl _) | exact .base (.int _) | exact .base (.str _)); (case hk => decide +kernel)) | ((with_reducible refine' r_isiF ?ty ?hk ?_); (case ty => first | assumption | exact tyx_L (by assumption) | exact tyx_T (by assumption) | exact .base (.non) | exact .base (.bl _) | exact .base (.int _) | exact .base (.str _)); (case hk => decide +kernel)) | (with_reducible refine r_for ?_) | (with_reducible refine r_iList ?_) | (with_reducible refine r_iTup ?_) | (with_reducible refine r_iRng1 ?_) | (with_reducible refine r_iRng2 ?_) | (with_reducible refine r_iEnum ?_) | (with_reducible refine r_iZip ?_) | (with_reducible refine r_gName ?_) | ((with_reducible refine' r_gTup2 ?hn ?hs ?_); (case hn => exact rfl); (case hs => first | assumption | exact SqT.of upd_same)) | (with_reducible refine r_bm ?_) | (with_reducible refine r_bm0 ?_) | (with_reducible refine r_sl ?_) | (with_reducible refine r_noPart ?_) | (with_reducible refine r_part ?_) | (with_reducible refine r_partI ?_) | ((refine' ⟨_, _, rfl, ?hl, ?_⟩); (case hl => first | exact Or.inl (by assumption) | exact Or.inr (by assumption)))
  | ((with_reducible refine' r_ixL ?hl ?ha ?_); (case hl => assumption); (case ha => first | exact rfl | assumption)) | ((with_reducible refine' r_ixT ?hl ?ha ?_); (case hl => assumption); (case ha => first | exact rfl | assumption))
  | ((with_reducible refine' r_setL ?hl ?hj ?_); (case hl => assumption); (case hj => first | exact rfl | assumption))))
local macro_rules | `(tactic| walk_at "rd") => `(tactic| repeat (walk_at "rd1"))

section
variable {w : World} {K : PySem.W.Frag} {mg : Str → Option Value} {base : Heap}

def sp_near (K : PySem.W.Frag) : Sp := fun vs H Q _ => ∃ (v : V) (many : Int) (ties : List (Int × Int)), vs = [v] ∧ Dp K H v (webD many ties) ∧ WebOk many ties ∧ ∀ (u : V) (H' : Hp), Evl.Ex H H' → LsN H H' u many.toNat (nbr ties) → Q u H'
theorem ok_near0 (T : Env K mg) : FnOk P w K mg base CX0 1 T.a_neighbours T.fd_neighbours ["web"] (sp_near K) := by
  have nd := sc_neighbours.nd
  refine T.F_neighbours.ok sc_neighbours (fun vs H Q E h => ?_) (fun cdv A outer s H vs Q E hr h => ?_)
  · obtain ⟨v, a, t, rfl, _⟩ := h
    rfl
  · obtain ⟨v, many, ties, rfl, hv, W, k⟩ := h
    obtain ⟨wa, wb, ws, rfl, s1, s2, s3⟩ := webD_at hv
    have w1 := W.lo
    have w2 := W.hi
    refine ⟨_, (pss_cons (ps_asg (pv 0) (pg_tup rfl (pgs_cons (pg_name (i := 1) nd rfl (.inl rfl)) (pgs_cons (pg_name (i := 2) nd rfl (.inl rfl)) pgs_nil))))
      (pss_cons (ps_setLc (i := 3) (own := [("_", 6)]) (g := gName 6) (tt := tYes) (te := (tLst tNil)) rfl nd rfl rfl (sw_true rfl rfl rfl (by decide +kernel)) (pi_range1 (by rfl) T.n_range (pa_cons (pv 1) pa_nil)) (blkOk_by (N := ["web", "many", "ties", "near", "one", "other", "_"]) (sc := defScope s_neighbours) (by decide +kernel)) (fun _ _ _ _ _ => (pg_name (i := 6) nd rfl (.inl rfl))) (fun _ _ _ _ _ => pts_nil) (fun _ _ _ _ _ => (pe_lst pa_nil)))
      (pss_cons (ps_for PassesOwn.never rfl (pi_tup (pv 2)) (pg_tup rfl (pgs_cons (pg_name (i := 4) nd rfl (.inl rfl)) (pgs_cons (pg_name (i := 5) nd rfl (.inl rfl)) pgs_nil))) (pss_cons (ps_expr (pe_bm PySem.F.plainAttrs_list PySem.F.slot_list_append PySem.F.type_list_append mt_append (pe_ix ix_list (pv 3) (pv 4) (fun _ _ => rfl)) (pa_cons (pv 5) pa_nil)))
      (pss_one (ps_expr (pe_bm PySem.F.plainAttrs_list PySem.F.slot_list_append PySem.F.type_list_append mt_append (pe_ix ix_list (pv 3) (pv 5) (fun _ _ => rfl)) (pa_cons (pv 4) pa_nil))))))
      (pss_one (ps_ret (pv 3)))))), ?_⟩
    walk_at "rd"
    refine ⟨many, rfl, by omega, by omega, fun D hD => ?_⟩
    refine lc_it walk_range (fun i H' => ∃ as : List Addr, H' D = some (.lst (as.map V.ref)) ∧ as.length = i ∧ as.Nodup ∧ (∀ a ∈ as, H' a = some (.lst []) ∧ H a = none ∧ a ≠ D) ∧ Evl.Ex H H') ?_ ?_ ?_ ?_
    · exact ⟨[], upd_same, rfl, List.nodup_nil, (fun a ha => by cases ha), Evl.Ex.new hD⟩
    · intro _ _ _ _
      trivial
    · rintro i v H1 H2 hi ⟨as, h1, h2, h3, h4, e1⟩ ⟨rfl, rfl⟩
      walk_at "rd"
      refine ⟨rfl, ?_⟩
      walk_at "rd"
      refine ⟨Nat.zero_le _, fun q hq => ?_⟩
      have Dq : D ≠ q := ne_of_none h1 hq
      have qH := Evl.fresh_back e1 hq
      refine ⟨as.map V.ref, by rw [upd_ne Dq]; exact h1, Evl.sz_lt (by rw [List.length_map]; omega), as ++ [q], by rw [upd_same, List.map_append]; rfl, by rw [List.length_append]; simp [h2], ?_, ?_, ((e1.trans (Evl.Ex.new hq)).mut hD)⟩
      · refine List.nodup_append.mpr ⟨h3, by simp, fun a ha b hb e => ?_⟩
        rw [List.mem_singleton] at hb
        rw [e, hb] at ha
        exact absurd (h4 q ha).1 (by rw [hq]; intro z; cases z)
      · intro a ha
        rcases List.mem_append.mp ha with ha | ha
        · obtain ⟨g1, g2, g3⟩ := h4 a ha
          exact ⟨by rw [upd_ne g3, upd_ne (ne_of_none g1 hq)]; exact g1, g2, g3⟩
        · rw [List.mem_singleton] at ha
          subst ha
          exact ⟨by rw [upd_ne Dq.symm, upd_same], qH, Dq.symm⟩
    · rintro H1 ⟨as, h1, h2, h3, h4, e1⟩
      have f1 := Evl.ex_t e1 s1
      walk_at "rd"
      refine ⟨wb, rfl, ⟨ws, Evl.ex_t e1 s2⟩, ?_⟩
      have l3 := dpAll_get s3
      rw [List.length_map] at l3
      refine for_it (walk_tup (xs := ws)) (fun i σ' H' => ∃ x4 x5 : Option V, σ' = [some (.ref wa), some (.int many), some (.ref wb), some (.ref D), x4, x5, none] ∧ H' D = some (.lst (as.map V.ref)) ∧ (∀ (j : Nat) (a : Addr), as[j]? = some a → H' a = some (.lst ((nbr (ties.take i) (j : Int)).map V.int))) ∧ Evl.Ex H H') ?_ ?_ ?_ ?_
      · exact ⟨none, none, rfl, h1, fun j a ha => (h4 a (List.mem_of_getElem? ha)).1, e1⟩
      · rintro i σ' H' _ ⟨_, _, _, _, _, e2⟩
        exact Evl.ex_t e2 s2
      · rintro i v σ' H2 H3 hi ⟨x4, x5, rfl, g1, g2, e2⟩ ⟨rfl, ey⟩
        obtain ⟨d, d1, d2⟩ := l3.2 i v ey
        rw [List.getElem?_map] at d1
        cases et : ties[i]? with
        | none => rw [et] at d1; cases d1
        | some t =>
          rw [et] at d1
          cases d1
          obtain ⟨ta, rfl, st⟩ := tieD_at (Dp.ex e2 _ _ d2)
          have ht := W.ok t (List.mem_of_getElem? et)
          have sD : SqL K H3 D (as.map V.ref) := SqL.of g1
          have lx : t.1.toNat < as.length := by omega
          have ly : t.2.toNat < as.length := by omega
          have ex := List.getElem?_eq_getElem lx
          have ey := List.getElem?_eq_getElem ly
          have ax : atI (as.map V.ref) t.1 = some (.ref as[t.1.toNat]) := atI_of ht.1 (by rw [List.getElem?_map, ex]; rfl)
          have ay : atI (as.map V.ref) t.2 = some (.ref as[t.2.toNat]) := atI_of (by omega) (by rw [List.getElem?_map, ey]; rfl)
          have nxy : as[t.1.toNat] ≠ as[t.2.toNat] := fun q => by
            have := nd_ix' h3 ex (q ▸ ey)
            omega
          have nxD := (h4 _ (List.getElem_mem lx)).2
          have nyD := (h4 _ (List.getElem_mem ly)).2
          have px := g2 _ _ ex
          have py := g2 _ _ ey
          have tk : ties.take (i + 1) = ties.take i ++ [t] := by rw [List.take_add_one, et]; rfl
          have nl : ∀ h : Int, (nbr (ties.take i) h).length ≤ 3600 := fun h => by
            have := List.length_filterMap_le (oth h) (ties.take i)
            have := ties_len W
            rw [List.length_take] at *
            unfold nbr
            omega
          walk_at "rd"
          refine ⟨tyL (SqL.of px), ?_⟩
          walk_at "rd"
          refine r_app px (by rw [List.length_map]; have := nl ((t.1.toNat : Nat) : Int); omega) ?_
          generalize hH4 : upd H3 as[t.1.toNat] _ = H4
          have g1' : H4 D = some (.lst (as.map V.ref)) := by rw [← hH4, upd_ne nxD.2.symm]; exact g1
          have sD' : SqL K H4 D (as.map V.ref) := SqL.of g1'
          have py' : H4 as[t.2.toNat] = some (.lst ((nbr (ties.take i) ((t.2.toNat : Nat) : Int)).map V.int)) := by rw [← hH4, upd_ne nxy.symm]; exact py
          walk_at "rd"
          refine ⟨tyL (SqL.of py'), ?_⟩
          walk_at "rd"
          refine r_app py' (by rw [List.length_map]; have := nl ((t.2.toNat : Nat) : Int); omega) ?_
          refine ⟨_, _, rfl, ?_, ?_, ?_⟩
          · rw [upd_ne nyD.2.symm]
            exact g1'
          · intro j a ha
            rw [tk, nbr_snoc]
            by_cases q1 : j = t.1.toNat
            · subst q1
              rw [ex] at ha
              cases ha
              rw [upd_ne nxy, ← hH4, upd_same, show oth ((t.1.toNat : Nat) : Int) t = some t.2 by unfold oth; rw [if_pos (by omega)], List.map_append]
              rfl
            · by_cases q2 : j = t.2.toNat
              · subst q2
                rw [ey] at ha
                cases ha
                rw [upd_same, show oth ((t.2.toNat : Nat) : Int) t = some t.1 by unfold oth; rw [if_neg (by omega), if_pos (by omega)], List.map_append]
                rfl
              · have na1 : a ≠ as[t.1.toNat] := fun q => q1 (nd_ix' h3 ha (q ▸ ex))
                have na2 : a ≠ as[t.2.toNat] := fun q => q2 (nd_ix' h3 ha (q ▸ ey))
                rw [upd_ne na2, ← hH4, upd_ne na1, g2 j a ha, show oth (j : Int) t = none by unfold oth; rw [if_neg (by omega), if_neg (by omega)]]
                simp
          · rw [← hH4]
            exact (e2.mut nxD.1).mut nyD.1
      · rintro σ' H2 ⟨x2, x3, rfl, g1, g2, e2⟩
        rw [List.take_of_length_le (by omega)] at g2
        walk_at "rd"
        exact k _ _ e2 ⟨D, as, rfl, g1, hD, by omega, fun j a ha => ⟨g2 j a ha, (h4 a (List.mem_of_getElem? ha)).2.1⟩⟩
def sp_lesser (K : PySem.W.Frag) : Sp := fun vs H Q _ => ∃ (v u : V) (many : Int) (ties : List (Int × Int)) (names : List Int), vs = [v, u] ∧ Dp K H v (webD many ties) ∧ WebOk many ties ∧ Dp K H u (intsD names) ∧ names.length = many.toNat ∧
  ∀ (x : V) (H' : Hp), Evl.Ex H H' → LsN H H' x many.toNat (lessN ties names) → Q x H'
def sp_latestof (K : PySem.W.Frag) : Sp := fun vs H Q _ => ∃ (v : V) (rs : List Row), vs = [v] ∧ Dp K H v (rowsD rs) ∧ rs.length ≤ 60 ∧ ∀ (H' : Hp), Evl.Ex H H' → Q (.int (maxDf 0 (rs.map fun r => r.2))) H'
theorem ok_latestof0 (T : Env K mg) : FnOk P w K mg base CX0 1 T.a_latest_of T.fd_latest_of ["rows"] (sp_latestof K) := by
  have nd := sc_latest_of.nd
  refine T.F_latest_of.ok sc_latest_of (fun vs H Q E h => ?_) (fun cdv A outer s H vs Q E hr h => ?_)
  · obtain ⟨v, rs, rfl, _⟩ := h
    rfl
  · obtain ⟨v, rs, rfl, hv, hl, k⟩ := h
    obtain ⟨a, xs, rfl, hs, hd⟩ := rowsD_at hv
    refine ⟨_, (pss_one (ps_ret (pe_callBK (cr_maxDf rfl hr.units) (by rfl) T.n_max (by decide +kernel) (pa_cons (pe_lc (own := [("_", 1), ("number", 2)]) (g := (gTup K 2 (gCons (gName 1) (gCons (gName 2) gNil)))) (tt := tYes) (te := (tVar 2)) rfl nd (pi_list (pv 0)) (blkOk_by (N := ["rows", "_", "number"]) (sc := defScope s_latest_of) (by decide +kernel)) (fun _ _ _ _ _ => (pg_tup rfl (pgs_cons (pg_name (i := 1) nd rfl (.inl rfl)) (pgs_cons (pg_name (i := 2) nd rfl (.inl rfl)) pgs_nil)))) (fun _ _ _ _ _ => pts_nil) (fun _ _ _ _ _ => (pv 2))) pa_nil) (pk_cons pe_int pk_nil)))), ?_⟩
    walk_at "rd"
    refine r_ckw ?_
    walk_at "rd"
    refine ⟨a, rfl, ⟨_, hs⟩, fun D2 hD2 => ?_⟩
    refine lc_pureR (f := fun _ => true) (g := fun r => .int r.2) hs hd (by omega) hD2 (fun _ _ => rfl) (fun r hr H2 e2 QB z => ?_) (fun r hr hf H2 e2 Q z => ?_) (fun H2 e2 h2 => ?_)
    · walk_at "rd"
      exact z
    · walk_at "rd"
      exact z
    · rw [List.filter_eq_self.mpr (fun _ _ => rfl), show (rs.map fun r => V.int r.2) = (rs.map fun r => r.2).map V.int by rw [List.map_map]; rfl] at h2
      walk_at "rd"
      exact ⟨D2, rs.map fun r => r.2, 0, rfl, rfl, SqL.of h2, k _ e2⟩
def sp_rowby (K : PySem.W.Frag) : Sp := fun vs H Q _ => ∃ (v : V) (rs : List Row), vs = [v] ∧ Dp K H v (rowsD rs) ∧ rs.length ≤ 60 ∧ ∀ (x : V) (H' : Hp), Evl.Ex H H' → Dp K H' x (rowD (rowBy rs)) → Q x H'
theorem ok_rowby0 (T : Env K mg) : FnOk P w K mg base CX0 2 T.a_row_by T.fd_row_by ["rows"] (sp_rowby K) := by
  have nd := sc_row_by.nd
  refine T.F_row_by.ok sc_row_by (fun vs H Q E h => ?_) (fun cdv A outer s H vs Q E hr h => ?_)
  · obtain ⟨v, rs, rfl, _⟩ := h
    rfl
  · obtain ⟨v, rs, rfl, hv, hl, k⟩ := h
    obtain ⟨a, xs, rfl, hs, hd⟩ := rowsD_at hv
    have G_latest_of : FnOk P w K mg base CX0 1 T.a_latest_of T.fd_latest_of ["rows"] (sp_latestof K) := ok_latestof0 T
    refine ⟨_, (pss_cons (ps_setLc (i := 1) (own := [("chosen", 2), ("number", 3)]) (g := (gTup K 2 (gCons (gName 2) (gCons (gName 3) gNil)))) (tt := (tB (tVar 2))) (te := (tVar 3)) rfl nd rfl rfl (sw_true rfl rfl rfl (by decide +kernel)) (pi_list (pv 0)) (blkOk_by (N := ["rows", "chosen_in", "chosen", "number"]) (sc := defScope s_row_by) (by decide +kernel)) (fun _ _ _ _ _ => (pg_tup rfl (pgs_cons (pg_name (i := 2) nd rfl (.inl rfl)) (pgs_cons (pg_name (i := 3) nd rfl (.inl rfl)) pgs_nil)))) (fun _ _ _ _ _ => pts_one (pt_val (pv 2))) (fun _ _ _ _ _ => (pv 3)))
      (pss_cons (ps_if (pt_truth (pv 1) (fun _ => rfl)) (pss_one (ps_ret (pe_tup (pa_cons pe_bl (pa_cons (pe_callB (id := "min") (cr_min rfl) (by rfl) T.n_min (by decide +kernel) (pa_cons (pv 1) pa_nil)) pa_nil))))) pss_nil)
      (pss_one (ps_ret (pe_tup (pa_cons pe_bl (pa_cons (pe_op op_add pe_int (pe_call G_latest_of (hr.mono (by decide)) (by rfl) T.g_latest_of T.F_latest_of.kp T.b_latest_of .nil pass0 (pa_cons (pv 0) pa_nil))) pa_nil))))))), ?_⟩
    walk_at "rd"
    refine ⟨a, rfl, ⟨_, hs⟩, fun D hD => ?_⟩
    refine lc_pureR (f := fun r => r.1) (g := fun r => .int r.2) hs hd (by omega) hD (fun _ _ => rfl) (fun r hr H1 e1 QB z => ?_) (fun r hr hf H1 e1 Q z => ?_) (fun H1 e1 h1 => ?_)
    · walk_at "rd"
      exact z
    · walk_at "rd"
      exact z
    · have h1 : H1 D = some (.lst ((chosenIn rs).map V.int)) := by rw [h1]; unfold chosenIn; rw [List.map_map]; rfl
      have hv1 := Dp.ex e1 _ _ hv
      have s1 : SqL K H1 D ((chosenIn rs).map V.int) := SqL.of h1
      walk_at "rd"
      refine ⟨!((chosenIn rs).map V.int).isEmpty, .inl ⟨_, s1, rfl⟩, ?_⟩
      rw [List.isEmpty_map]
      refine iteB (fun hc => ?_) (fun hc => ?_)
      · cases ec : chosenIn rs with
        | nil => rw [ec] at hc; cases hc
        | cons x r =>
          rw [ec] at s1
          walk_at "rd"
          refine ⟨D, x :: r, rfl, s1, by simp, fun m hm1 hm2 => ?_⟩
          walk_at "rd"
          refine ⟨by show 2 ≤ sizeLine; decide, fun q hq => ?_⟩
          have em := minL_of hm1 hm2
          refine k _ _ (e1.trans (Evl.Ex.new hq)) ?_
          rw [show rowBy rs = (false, m) by unfold rowBy; rw [ec, em]]
          exact dp_row (SqT.of upd_same)
      · walk_at "rd"
        have ec : chosenIn rs = [] := by
          cases e : chosenIn rs with
          | nil => rfl
          | cons x r => rw [e] at hc; cases hc
        walk_at "rd"
        refine ⟨.ref a, rs, rfl, hv1, hl, fun H2 e2 => ?_⟩
        walk_at "rd"
        refine ⟨by show 2 ≤ sizeLine; decide, fun q hq => ?_⟩
        refine k _ _ ((e1.trans e2).trans (Evl.Ex.new hq)) ?_
        rw [show rowBy rs = (true, 1 + maxDf 0 (rs.map fun r => r.2)) by
          unfold rowBy
          rw [ec]
          cases e : rs.map fun r => r.2 with
          | nil => rfl
          | cons x r => rfl]
        exact dp_row (SqT.of upd_same)
def sp_whole : Sp := fun vs H Q _ => ∃ i : Int, vs = [.int i] ∧ Q (.bl true) H
theorem ok_whole0 (T : Env K mg) : FnOk P w K mg base CX0 1 T.a_is_whole T.fd_is_whole ["thing"] sp_whole := by
  have nd := sc_is_whole.nd
  refine T.F_is_whole.ok sc_is_whole (fun vs H Q E h => ?_) (fun cdv A outer s H vs Q E hr h => ?_)
  · obtain ⟨i, rfl, _⟩ := h
    rfl
  · obtain ⟨i, rfl, k⟩ := h
    refine ⟨_, (pss_one (ps_ret (pe_and (pe_callB (id := "isinstance") call_isi (by rfl) T.n_isinstance (by decide +kernel) (pa_cons (pv 0) (pa_cons (pe_bltn (v := .ty "int") (u := .type "int") (by rfl) T.n_int (by decide +kernel) rfl) pa_nil))) (pe_one (pe_not (pe_callB (id := "isinstance") call_isi (by rfl) T.n_isinstance (by decide +kernel) (pa_cons (pv 0) (pa_cons (pe_bltn (v := .ty "bool") (u := .type "bool") (by rfl) T.n_bool (by decide +kernel) rfl) pa_nil)))))))), ?_⟩
    walk_at "rd"
    exact k
def sp_isrow (K : PySem.W.Frag) : Sp := fun vs H Q _ => ∃ (a : Addr) (r : Row), vs = [.ref a] ∧ SqT K H a [.bl r.1, .int r.2] ∧ Q (.bl true) H
def sp_refuse (K : PySem.W.Frag) : Sp := fun vs H Q _ => ∃ (v : V) (names : List Int), vs = [v] ∧ Dp K H v (intsD names) ∧ names.Nodup ∧ names.length ≤ 60 ∧ ∀ H', Evl.Ex H H' → Q .non H'
theorem ok_refuse0 (T : Env K mg) : FnOk P w K mg base CX0 1 T.a_refuse_alike T.fd_refuse_alike ["names"] (sp_refuse K) := by
  have nd := sc_refuse_alike.nd
  refine T.F_refuse_alike.ok sc_refuse_alike (fun vs H Q E h => ?_) (fun cdv A outer s H vs Q E hr h => ?_)
  · obtain ⟨v, ns, rfl, _⟩ := h
    rfl
  · obtain ⟨v, names, rfl, hv, hn, hl, k⟩ := h
    obtain ⟨a, rfl, hs⟩ := intsD_at hv
    refine ⟨_, (pss_cons (ps_set (i := 1) nd rfl (.inl rfl) (pe_callTy0 cr_set0 (by rfl) T.n_set (by decide +kernel)))
      (pss_one (ps_for PassesOwn.never rfl (pi_enum (by rfl) T.n_enumerate (pa_cons (pv 0) pa_nil)) (pg_tup rfl (pgs_cons (pg_name (i := 2) nd rfl (.inl rfl)) (pgs_cons (pg_name (i := 3) nd rfl (.inl rfl)) pgs_nil))) (pss_cons (ps_if (pt_cmpR or_sin (pv 3) (pv 1) rfl) (pss_one ps_never) pss_nil)
      (pss_one (ps_expr (pe_sadd (pv 1) (pa_cons (pv 3) pa_nil)))))))), ?_⟩
    walk_at "rd"
    refine ⟨rfl, fun q hq => ?_⟩
    walk_at "rd"
    have e0 : Evl.Ex H (upd H q (SetO w q (fun _ => false) 0)) := Evl.Ex.new hq
    refine ⟨a, _, rfl, Evl.ex_l e0 hs, ?_⟩
    refine for_it (walk_enum (xs := names.map V.int)) (fun i σ' H' => ∃ (x2 x3 : Option V) (S : Int → Bool), σ' = [some (.ref a), some (.ref q), x2, x3] ∧ H' q = some (SetO w q S i) ∧ (∀ x, S x = true ↔ x ∈ names.take i) ∧ Evl.Ex H H') ?_ ?_ ?_ ?_
    · exact ⟨none, none, _, rfl, upd_same, (fun x => by simp), e0⟩
    · rintro i σ' H' _ ⟨_, _, _, _, _, _, e⟩
      exact Evl.ex_l e hs
    · rintro i y σ' H1 H2 hi ⟨x2, x3, S, rfl, h1, h2, e1⟩ ⟨t, y1, y2, rfl, ht, rfl, ey1, ey2⟩
      cases ey1
      have ey2 : (names.map V.int)[i]? = some y2 := ey2
      rw [List.getElem?_map] at ey2
      rw [List.length_map] at hi
      cases en : names[i]? with
      | none => rw [en] at ey2; cases ey2
      | some n =>
        rw [en] at ey2
        cases ey2
        have e2 : Evl.Ex H1 (upd H1 t (.tup [.int (i : Int), .int n])) := Evl.Ex.new ht
        have st : SqT K (upd H1 t (.tup [.int (i : Int), .int n])) t [.int (i : Int), .int n] := SqT.of upd_same
        generalize upd H1 t (.tup [.int (i : Int), .int n]) = H2 at *
        have h1' := e2 _ _ h1
        have hS : S n = false := by
          cases c : S n with
          | false => rfl
          | true =>
            have m := (h2 n).mp c
            obtain ⟨j, hj, ej⟩ := List.mem_iff_getElem.mp m
            rw [List.length_take] at hj
            rw [List.getElem_take] at ej
            have := nd_ix' hn (i := j) (j := i) (by rw [List.getElem?_eq_getElem (by omega), ej]) en
            omega
        walk_at "rd"
        refine iteRF hS ?_
        walk_at "rd"
        refine ⟨⟨q, S, i, rfl, h1'⟩, ?_⟩
        walk_at "rd"
        refine ⟨q, n, S, i, rfl, rfl, h1', Nat.lt_of_lt_of_le (show i + 1 < 64 by omega) (by decide), ?_⟩
        rw [hS, if_neg (by decide)]
        refine ⟨_, _, _, rfl, upd_same, fun x => ?_, (e1.trans e2).mut hq⟩
        rw [Bool.or_eq_true, decide_eq_true_eq, h2, take_snoc en, List.mem_append, List.mem_singleton]
    · rintro σ' H1 ⟨x2, x3, S, rfl, h1, h2, e1⟩
      exact k _ e1

def sp_isrounds (K : PySem.W.Frag) : Sp := fun vs H Q _ => ∃ (v u r : V) (many : Int) (ties : List (Int × Int)) (names : List Int) (rs : List Row), vs = [v, u, r] ∧ Dp K H v (webD many ties) ∧ WebOk many ties ∧ Dp K H u (intsD names) ∧ NamesOk many names ∧ Dp K H r (rowsD rs) ∧ rs.length = many.toNat ∧
  ∀ H', Evl.Ex H H' → Q (.bl (decide (rs = rowsOf many ties names))) H'
end

end
section
local macro_rules | `(tactic| walk_at "ex") => `(tactic| first | exact Evl.Ex.refl _ | assumption | ((refine' Evl.Ex.trans ?x ?y); (case y => assumption); (case x => walk_at "ex")))
local macro_rules | `(tactic| walk_at "hc") => `(tactic| first
  | assumption
  | ((refine' Sep.rdM ?S 0 ?k); (case S => assumption); (case k => exact rfl)) | ((refine' Sep.rdM ?S 1 ?k); (case S => assumption); (case k => exact rfl)) | ((refine' Sep.rdM ?S 2 ?k); (case S => assumption); (case k => exact rfl)) | ((refine' Sep.rdM ?S 3 ?k); (case S => assumption); (case k => exact rfl)) | ((refine' Sep.rdM ?S 4 ?k); (case S => assumption); (case k => exact rfl))
  | ((refine' Sep.rdC ?S ?e ?h); (case S => assumption); (case h => assumption); (case e => walk_at "ex")))
local macro_rules | `(tactic| walk_at "hl") => `(tactic| first
  | assumption
  | ((refine' SqL.of (Sep.rdM ?S 0 ?k)); (case S => assumption); (case k => exact rfl)) | ((refine' SqL.of (Sep.rdM ?S 1 ?k)); (case S => assumption); (case k => exact rfl)) | ((refine' SqL.of (Sep.rdM ?S 2 ?k)); (case S => assumption); (case k => exact rfl)) | ((refine' SqL.of (Sep.rdM ?S 3 ?k)); (case S => assumption); (case k => exact rfl)) | ((refine' SqL.of (Sep.rdM ?S 4 ?k)); (case S => assumption); (case k => exact rfl))
  | ((refine' Sep.rdL ?S ?e ?h); (case S => assumption); (case h => assumption); (case e => walk_at "ex"))
  | ((refine' Sep.rdT ?S ?e ?h); (case S => assumption); (case h => assumption); (case e => walk_at "ex"))
  | ((refine' SqL.of (Sep.rdC ?S ?e ?h)); (case S => assumption); (case h => assumption); (case e => walk_at "ex"))
  | ((refine' SqT.of (Sep.rdC ?S ?e ?h)); (case S => assumption); (case h => assumption); (case e => walk_at "ex"))
  | ((refine' SqL.of ?h); (case h => assumption)) | ((refine' SqT.of ?h); (case h => assumption))
  | ((refine' Evl.ex_l ?e ?h); (case h => assumption); (case e => walk_at "ex")) | ((refine' Evl.ex_t ?e ?h); (case h => assumption); (case e => walk_at "ex"))
  | ((refine' SqL.of (?e _ _ ?h)); (case h => assumption); (case e => walk_at "ex")) | ((refine' SqT.of (?e _ _ ?h)); (case h => assumption); (case e => walk_at "ex")))
local macro_rules | `(tactic| walk_at "hs") => `(tactic| walk_at "hc")
local macro_rules | `(tactic| walk_at "dp") => `(tactic| first
  | assumption
  | ((refine' Sep.rdD ?S ?e ?h); (case S => assumption); (case h => assumption); (case e => walk_at "ex"))
  | ((refine' Dp.ex ?e _ _ ?h); (case h => assumption); (case e => walk_at "ex"))
  | ((refine' DpAll.ex ?e _ _ ?h); (case h => assumption); (case e => walk_at "ex"))
  | (refine' dp_intsD ?h; (case h => walk_at "hl")))
local macro_rules | `(tactic| walk_at "rd1") => `(tactic| (first
  | (with_reducible refine r_seq ?_)
  | (with_reducible refine r_asg ?_)
  | (with_reducible refine r_asgG ?_)
  | (with_reducible refine r_par ?_)
  | (with_reducible refine r_if ?_)
  | (with_reducible refine r_ret ?_)
  | (with_reducible refine r_drop ?_)
  | (with_reducible refine r_next ?_)
  | ((with_reducible refine' r_var ?hx ?_); (case hx => exact rfl))
  | (with_reducible refine r_c ?_)
  | (with_reducible refine r_op ?_)
  | (with_reducible refine r_un ?_)
  | (with_reducible refine r_I0 ?_)
  | ((with_reducible refine' r_I ?_ ?_); (· first | (show (0 : Int) < _; omega) | exact Or.inr ⟨by omega, by omega⟩ | exact Or.inl ⟨by omega, by omega⟩ | exact ⟨by omega, by omega, by decide⟩))
  | (with_reducible refine r_U ?_)
  | (with_reducible refine r_test ?_)
  | (with_reducible refine r_B ?_)
  | (with_reducible refine r_bl ?_)
  | (with_reducible refine r_eqI ?_)
  | (with_reducible refine r_neI ?_)
  | ((with_reducible refine' r_eq ?_ ?_); (· exact rfl))
  | ((with_reducible refine' r_ne ?_ ?_); (· exact rfl))
  | (with_reducible refine r_nil ?_)
  | (with_reducible refine r_cons ?_)
  | (with_reducible refine s_tup ?_)
  | (with_reducible refine s_lst ?_)
  | (with_reducible refine r_call ?_)
  | (with_reducible refine r_cb ?_)
  | (with_reducible refine r_and ?_)
  | (with_reducible refine r_or ?_)
  | (with_reducible refine r_not ?_)
  | (with_reducible refine r_andV ?_)
  | (with_reducible refine r_orV ?_)
  | (with_reducible refine r_notV ?_)
  | (with_reducible refine r_ifE ?_)
  | (with_reducible refine r_gSub ?_)
  | (with_reducible refine r_sadd ?_)
  | (with_reducible refine s_lstRg ?_)
  | (with_reducible refine r_rg1 ?_)
  | (with_reducible refine r_min2 ?_)
  | (with_reducible refine r_par2 ?_)
  | (with_reducible refine r_partI ?_)
  | (with_reducible refine s_lc ?_)
  | (with_reducible refine s_dc ?_)
  | (with_reducible refine r_yes ?_)
  | (with_reducible refine r_iZipA ?_)
  | (with_reducible refine r_isN ?_)
  | (with_reducible refine r_for ?_)
  | (with_reducible refine r_iList ?_)
  | (with_reducible refine r_iTup ?_)
  | (with_reducible refine r_iRng1 ?_)
  | (with_reducible refine r_iRng2 ?_)
  | (with_reducible refine r_iEnum ?_)
  | (with_reducible refine r_iZip ?_)
  | (with_reducible refine r_gName ?_)
  | (with_reducible refine r_isNV ?_)
  | (with_reducible refine r_notNV ?_)
  | (with_reducible refine r_bm ?_)
  | (with_reducible refine r_bm0 ?_)
  | (with_reducible refine r_sl ?_)
  | (with_reducible refine r_noPart ?_)
  | (with_reducible refine r_part ?_)
  | (with_reducible refine r_chain ?_)
  | (with_reducible refine r_iKeys ?_)
  | (with_reducible refine r_iItems ?_)
  | (with_reducible refine r_frz ?_)
  | (with_reducible refine r_dput ?_)
  | (with_reducible refine r_dget ?_)
  | (with_reducible refine r_din ?_)
  | (with_reducible refine r_dnotin ?_)
  | (with_reducible refine r_break ?_)
  | ((with_reducible refine' r_sIn ?h ?_); (case h => walk_at "hs"))
  | ((with_reducible refine' r_sNotIn ?h ?_); (case h => walk_at "hs"))
  | ((with_reducible refine' r_inI ?h ?_); (case h => walk_at "hl"))
  | ((with_reducible refine' r_notInI ?h ?_); (case h => walk_at "hl"))
  | ((with_reducible refine' r_eqNil ?h ?g ?_); (case h => walk_at "hl"); (case g => walk_at "hl"))
  | ((with_reducible refine' r_neNil ?h ?g ?_); (case h => walk_at "hl"); (case g => walk_at "hl"))
  | ((with_reducible refine' iteRT ?hh ?_); (case hh => exact rfl))
  | ((with_reducible refine' iteRF ?hh ?_); (case hh => exact rfl))
  | ((with_reducible refine' r_isiT ?ty ?hk ?_); (case ty => (first | assumption | exact tyx_L (by assumption) | exact tyx_T (by assumption) | exact .base (.non) | exact .base (.bl _) | exact .base (.int _) | exact .base (.str _) | exact tyx_L (by walk_at "hl") | exact tyx_T (by walk_at "hl"))); (case hk => decide +kernel))
  | ((with_reducible refine' r_isiF ?ty ?hk ?_); (case ty => (first | assumption | exact tyx_L (by assumption) | exact tyx_T (by assumption) | exact .base (.non) | exact .base (.bl _) | exact .base (.int _) | exact .base (.str _) | exact tyx_L (by walk_at "hl") | exact tyx_T (by walk_at "hl"))); (case hk => decide +kernel))
  | ((with_reducible refine' r_gTup2 ?hn ?hs ?_); (case hn => exact rfl); (case hs => walk_at "hl"))
  | ((with_reducible refine' s_list ?hl ?_); (case hl => first | exact Or.inl (by walk_at "hl") | exact Or.inr (by walk_at "hl")))
  | ((with_reducible refine' s_tupN ?hl ?_); (case hl => walk_at "hl"))
  | ((with_reducible refine' s_sortN ?hl ?_); (case hl => walk_at "hl"))
  | ((refine' ⟨_, _, rfl, ?hl, ?_⟩); (case hl => first | exact Or.inl (by walk_at "hl") | exact Or.inr (by walk_at "hl")))
  | ((with_reducible refine' r_ixL ?hl ?ha ?_); (case hl => walk_at "hl"); (case ha => first | exact rfl | assumption))
  | ((with_reducible refine' r_ixT ?hl ?ha ?_); (case hl => walk_at "hl"); (case ha => first | exact rfl | assumption))))
local macro_rules | `(tactic| walk_at "rd") => `(tactic| repeat (walk_at "rd1"))

section
variable {w : World} {K : PySem.W.Frag} {mg : Str → Option Value} {base : Heap}

def A_web1 (K : PySem.W.Frag) : (Int × List (Int × Int)) → List V → Hp → Prop := fun | (many, ties), vs, F => ∃ v, vs = [v] ∧ Dp K F v (webD many ties) ∧ WebOk many ties
def B_near : (Int × List (Int × Int)) → V → List (Addr × Cel) → Hp → Prop := fun | (many, ties), v, N, F => N = [] ∧ LsAt F v many.toNat (nbr ties)
theorem ok_neighbours (T : Env K mg) : FnOk P w K mg base CX0 1 T.a_neighbours T.fd_neighbours ["web"] (SpF (A_web1 K) B_near) := by
  refine (ok_near0 T).imp fun vs H Q E h => ?_
  obtain ⟨⟨many, ties⟩, F, fr, ⟨v, rfl, hv, W⟩, k⟩ := h
  refine ⟨v, many, ties, rfl, Dp.ex fr _ _ hv, W, fun u H' e ls => ?_⟩
  obtain ⟨q, bs, rfl, g1, g2, g3, g4⟩ := ls
  obtain ⟨F', S, e', hF⟩ := Sep.grow fr e (q :: bs) fun a ha => by
    rcases List.mem_cons.mp ha with rfl | ha
    · exact g2
    · obtain ⟨j, hj⟩ := List.mem_iff_getElem?.mp ha
      exact (g4 j a hj).2
  refine k _ [] F' H' S ⟨rfl, q, bs, rfl, by rw [hF q List.mem_cons_self]; exact g1, g3, fun j b hb => by rw [hF b (List.mem_cons_of_mem _ (List.mem_of_getElem? hb))]; exact (g4 j b hb).1⟩
def A_rows1 (K : PySem.W.Frag) : List Row → List V → Hp → Prop := fun rs vs F => ∃ v, vs = [v] ∧ Dp K F v (rowsD rs) ∧ rs.length ≤ 60
def B_latestof : List Row → V → List (Addr × Cel) → Hp → Prop := fun rs v N F => N = [] ∧ v = .int (maxDf 0 (rs.map fun r => r.2))
theorem ok_latest_of (T : Env K mg) : FnOk P w K mg base CX0 1 T.a_latest_of T.fd_latest_of ["rows"] (SpF (A_rows1 K) B_latestof) := by
  refine (ok_latestof0 T).imp fun vs H Q E h => ?_
  obtain ⟨rs, F, fr, ⟨v, rfl, hv, hl⟩, k⟩ := h
  exact ⟨v, rs, rfl, Dp.ex fr _ _ hv, hl, fun H' e => k _ [] F H' (Sep.scal fr e) ⟨rfl, rfl⟩⟩
def A_names1 (K : PySem.W.Frag) : List Int → List V → Hp → Prop := fun ns vs F => ∃ v, vs = [v] ∧ Dp K F v (intsD ns) ∧ ns.Nodup ∧ ns.length ≤ 60
def B_non {α : Type} : α → V → List (Addr × Cel) → Hp → Prop := fun _ v N F => N = [] ∧ v = .non
theorem ok_refuse_alike (T : Env K mg) : FnOk P w K mg base CX0 1 T.a_refuse_alike T.fd_refuse_alike ["names"] (SpF (A_names1 K) B_non) := by
  refine (ok_refuse0 T).imp fun vs H Q E h => ?_
  obtain ⟨rs, F, fr, ⟨v, rfl, hv, hn, hl⟩, k⟩ := h
  exact ⟨v, rs, rfl, Dp.ex fr _ _ hv, hn, hl, fun H' e => k _ [] F H' (Sep.scal fr e) ⟨rfl, rfl⟩⟩
def B_rowby : List Row → V → List (Addr × Cel) → Hp → Prop := fun rs v N F => N = [] ∧ ∃ t, v = .ref t ∧ F t = some (.tup [.bl (rowBy rs).1, .int (rowBy rs).2])
theorem ok_row_by (T : Env K mg) : FnOk P w K mg base CX0 2 T.a_row_by T.fd_row_by ["rows"] (SpF (A_rows1 K) B_rowby) := by
  have nd := sc_row_by.nd
  have G_latest_of : FnOk P w K mg base CX0 1 T.a_latest_of T.fd_latest_of ["rows"] (SpF (A_rows1 K) B_latestof) := ok_latest_of T
  refine T.F_row_by.ok sc_row_by (fun vs H Q E h => ?_) (fun cdv A outer s H vs Q E hr h => ?_)
  · obtain ⟨x, F, _, ⟨v, rfl, _⟩, _⟩ := h
    rfl
  · obtain ⟨rs, F, fr, ⟨v, rfl, hv, hl⟩, k⟩ := h
    obtain ⟨a, xs, rfl, hs, hd⟩ := rowsD_at hv
    have S := Sep.start0 fr
    refine ⟨_, (pss_cons (ps_setLc (i := 1) (own := [("chosen", 2), ("number", 3)]) (g := (gTup K 2 (gCons (gName 2) (gCons (gName 3) gNil)))) (tt := (tB (tVar 2))) (te := (tVar 3)) rfl nd rfl rfl (sw_true rfl rfl rfl (by decide +kernel)) (pi_list (pv 0)) (blkOk_by (N := ["rows", "chosen_in", "chosen", "number"]) (sc := defScope s_row_by) (by decide +kernel)) (fun _ _ _ _ _ => (pg_tup rfl (pgs_cons (pg_name (i := 2) nd rfl (.inl rfl)) (pgs_cons (pg_name (i := 3) nd rfl (.inl rfl)) pgs_nil)))) (fun _ _ _ _ _ => pts_one (pt_val (pv 2))) (fun _ _ _ _ _ => (pv 3)))
      (pss_cons (ps_if (pt_truth (pv 1) (fun _ => rfl)) (pss_one (ps_ret (pe_tup (pa_cons pe_bl (pa_cons (pe_callB (id := "min") (cr_min rfl) (by rfl) T.n_min (by decide +kernel) (pa_cons (pv 1) pa_nil)) pa_nil))))) pss_nil)
      (pss_one (ps_ret (pe_tup (pa_cons pe_bl (pa_cons (pe_op op_add pe_int (pe_call G_latest_of (hr.mono (by decide)) (by rfl) T.g_latest_of T.F_latest_of.kp T.b_latest_of .nil pass0 (pa_cons (pv 0) pa_nil))) pa_nil))))))), ?_⟩
    walk_at "rd"
    refine ⟨a, rfl, ⟨_, by walk_at "hl"⟩, ?_⟩
    refine s_lcV (srcD (as := rs) (da := rowD) hs hd) (fun r => r.1) (fun r => .int r.2) S (by omega) (fun m hm => by cases hm) ?_ ?_
    · rintro i r x acc D F1 H1 t S e1 hx
      obtain ⟨q, rfl, st⟩ := rowD_at hx
      walk_at "rd"
      refine ⟨rfl, ?_⟩
      walk_at "rd"
      refine iteB (fun c => ?_) (fun c => ?_)
      · walk_at "rd"
        exact t.put S e1 c rfl
      · exact t.skip S e1 c
    · intro D F1 H1 S e1
      have ec : ((rs.filter fun r => r.1).map fun r => V.int r.2) = (chosenIn rs).map V.int := by unfold chosenIn; rw [List.map_map]; rfl
      rw [ec] at S
      obtain ⟨F2, S, e2, c2⟩ := S.frz 0 rfl
      walk_at "rd"
      refine ⟨!((chosenIn rs).map V.int).isEmpty, .inl ⟨_, by walk_at "hl", rfl⟩, ?_⟩
      rw [List.isEmpty_map]
      refine iteB (fun hc => ?_) (fun hc => ?_)
      · cases ec : chosenIn rs with
        | nil => rw [ec] at hc; cases hc
        | cons x r =>
          rw [ec] at c2
          walk_at "rd"
          refine ⟨D, x :: r, rfl, by walk_at "hl", by simp, fun m hm1 hm2 => ?_⟩
          walk_at "rd"
          refine ⟨by show 2 ≤ sizeLine; decide, s_new S fun q F3 H3 S e3 c3 => ?_⟩
          have em := minL_of hm1 hm2
          refine k _ [] _ _ S ⟨rfl, q, rfl, ?_⟩
          rw [show rowBy rs = (false, m) by unfold rowBy; rw [ec, em]]
          exact c3
      · have ec : chosenIn rs = [] := by
          cases e : chosenIn rs with
          | nil => rfl
          | cons x r => rw [e] at hc; cases hc
        walk_at "rd"
        refine r_callF S rs ⟨.ref a, rfl, by walk_at "dp", hl⟩ fun x N F3 H3 S e3 ⟨z, ex⟩ => ?_
        subst z ex
        walk_at "rd"
        refine ⟨by show 2 ≤ sizeLine; decide, s_new S fun q F4 H4 S e4 c4 => ?_⟩
        refine k _ [] _ _ S ⟨rfl, q, rfl, ?_⟩
        rw [show rowBy rs = (true, 1 + maxDf 0 (rs.map fun r => r.2)) by
          unfold rowBy
          rw [ec]
          cases e : rs.map fun r => r.2 with
          | nil => rfl
          | cons x r => rfl]
        exact c4
def A_along (K : PySem.W.Frag) : (Int × List (Int × Int) × List Int × List Int) → List V → Hp → Prop := fun | (many, ties, names, order), vs, F => ∃ v u, vs = [v, .ref u] ∧ LsAt F v many.toNat (nbr ties) ∧ WebOk many ties ∧ SqE K F u (order.map V.int) ∧ order.Perm (rgI many) ∧ order.Pairwise fun a b => nmAt names a < nmAt names b
def B_rws : (Int × List (Int × Int) × List Int × List Int) → V → List (Addr × Cel) → Hp → Prop := fun | (many, ties, names, _), v, N, F => ∃ q xs, v = .ref q ∧ N = [(q, .is (.lst xs))] ∧ OvAll F xs ((rowsOf many ties names).map some)
theorem ok_rows_along (T : Env K mg) : FnOk P w K mg base CX0 3 T.a_rows_along T.fd_rows_along ["near", "order"] (SpF (A_along K) B_rws) := by
  have nd := sc_rows_along.nd
  have G_row_by : FnOk P w K mg base CX0 2 T.a_row_by T.fd_row_by ["rows"] (SpF (A_rows1 K) B_rowby) := ok_row_by T
  refine T.F_rows_along.ok sc_rows_along (fun vs H Q E h => ?_) (fun cdv A outer s H vs Q E hr h => ?_)
  · obtain ⟨⟨_, _, _, _⟩, F, _, ⟨v, u, rfl, _⟩, _⟩ := h
    rfl
  · obtain ⟨⟨many, ties, names, order⟩, F, fr, ⟨v, u, rfl, hls, W, hu, hp, pw⟩, k⟩ := h
    have w1 := W.lo
    have w2 := W.hi
    obtain ⟨q, bs, rfl, b1, b2, b3⟩ := hls
    have S := Sep.start0 fr
    refine ⟨_, (pss_cons (ps_set (i := 2) nd rfl (.inr rfl) (pe_op op_rep (pe_lst (pa_cons pe_non pa_nil)) (pe_callB (id := "len") call_len_seq (by rfl) T.n_len PySem.boot_len (pa_cons (pv 0) pa_nil))))
      (pss_cons (ps_for PassesOwn.never rfl (pi_seq (pv 1)) (pg_name (i := 3) nd rfl (.inl rfl)) (pss_cons (ps_setLc (i := 4) (own := [("other", 5)]) (g := gName 5) (tt := tYes) (te := (tOp (rIxL K) (tVar 2) (tVar 5))) rfl nd rfl rfl (sw_true rfl rfl rfl (by decide +kernel)) (pi_list (pe_ix ix_list (pv 0) (pv 3) (fun _ _ => rfl))) (blkOk_by (N := ["near", "order", "rows", "house", "ahead", "other", "row"]) (sc := defScope s_rows_along) (by decide +kernel)) (fun _ _ _ _ _ => (pg_name (i := 5) nd rfl (.inl rfl))) (fun _ _ _ _ _ => pts_nil) (fun _ _ _ _ _ => (pe_ix ix_list (pv 2) (pv 5) (fun _ _ => rfl))))
      (pss_one (ps_asg (pe_call G_row_by (hr.mono (by decide)) (by rfl) T.g_row_by T.F_row_by.kp T.b_row_by .nil pass0 (pa_cons (pe_lc (own := [("row", 6)]) (g := gName 6) (tt := (tTest (tOp rNotNone (tVar 6) (tC .non)))) (te := (tVar 6)) rfl nd (pi_list (pv 4)) (blkOk_by (N := ["near", "order", "rows", "house", "ahead", "other", "row"]) (sc := defScope s_rows_along) (by decide +kernel)) (fun _ _ _ _ _ => (pg_name (i := 6) nd rfl (.inl rfl))) (fun _ _ _ _ _ => pts_one (pt_cmpR op_notN (pv 6) pe_non (nomark _))) (fun _ _ _ _ _ => (pv 6))) pa_nil)) (pg_sub (pv 2) (pv 3) set_list)))))
      (pss_one (ps_ret (pv 2))))), ?_⟩
    walk_at "rd"
    refine ⟨by show 1 ≤ sizeLine; decide, s_new S fun q1 F1 H1 S e1 c1 => ?_⟩
    walk_at "rd"
    rw [List.length_map, b2]
    refine ⟨q1, (many.toNat : Int), _, rfl, rfl, by walk_at "hc", by omega, by omega, by rw [sizeLine_eq]; simp; omega, ?_⟩
    have er : (List.replicate ((many.toNat : Int)).toNat [V.non]).flatten = List.replicate many.toNat .non := by rw [Int.toNat_natCast, List.flatten_replicate_singleton]
    rw [er]
    intro R hR
    have S := S.newM hR (.lst (List.replicate many.toNat .non))
    generalize upd H1 R (.lst (List.replicate many.toNat .non)) = H2 at *
    walk_at "rd"
    refine r_iSeq ?_
    walk_at "rd"
    refine ⟨u, rfl, forSeqW S (exE e1 hu) fun J src => ?_⟩
    generalize hro : rowOf many ties names = ro
    refine s_for (fun i σ' F' M' => ∃ (x3 x4 : Option V) (xs : List V), σ' = [some (.ref q), some (.ref u), some (.ref R), x3, x4, none, none] ∧ M' = [(R, .is (.lst xs))] ∧ OvAll F' xs (stO many ro fun h => decide (h ∈ order.take i))) src S ⟨none, none, _, rfl, rfl, ?_⟩ (fun _ _ _ _ _ m hm => by cases hm) ?_ ?_
    · rw [stO_congr (d' := fun _ => false) fun x _ _ => by simp]
      exact OvAll.non
    · rintro i j _ σ' F2 F3 H3 M' ej S e2 e3 rfl ⟨x3, x4, xs, rfl, rfl, ov⟩
      have ov := ov.keep (ExT.of e3)
      have hj := rgI_mem.mp (hp.mem_iff.mp (List.mem_of_getElem? ej))
      have xl := ov.len
      rw [stO_len] at xl
      have lt : j.toNat < bs.length := by omega
      have ebj := List.getElem?_eq_getElem lt
      have hb := b3 j.toNat bs[j.toNat] ebj
      rw [show ((j.toNat : Nat) : Int) = j by omega] at hb
      have aj : atI (bs.map V.ref) j = some (.ref bs[j.toNat]) := atI_of hj.1 (by rw [List.getElem?_map, ebj]; rfl)
      have nl := nbr_len W j
      walk_at "rd"
      refine ⟨bs[j.toNat], rfl, ⟨_, by walk_at "hl"⟩, ?_⟩
      refine s_lcV (srcI (ns := nbr ties j) (SqL.of ((e1.trans (e2.trans e3)) _ _ hb))) (fun _ => true) (fun o => xs.getD o.toNat .non) S (by omega) (fun m hm => by cases hm) ?_ ?_
      · rintro m o _ acc D F4 H4 t S e4 rfl
        have ho := nbr_range W (List.mem_of_getElem? t.at')
        have ax : atI xs o = some (xs.getD o.toNat .non) := atI_of ho.1 (by rw [List.getD_eq_getElem?_getD, List.getElem?_eq_getElem (by omega)]; rfl)
        walk_at "rd"
        refine ⟨rfl, ?_⟩
        walk_at "rd"
        exact t.put S e4 rfl rfl
      · intro D F4 H4 S e4
        rw [List.filter_eq_self.mpr (fun _ _ => rfl)] at S
        have oy := OvAll.map_get ov (L := nbr ties j) fun o ho => nbr_range W ho
        walk_at "rd"
        generalize hys : (nbr ties j).map (fun o => xs.getD o.toNat V.non) = ys at *
        have yl : ys.length ≤ 60 := by rw [← hys, List.length_map]; exact nl
        refine ⟨D, rfl, ⟨ys, by walk_at "hl"⟩, ?_⟩
        refine s_lcV (srcM (b := D) (xs := ys)) (fun x => !decide (x = .non)) (fun x => x) S (by omega) (by simp) ?_ ?_
        · rintro m x _ acc D2 F5 H5 t S e5 rfl
          walk_at "rd"
          refine ⟨rfl, ?_⟩
          walk_at "rd"
          refine iteB (fun c => ?_) (fun c => ?_)
          · walk_at "rd"
            exact t.put S e5 c rfl
          · exact t.skip S e5 c
        · intro D2 F5 H5 S e5
          rw [List.map_id'] at S
          obtain ⟨F6, S, e6, c6⟩ := S.frz 0 rfl
          have dd := OvAll.some_of (K := K) (oy.keep (ExT.of (e4.trans (e5.trans e6))))
          have el : ((nbr ties j).filter fun h => decide (h ∈ order.take i)) = lessN ties names j := by
            unfold lessN
            refine List.filter_congr fun o ho => ?_
            have ho := nbr_range W ho
            rw [decide_eq_decide]
            exact ahead_iff hp pw ej ho.1 ho.2
          rw [el] at dd
          have ll : (lessN ties names j).length ≤ 60 := by
            have := List.length_filter_le (fun o => decide (nmAt names o < nmAt names j)) (nbr ties j)
            unfold lessN
            omega
          walk_at "rd"
          refine r_callF S ((lessN ties names j).map ro) ⟨.ref D2, rfl, .lst (SqL.of c6) dd, by rw [List.length_map]; exact ll⟩ fun x N F7 H7 S e7 ⟨z, t, ex, ct⟩ => ?_
          subst z ex
          have erow : rowBy ((lessN ties names j).map ro) = ro j := by
            rw [← hro]
            exact (rowOf_eq W hj).symm
          rw [erow] at ct
          walk_at "rd"
          refine s_setL S 1 rfl (ixN_of hj.1 (by omega)) fun H8 S => ?_
          have S := S.drop 0
          refine ⟨_, _, S, by walk_at "ex", _, _, _, rfl, rfl, ?_⟩
          have os9 := OvAll.set ct j.toNat (ov.keep (ExT.of (e4.trans (e5.trans (e6.trans e7)))))
          rw [stO_set hj.1 hj.2] at os9
          rw [stO_congr fun x x0 _ => (show decide (x ∈ order.take (i + 1)) = (decide (x ∈ order.take i) || decide (x = j)) by
            rw [Bool.eq_iff_iff]
            simp only [Bool.or_eq_true, decide_eq_true_eq]
            rw [take_snoc ej, List.mem_append, List.mem_singleton])]
          exact os9
    · rintro σ' F2 H2 M' S e2 ⟨x3, x4, xs, rfl, rfl, ov⟩
      rw [List.take_length] at ov
      walk_at "rd"
      refine k _ [(R, _)] _ _ S ⟨R, xs, rfl, rfl, ?_⟩
      rw [stO_all fun x x0 x1 => decide_eq_true (hp.mem_iff.mpr (rgI_mem.mpr ⟨x0, x1⟩))] at ov
      show OvAll F2 xs ((rowsOf many ties names).map some)
      unfold rowsOf
      rw [hro]
      exact ov
def A_wn (K : PySem.W.Frag) : (Int × List (Int × Int) × List Int) → List V → Hp → Prop := fun | (many, ties, names), vs, F => ∃ v u, vs = [v, u] ∧ Dp K F v (webD many ties) ∧ WebOk many ties ∧ Dp K F u (intsD names) ∧ NamesOk many names
def B_rws3 : (Int × List (Int × Int) × List Int) → V → List (Addr × Cel) → Hp → Prop := fun | (many, ties, names), v, N, F => ∃ q xs, v = .ref q ∧ N = [(q, .is (.lst xs))] ∧ OvAll F xs ((rowsOf many ties names).map some)
theorem ok_rounds_by (T : Env K mg) : FnOk P w K mg base CX0 4 T.a_rounds_by T.fd_rounds_by ["web", "names"] (SpF (A_wn K) B_rws3) := by
  have nd := sc_rounds_by.nd
  have G_refuse_alike : FnOk P w K mg base CX0 1 T.a_refuse_alike T.fd_refuse_alike ["names"] (SpF (A_names1 K) B_non) := ok_refuse_alike T
  have G_rows_along : FnOk P w K mg base CX0 3 T.a_rows_along T.fd_rows_along ["near", "order"] (SpF (A_along K) B_rws) := ok_rows_along T
  have G_neighbours : FnOk P w K mg base CX0 1 T.a_neighbours T.fd_neighbours ["web"] (SpF (A_web1 K) B_near) := ok_neighbours T
  refine T.F_rounds_by.ok sc_rounds_by (fun vs H Q E h => ?_) (fun cdv A outer s H vs Q E hr h => ?_)
  · obtain ⟨⟨_, _, _⟩, F, _, ⟨v, u, rfl, _⟩, _⟩ := h
    rfl
  · obtain ⟨⟨many, ties, names⟩, F, fr, ⟨v, u, rfl, hv, W, hu, Nm⟩, k⟩ := h
    have w1 := W.lo
    have w2 := W.hi
    have nl := Nm.len
    obtain ⟨wa, wb, ws, rfl, z1, z2, z3⟩ := webD_at hv
    obtain ⟨na, rfl, hn⟩ := intsD_at hu
    have S := Sep.start0 fr
    refine ⟨_, (pss_cons (ps_expr (pe_call G_refuse_alike (hr.mono (by decide)) (by rfl) T.g_refuse_alike T.F_refuse_alike.kp T.b_refuse_alike .nil pass0 (pa_cons (pv 1) pa_nil)))
      (pss_cons (ps_set (i := 2) nd rfl (.inl rfl) (pe_callB (id := "sorted") cr_sortedPN (by rfl) T.n_sorted (by decide +kernel) (pa_cons (pe_lc (own := [("house", 3)]) (g := gName 3) (tt := tYes) (te := (tTup (tCons (tOp (rIxL K) (tVar 1) (tVar 3)) (tCons (tVar 3) tNil)))) rfl nd (pi_range1 (by rfl) T.n_range (pa_cons (pe_ix ix_tup (pv 0) pe_int (fun _ _ => rfl)) pa_nil)) (blkOk_by (N := ["web", "names", "by_names", "house", "_"]) (sc := defScope s_rounds_by) (by decide +kernel)) (fun _ _ _ _ _ => (pg_name (i := 3) nd rfl (.inl rfl))) (fun _ _ _ _ _ => pts_nil) (fun _ _ _ _ _ => (pe_tup (pa_cons (pe_ix ix_list (pv 1) (pv 3) (fun _ _ => rfl)) (pa_cons (pv 3) pa_nil))))) pa_nil)))
      (pss_one (ps_ret (pe_call G_rows_along (hr.mono (by decide)) (by rfl) T.g_rows_along T.F_rows_along.kp T.b_rows_along .nil pass0 (pa_cons (pe_call G_neighbours (hr.mono (by decide)) (by rfl) T.g_neighbours T.F_neighbours.kp T.b_neighbours .nil pass0 (pa_cons (pv 0) pa_nil)) (pa_cons (pe_lc (own := [("_", 4), ("house", 3)]) (g := (gTup K 2 (gCons (gName 4) (gCons (gName 3) gNil)))) (tt := tYes) (te := (tVar 3)) rfl nd (pi_list (pv 2)) (blkOk_by (N := ["web", "names", "by_names", "house", "_"]) (sc := defScope s_rounds_by) (by decide +kernel)) (fun _ _ _ _ _ => (pg_tup rfl (pgs_cons (pg_name (i := 4) nd rfl (.inl rfl)) (pgs_cons (pg_name (i := 3) nd rfl (.inl rfl)) pgs_nil)))) (fun _ _ _ _ _ => pts_nil) (fun _ _ _ _ _ => (pv 3))) pa_nil))))))), ?_⟩
    walk_at "rd"
    refine r_callF S names ⟨.ref na, rfl, hu, Nm.nd, by omega⟩ fun x N F1 H1 S e1 ⟨z, ex⟩ => ?_
    subst z ex
    walk_at "rd"
    refine ⟨many, rfl, by omega, by omega, ?_⟩
    refine s_lcI (srcRG (n := many)) (fun i acc F' M' => M' = [] ∧ TupsAt F' acc (((rgI many).take i).map fun h => (nmAt names h, h))) S ⟨rfl, .nil⟩ (fun _ _ _ _ _ m hm => by cases hm) ?_ ?_
    · rintro i h _ acc D F2 F3 H3 M' eh S e2 e3 rfl ⟨rfl, ta⟩
      have hh := rgI_mem.mp (List.mem_of_getElem? eh)
      have hx := nm_at nl hh.1 hh.2
      have al := ta.len
      rw [List.length_map, List.length_take] at al
      have hi := (List.getElem?_eq_some_iff.mp eh).1
      rw [rgI_len] at hi
      walk_at "rd"
      refine ⟨rfl, ?_⟩
      walk_at "rd"
      refine ⟨by show 2 ≤ sizeLine; decide, s_new S fun t F4 H4 S e4 c4 => ?_⟩
      refine CI.put S (by walk_at "ex") (by omega) ⟨rfl, ?_⟩
      rw [take_snoc eh, List.map_append]
      exact TupsAt.snoc c4 (ta.mono (ExT.of (e3.trans e4)))
    · rintro D acc F2 H2 M' S e2 ⟨rfl, ta⟩
      rw [List.take_length] at ta
      obtain ⟨F3, S, e3, c3⟩ := S.frz 0 rfl
      have ta := ta.mono (ExT.of e3)
      walk_at "rd"
      refine ⟨D, acc, pairOf F3, rfl, by walk_at "hl", fun x hx => ?_, fun ys hs hb => s_new S fun q F4 H4 S e4 c4 => ?_⟩
      · obtain ⟨t, et, ht⟩ := ta.all x hx
        exact ⟨t, et, S.fr _ _ ht⟩
      have t1 : TupsAt F3 ys (ys.map (pairOf F3)) := tupsAt_of ys fun x hx => ta.all x (hb.perm.mem_iff.mp hx)
      have pp : (ys.map (pairOf F3)).Perm ((rgI many).map fun h => (nmAt names h, h)) := by
        rw [← ta.map]
        exact hb.perm.map _
      have pn : ((rgI many).map fun h => (nmAt names h, h)).Nodup := List.Pairwise.map _ (fun a b h e => h (congrArg Prod.snd e)) (rgI_nd many)
      have up := sorted_up pn pp (List.Pairwise.map _ (fun a b h => h) hs)
      generalize ys.map (pairOf F3) = ps at *
      have hpm : ∀ p ∈ ps, p.1 = nmAt names p.2 ∧ 0 ≤ p.2 ∧ p.2 < many := fun p hp => by
        obtain ⟨h, hh, e⟩ := List.mem_map.mp (pp.mem_iff.mp hp)
        have := rgI_mem.mp hh
        rw [← e]
        exact ⟨rfl, this⟩
      have op : (ps.map fun p => p.2).Perm (rgI many) := by
        have := pp.map fun p => p.2
        rw [List.map_map] at this
        have e : ((fun p : Int × Int => p.2) ∘ fun h => (nmAt names h, h)) = id := rfl
        rw [e, List.map_id] at this
        exact this
      have ow : (ps.map fun p => p.2).Pairwise fun a b => nmAt names a < nmAt names b := by
        refine List.Pairwise.map _ (R := fun a b : Int × Int => nmAt names a.2 < nmAt names b.2) (fun a b h => h) ?_
        refine List.Pairwise.imp_of_mem ?_ up
        intro a b ma mb hab
        obtain ⟨a1, a2⟩ := hpm a ma
        obtain ⟨b1, b2⟩ := hpm b mb
        rcases hab with q | ⟨q1, q2⟩
        · omega
        · exfalso
          exact nm_ne Nm a2 b2 (by omega) (by omega)
      walk_at "rd"
      refine r_callF S (many, ties) ⟨.ref wa, rfl, by walk_at "dp", W⟩ fun u N F5 H5 S e5 ⟨z, ls⟩ => ?_
      subst z
      have pl : ps.length = many.toNat := by rw [pp.length_eq, List.length_map, rgI_len]
      walk_at "rd"
      refine ⟨q, rfl, ⟨_, by walk_at "hl"⟩, ?_⟩
      refine s_lcV (srcP (ps := ps) (SqL.of (e5 _ _ c4)) (t1.mono (ExT.of (e4.trans e5)))) (fun _ => true) (fun p => .int p.2) S (by omega) (fun m hm => by cases hm) ?_ ?_
      · rintro i p _ acc2 D2 F6 H6 t S e6 ⟨tt, rfl, ct⟩
        walk_at "rd"
        refine ⟨rfl, ?_⟩
        walk_at "rd"
        exact t.put S e6 rfl rfl
      · intro D2 F6 H6 S e6
        rw [List.filter_eq_self.mpr (fun _ _ => rfl), show (ps.map fun p => V.int p.2) = (ps.map fun p => p.2).map V.int by rw [List.map_map]; rfl] at S
        obtain ⟨F7, S, e7, c7⟩ := S.frz 0 rfl
        walk_at "rd"
        refine r_callF S (many, ties, names, ps.map fun p => p.2) ⟨u, D2, rfl, ls.ex (e6.trans e7), W, .inl (SqL.of c7), op, ow⟩ fun x N F8 H8 S e8 b => ?_
        obtain ⟨q8, xs, rfl, rfl, ov⟩ := b
        exact k _ [(q8, _)] _ _ S ⟨q8, xs, rfl, rfl, ov⟩
def B_picked : (Int × List (Int × Int) × List Int) → V → List (Addr × Cel) → Hp → Prop := fun | (many, ties, names), v, N, F => ∃ q, v = .ref q ∧ N = [(q, .is (.lst ((pickedOf many ties names).map V.int)))]
def B_latest : (Int × List (Int × Int) × List Int) → V → List (Addr × Cel) → Hp → Prop := fun | (many, ties, names), v, N, F => N = [] ∧ v = .int (maxDf 0 ((rowsOf many ties names).map fun r => r.2))
theorem ok_latest_by (T : Env K mg) : FnOk P w K mg base CX0 5 T.a_latest_by T.fd_latest_by ["web", "names"] (SpF (A_wn K) B_latest) := by
  have nd := sc_latest_by.nd
  have G_latest_of : FnOk P w K mg base CX0 1 T.a_latest_of T.fd_latest_of ["rows"] (SpF (A_rows1 K) B_latestof) := ok_latest_of T
  have G_rounds_by : FnOk P w K mg base CX0 4 T.a_rounds_by T.fd_rounds_by ["web", "names"] (SpF (A_wn K) B_rws3) := ok_rounds_by T
  refine T.F_latest_by.ok sc_latest_by (fun vs H Q E h => ?_) (fun cdv A outer s H vs Q E hr h => ?_)
  · obtain ⟨⟨_, _, _⟩, F, _, ⟨v, u, rfl, _⟩, _⟩ := h
    rfl
  · obtain ⟨⟨many, ties, names⟩, F, fr, ⟨v, u, rfl, hv, W, hu, Nm⟩, k⟩ := h
    have w2 := W.hi
    have S := Sep.start0 fr
    refine ⟨_, (pss_one (ps_ret (pe_call G_latest_of (hr.mono (by decide)) (by rfl) T.g_latest_of T.F_latest_of.kp T.b_latest_of .nil pass0 (pa_cons (pe_call G_rounds_by (hr.mono (by decide)) (by rfl) T.g_rounds_by T.F_rounds_by.kp T.b_rounds_by .nil pass0 (pa_cons (pv 0) (pa_cons (pv 1) pa_nil))) pa_nil)))), ?_⟩
    walk_at "rd"
    refine r_callF S (many, ties, names) ⟨v, u, rfl, hv, W, hu, Nm⟩ fun x N F1 H1 S e1 ⟨q, xs, ev, z, ov⟩ => ?_
    subst z ev
    obtain ⟨F2, S, e2, c2⟩ := S.frz 0 rfl
    walk_at "rd"
    refine r_callF S (rowsOf many ties names) ⟨.ref q, rfl, .lst (SqL.of c2) (ov.keep (ExT.of e2)).rows, by rw [rowsOf_len]; omega⟩ fun x N F3 H3 S e3 ⟨z, ex⟩ => ?_
    subst z ex
    exact k _ [] _ _ S ⟨rfl, rfl⟩
def A_isr (K : PySem.W.Frag) : (Int × List (Int × Int) × List Int × List Row) → List V → Hp → Prop := fun | (many, ties, names, rs), vs, F => ∃ v u r, vs = [v, u, r] ∧ Dp K F v (webD many ties) ∧ WebOk many ties ∧ Dp K F u (intsD names) ∧ NamesOk many names ∧ Dp K F r (rowsD rs) ∧ rs.length = many.toNat
def B_isr : (Int × List (Int × Int) × List Int × List Row) → V → List (Addr × Cel) → Hp → Prop := fun | (many, ties, names, rs), v, N, F => N = [] ∧ v = .bl (decide (rs = rowsOf many ties names))
end

end
section
local macro_rules | `(tactic| walk_at "ex") => `(tactic| first | exact Evl.Ex.refl _ | assumption | ((refine' Evl.Ex.trans ?x ?y); (case y => assumption); (case x => walk_at "ex")))
local macro_rules | `(tactic| walk_at "hc") => `(tactic| first
  | assumption
  | ((refine' Sep.rdM ?S 0 ?k); (case S => assumption); (case k => exact rfl)) | ((refine' Sep.rdM ?S 1 ?k); (case S => assumption); (case k => exact rfl)) | ((refine' Sep.rdM ?S 2 ?k); (case S => assumption); (case k => exact rfl)) | ((refine' Sep.rdM ?S 3 ?k); (case S => assumption); (case k => exact rfl)) | ((refine' Sep.rdM ?S 4 ?k); (case S => assumption); (case k => exact rfl))
  | ((refine' Sep.rdC ?S ?e ?h); (case S => assumption); (case h => assumption); (case e => walk_at "ex")))
local macro_rules | `(tactic| walk_at "hl") => `(tactic| first
  | assumption
  | ((refine' SqL.of (Sep.rdM ?S 0 ?k)); (case S => assumption); (case k => exact rfl)) | ((refine' SqL.of (Sep.rdM ?S 1 ?k)); (case S => assumption); (case k => exact rfl)) | ((refine' SqL.of (Sep.rdM ?S 2 ?k)); (case S => assumption); (case k => exact rfl)) | ((refine' SqL.of (Sep.rdM ?S 3 ?k)); (case S => assumption); (case k => exact rfl)) | ((refine' SqL.of (Sep.rdM ?S 4 ?k)); (case S => assumption); (case k => exact rfl))
  | ((refine' Sep.rdL ?S ?e ?h); (case S => assumption); (case h => assumption); (case e => walk_at "ex"))
  | ((refine' Sep.rdT ?S ?e ?h); (case S => assumption); (case h => assumption); (case e => walk_at "ex"))
  | ((refine' SqL.of (Sep.rdC ?S ?e ?h)); (case S => assumption); (case h => assumption); (case e => walk_at "ex"))
  | ((refine' SqT.of (Sep.rdC ?S ?e ?h)); (case S => assumption); (case h => assumption); (case e => walk_at "ex"))
  | ((refine' SqL.of ?h); (case h => assumption)) | ((refine' SqT.of ?h); (case h => assumption))
  | ((refine' Evl.ex_l ?e ?h); (case h => assumption); (case e => walk_at "ex")) | ((refine' Evl.ex_t ?e ?h); (case h => assumption); (case e => walk_at "ex"))
  | ((refine' SqL.of (?e _ _ ?h)); (case h => assumption); (case e => walk_at "ex")) | ((refine' SqT.of (?e _ _ ?h)); (case h => assumption); (case e => walk_at "ex")))
local macro_rules | `(tactic| walk_at "hs") => `(tactic| walk_at "hc")
local macro_rules | `(tactic| walk_at "dp") => `(tactic| first
  | assumption
  | ((refine' Sep.rdD ?S ?e ?h); (case S => assumption); (case h => assumption); (case e => walk_at "ex"))
  | ((refine' Dp.ex ?e _ _ ?h); (case h => assumption); (case e => walk_at "ex"))
  | ((refine' DpAll.ex ?e _ _ ?h); (case h => assumption); (case e => walk_at "ex"))
  | (refine' dp_intsD ?h; (case h => walk_at "hl")))
local macro_rules | `(tactic| walk_at "rd1") => `(tactic| (first
  | (with_reducible refine r_seq ?_)
  | (with_reducible refine r_asg ?_)
  | (with_reducible refine r_asgG ?_)
  | (with_reducible refine r_par ?_)
  | (with_reducible refine r_if ?_)
  | (with_reducible refine r_ret ?_)
  | (with_reducible refine r_drop ?_)
  | (with_reducible refine r_next ?_)
  | ((with_reducible refine' r_var ?hx ?_); (case hx => exact rfl))
  | (with_reducible refine r_c ?_)
  | (with_reducible refine r_op ?_)
  | (with_reducible refine r_un ?_)
  | (with_reducible refine r_I0 ?_)
  | ((with_reducible refine' r_I ?_ ?_); (· first | (show (0 : Int) < _; omega) | exact Or.inr ⟨by omega, by omega⟩ | exact Or.inl ⟨by omega, by omega⟩ | exact ⟨by omega, by omega, by decide⟩))
  | (with_reducible refine r_U ?_)
  | (with_reducible refine r_test ?_)
  | (with_reducible refine r_B ?_)
  | (with_reducible refine r_bl ?_)
  | (with_reducible refine r_eqI ?_)
  | (with_reducible refine r_neI ?_)
  | ((with_reducible refine' r_eq ?_ ?_); (· exact rfl))
  | ((with_reducible refine' r_ne ?_ ?_); (· exact rfl))
  | (with_reducible refine r_nil ?_)
  | (with_reducible refine r_cons ?_)
  | (with_reducible refine s_tup ?_)
  | (with_reducible refine s_lst ?_)
  | (with_reducible refine r_call ?_)
  | (with_reducible refine r_cb ?_)
  | (with_reducible refine r_and ?_)
  | (with_reducible refine r_or ?_)
  | (with_reducible refine r_not ?_)
  | (with_reducible refine r_andV ?_)
  | (with_reducible refine r_orV ?_)
  | (with_reducible refine r_notV ?_)
  | (with_reducible refine r_ifE ?_)
  | (with_reducible refine r_gSub ?_)
  | (with_reducible refine r_sadd ?_)
  | (with_reducible refine s_lstRg ?_)
  | (with_reducible refine r_rg1 ?_)
  | (with_reducible refine r_min2 ?_)
  | (with_reducible refine r_par2 ?_)
  | (with_reducible refine r_partI ?_)
  | (with_reducible refine s_lc ?_)
  | (with_reducible refine s_dc ?_)
  | (with_reducible refine r_yes ?_)
  | (with_reducible refine r_iZipA ?_)
  | (with_reducible refine r_isN ?_)
  | (with_reducible refine r_for ?_)
  | (with_reducible refine r_iList ?_)
  | (with_reducible refine r_iTup ?_)
  | (with_reducible refine r_iRng1 ?_)
  | (with_reducible refine r_iRng2 ?_)
  | (with_reducible refine r_iEnum ?_)
  | (with_reducible refine r_iZip ?_)
  | (with_reducible refine r_gName ?_)
  | (with_reducible refine r_isNV ?_)
  | (with_reducible refine r_notNV ?_)
  | (with_reducible refine r_bm ?_)
  | (with_reducible refine r_bm0 ?_)
  | (with_reducible refine r_sl ?_)
  | (with_reducible refine r_noPart ?_)
  | (with_reducible refine r_part ?_)
  | (with_reducible refine r_chain ?_)
  | (with_reducible refine r_iKeys ?_)
  | (with_reducible refine r_iItems ?_)
  | (with_reducible refine r_frz ?_)
  | (with_reducible refine r_dput ?_)
  | (with_reducible refine r_dget ?_)
  | (with_reducible refine r_din ?_)
  | (with_reducible refine r_dnotin ?_)
  | (with_reducible refine r_break ?_)
  | ((with_reducible refine' r_sIn ?h ?_); (case h => walk_at "hs"))
  | ((with_reducible refine' r_sNotIn ?h ?_); (case h => walk_at "hs"))
  | ((with_reducible refine' r_inI ?h ?_); (case h => walk_at "hl"))
  | ((with_reducible refine' r_notInI ?h ?_); (case h => walk_at "hl"))
  | ((with_reducible refine' r_eqNil ?h ?g ?_); (case h => walk_at "hl"); (case g => walk_at "hl"))
  | ((with_reducible refine' r_neNil ?h ?g ?_); (case h => walk_at "hl"); (case g => walk_at "hl"))
  | ((with_reducible refine' iteRT ?hh ?_); (case hh => exact rfl))
  | ((with_reducible refine' iteRF ?hh ?_); (case hh => exact rfl))
  | ((with_reducible refine' r_isiT ?ty ?hk ?_); (case ty => (first | assumption | exact tyx_L (by assumption) | exact tyx_T (by assumption) | exact .base (.non) | exact .base (.bl _) | exact .base (.int _) | exact .base (.str _) | exact tyx_L (by walk_at "hl") | exact tyx_T (by walk_at "hl"))); (case hk => decide +kernel))
  | ((with_reducible refine' r_isiF ?ty ?hk ?_); (case ty => (first | assumption | exact tyx_L (by assumption) | exact tyx_T (by assumption) | exact .base (.non) | exact .base (.bl _) | exact .base (.int _) | exact .base (.str _) | exact tyx_L (by walk_at "hl") | exact tyx_T (by walk_at "hl"))); (case hk => decide +kernel))
  | ((with_reducible refine' r_gTup2 ?hn ?hs ?_); (case hn => exact rfl); (case hs => walk_at "hl"))
  | ((with_reducible refine' s_list ?hl ?_); (case hl => first | exact Or.inl (by walk_at "hl") | exact Or.inr (by walk_at "hl")))
  | ((with_reducible refine' s_tupN ?hl ?_); (case hl => walk_at "hl"))
  | ((with_reducible refine' s_sortN ?hl ?_); (case hl => walk_at "hl"))
  | ((refine' ⟨_, _, rfl, ?hl, ?_⟩); (case hl => first | exact Or.inl (by walk_at "hl") | exact Or.inr (by walk_at "hl")))
  | ((with_reducible refine' r_ixL ?hl ?ha ?_); (case hl => walk_at "hl"); (case ha => first | exact rfl | assumption))
  | ((with_reducible refine' r_ixT ?hl ?ha ?_); (case hl => walk_at "hl"); (case ha => first | exact rfl | assumption))))
local macro_rules | `(tactic| walk_at "rd") => `(tactic| repeat (walk_at "rd1"))

section
variable {w : World} {K : PySem.W.Frag} {mg : Str → Option Value} {base : Heap}

theorem r_chain {σ : L2.St} {H : Hp} {Q : VK} {r r' : R2} {ta tb tc : TE} (h : ta σ H fun x H1 => tb σ H1 fun y H2 => r x y H2 fun z H3 => ∃ k, z = .bl k ∧ (if k = true then tc σ H3 fun w' H4 => r' y w' H4 Q else Q (.bl false) H3)) : tChain r r' ta tb tc σ H Q := h
theorem r_callS {σ : L2.St} {H : Hp} {Q : VK} {sp : Sp} {E : L2.St → XK} {t : TA} (h : t σ H fun vs H1 => sp vs H1 Q (E σ)) : tCallS sp E t σ H Q := h
def A_whole : Int → List V → Hp → Prop := fun i vs _ => vs = [.int i]
def B_val {α : Type} (v : V) : α → V → List (Addr × Cel) → Hp → Prop := fun _ x N _ => N = [] ∧ x = v
theorem ok_is_whole (T : Env K mg) : FnOk P w K mg base CX0 1 T.a_is_whole T.fd_is_whole ["thing"] (SpF A_whole (B_val (.bl true))) := by
  have nd := sc_is_whole.nd
  refine T.F_is_whole.ok sc_is_whole (fun vs H Q E h => ?_) (fun cdv A outer s H vs Q E hr h => ?_)
  · obtain ⟨i, F, _, rfl, _⟩ := h
    rfl
  · obtain ⟨i, F, fr, rfl, k⟩ := h
    have S := Sep.start0 fr
    refine ⟨_, (pss_one (ps_ret (pe_and (pe_callB (id := "isinstance") call_isi (by rfl) T.n_isinstance (by decide +kernel) (pa_cons (pv 0) (pa_cons (pe_bltn (v := .ty "int") (u := .type "int") (by rfl) T.n_int (by decide +kernel) rfl) pa_nil))) (pe_one (pe_not (pe_callB (id := "isinstance") call_isi (by rfl) T.n_isinstance (by decide +kernel) (pa_cons (pv 0) (pa_cons (pe_bltn (v := .ty "bool") (u := .type "bool") (by rfl) T.n_bool (by decide +kernel) rfl) pa_nil)))))))), ?_⟩
    walk_at "rd"
    exact k _ [] _ _ S ⟨rfl, rfl⟩
def A_wh (K : PySem.W.Frag) : (Int × List (Int × Int) × Int) → List V → Hp → Prop := fun | (many, ties, h), vs, F => ∃ v, vs = [v, .int h] ∧ Dp K F v (webD many ties) ∧ WebOk many ties
def R_cls {α : Type} (C : Addr) (P : α → Prop) : α → Value → Option Addr → Hp → Prop := fun x c d _ => c = .ref C ∧ d = none ∧ P x
def B_in {α : Type} (v : V) (P : α → Prop) : α → V → List (Addr × Cel) → Hp → Prop := fun x z N _ => N = [] ∧ z = v ∧ P x
def inW : (Int × List (Int × Int) × Int) → Prop := fun x => 0 ≤ x.2.2 ∧ x.2.2 < x.1
theorem ok_refuse_no_house (T : Env K mg) : FnOk P w K mg base (L2.CX P w) 2 T.a_refuse_no_house T.fd_refuse_no_house ["web", "house"] (SpX (A_wh K) (B_in .non inW) (R_cls T.c_NoHouse fun x => ¬ inW x)) := by
  have nd := sc_refuse_no_house.nd
  have G_is_whole : FnOk P w K mg base CX0 1 T.a_is_whole T.fd_is_whole ["thing"] (SpF A_whole (B_val (.bl true))) := ok_is_whole T
  refine T.F_refuse_no_house.okX sc_refuse_no_house (fun vs H Q E h => ?_) (fun cdv A outer s H vs Q E hr h => ?_)
  · obtain ⟨⟨_, _, _⟩, F, _, ⟨v, rfl, _⟩, _⟩ := h
    rfl
  · obtain ⟨⟨many, ties, h⟩, F, fr, ⟨v, rfl, hv, W⟩, k1, k2⟩ := h
    obtain ⟨wa, wb, ws, rfl, z1, z2, z3⟩ := webD_at hv
    have S := Sep.start0 fr
    refine ⟨_, (pss_one (ps_if (PW.pt (pw_or (pt_not (pt_val (pe_call G_is_whole (hr.mono (by decide)) (by rfl) T.g_is_whole T.F_is_whole.kp T.b_is_whole .nil pass0 (pa_cons (pv 1) pa_nil)))) (pw_or1 (pt_not (pt_chain op_le op_lt pe_int (pv 1) (pe_ix ix_tup (pv 0) pe_int (fun _ _ => rfl))))))) (pss_one (ps_raise rfl (takes_of rfl rfl rfl rfl) (pmk_own PySem.F.excBase_ValueError T.x_NoHouse T.g_NoHouse T.kp_NoHouse (raises_own T.y_NoHouse.hs T.ty_NoHouse) (by rfl)))) pss_nil)), ?_⟩
    walk_at "rd"
    refine r_callF S h rfl ?_
    rintro v N F1 H1 S e1 ⟨rfl, rfl⟩
    walk_at "rd"
    refine r_chain ?_
    walk_at "rd"
    cases c1 : decide (0 ≤ h) with
    | true =>
      walk_at "rd"
      cases c2 : decide (h < many) with
      | true =>
        walk_at "rd"
        exact k1 _ [] _ _ S ⟨rfl, rfl, of_decide_eq_true c1, of_decide_eq_true c2⟩
      | false =>
        walk_at "rd"
        exact k2 _ _ _ _ S ⟨rfl, rfl, fun z => of_decide_eq_false c2 z.2⟩
    | false =>
      walk_at "rd"
      exact k2 _ _ _ _ S ⟨rfl, rfl, fun z => of_decide_eq_false c1 z.1⟩
def B_tied : (Int × List (Int × Int) × Int) → V → List (Addr × Cel) → Hp → Prop := fun | (many, ties, h), v, N, F => N = [] ∧ (0 ≤ h ∧ h < many) ∧ ∃ q, v = .ref q ∧ F q = some (.lst ((nbr ties h).map V.int))
theorem ok_tied_to (T : Env K mg) : FnOk P w K mg base (L2.CX P w) 3 T.a_tied_to T.fd_tied_to ["web", "house"] (SpX (A_wh K) B_tied (R_cls T.c_NoHouse fun x => ¬ inW x)) := by
  have nd := sc_tied_to.nd
  have G_refuse_no_house : FnOk P w K mg base (L2.CX P w) 2 T.a_refuse_no_house T.fd_refuse_no_house ["web", "house"] (SpX (A_wh K) (B_in .non inW) (R_cls T.c_NoHouse fun x => ¬ inW x)) := ok_refuse_no_house T
  have G_neighbours : FnOk P w K mg base CX0 1 T.a_neighbours T.fd_neighbours ["web"] (SpF (A_web1 K) B_near) := ok_neighbours T
  refine T.F_tied_to.okX sc_tied_to (fun vs H Q E h => ?_) (fun cdv A outer s H vs Q E hr h => ?_)
  · obtain ⟨⟨_, _, _⟩, F, _, ⟨v, rfl, _⟩, _⟩ := h
    rfl
  · obtain ⟨⟨many, ties, h⟩, F, fr, ⟨v, rfl, hv, W⟩, k1, k2⟩ := h
    have S := Sep.start0 fr
    have w2 := W.hi
    refine ⟨_, (pss_cons (ps_expr (pe_callS (E := fun _ => E) G_refuse_no_house (hr.mono (by decide)) (by rfl) T.g_refuse_no_house T.F_refuse_no_house.kp T.b_refuse_no_house (fun σ => passAt (takes_of rfl rfl rfl rfl) σ) (pa_cons (pv 0) (pa_cons (pv 1) pa_nil))))
      (pss_one (ps_ret (pe_ix ix_list (pe_call G_neighbours (hr.mono (by decide)) (by rfl) T.g_neighbours T.F_neighbours.kp T.b_neighbours .nil pass0 (pa_cons (pv 0) pa_nil)) (pv 1) (fun _ _ => rfl))))), ?_⟩
    walk_at "rd"
    refine r_callS ?_
    walk_at "rd"
    refine r_callX S (many, ties, h) ⟨v, rfl, hv, W⟩ ?_ (fun c d F1 H1 S e1 r => k2 c d _ _ S r)
    rintro v2 N F1 H1 S e1 ⟨rfl, rfl, i1, i2⟩
    simp only at i1 i2
    walk_at "rd"
    refine r_callF S (many, ties) ⟨v, rfl, Dp.ex e1 _ _ hv, W⟩ ?_
    rintro v3 N F2 H2 S e2 ⟨rfl, q, bs, rfl, b1, b2, b3⟩
    have lt : h.toNat < bs.length := by omega
    have g1 := b3 h.toNat bs[h.toNat] (List.getElem?_eq_getElem lt)
    rw [show ((h.toNat : Nat) : Int) = h by omega] at g1
    walk_at "rd"
    exact r_ixL (K := K) (SqL.of (S.fr _ _ b1)) (atI_of i1 (by rw [List.getElem?_map, List.getElem?_eq_getElem lt]; rfl)) (k1 _ [] _ _ S ⟨rfl, ⟨i1, i2⟩, _, rfl, g1⟩)

end

end
section
local macro_rules | `(tactic| walk_at "ex") => `(tactic| first | exact Evl.Ex.refl _ | assumption | ((refine' Evl.Ex.trans ?x ?y); (case y => assumption); (case x => walk_at "ex")))
local macro_rules | `(tactic| walk_at "hc") => `(tactic| first
  | assumption
  | ((refine' Sep.rdM ?S 0 ?k); (case S => assumption); (case k => exact rfl)) | ((refine' Sep.rdM ?S 1 ?k); (case S => assumption); (case k => exact rfl)) | ((refine' Sep.rdM ?S 2 ?k); (case S => assumption); (case k => exact rfl)) | ((refine' Sep.rdM ?S 3 ?k); (case S => assumption); (case k => exact rfl)) | ((refine' Sep.rdM ?S 4 ?k); (case S => assumption); (case k => exact rfl))
  | ((refine' Sep.rdC ?S ?e ?h); (case S => assumption); (case h => assumption); (case e => walk_at "ex")))
local macro_rules | `(tactic| walk_at "hl") => `(tactic| first
  | assumption
  | ((refine' SqL.of (Sep.rdM ?S 0 ?k)); (case S => assumption); (case k => exact rfl)) | ((refine' SqL.of (Sep.rdM ?S 1 ?k)); (case S => assumption); (case k => exact rfl)) | ((refine' SqL.of (Sep.rdM ?S 2 ?k)); (case S => assumption); (case k => exact rfl)) | ((refine' SqL.of (Sep.rdM ?S 3 ?k)); (case S => assumption); (case k => exact rfl)) | ((refine' SqL.of (Sep.rdM ?S 4 ?k)); (case S => assumption); (case k => exact rfl))
  | ((refine' Sep.rdL ?S ?e ?h); (case S => assumption); (case h => assumption); (case e => walk_at "ex"))
  | ((refine' Sep.rdT ?S ?e ?h); (case S => assumption); (case h => assumption); (case e => walk_at "ex"))
  | ((refine' SqL.of (Sep.rdC ?S ?e ?h)); (case S => assumption); (case h => assumption); (case e => walk_at "ex"))
  | ((refine' SqT.of (Sep.rdC ?S ?e ?h)); (case S => assumption); (case h => assumption); (case e => walk_at "ex"))
  | ((refine' SqL.of ?h); (case h => assumption)) | ((refine' SqT.of ?h); (case h => assumption))
  | ((refine' Evl.ex_l ?e ?h); (case h => assumption); (case e => walk_at "ex")) | ((refine' Evl.ex_t ?e ?h); (case h => assumption); (case e => walk_at "ex"))
  | ((refine' SqL.of (?e _ _ ?h)); (case h => assumption); (case e => walk_at "ex")) | ((refine' SqT.of (?e _ _ ?h)); (case h => assumption); (case e => walk_at "ex")))
local macro_rules | `(tactic| walk_at "hs") => `(tactic| walk_at "hc")
local macro_rules | `(tactic| walk_at "dp") => `(tactic| first
  | assumption
  | ((refine' Sep.rdD ?S ?e ?h); (case S => assumption); (case h => assumption); (case e => walk_at "ex"))
  | ((refine' Dp.ex ?e _ _ ?h); (case h => assumption); (case e => walk_at "ex"))
  | ((refine' DpAll.ex ?e _ _ ?h); (case h => assumption); (case e => walk_at "ex"))
  | (refine' dp_intsD ?h; (case h => walk_at "hl")))
local macro_rules | `(tactic| walk_at "rd1") => `(tactic| (first
  | (with_reducible refine r_seq ?_)
  | (with_reducible refine r_asg ?_)
  | (with_reducible refine r_asgG ?_)
  | (with_reducible refine r_par ?_)
  | (with_reducible refine r_if ?_)
  | (with_reducible refine r_ret ?_)
  | (with_reducible refine r_drop ?_)
  | (with_reducible refine r_next ?_)
  | ((with_reducible refine' r_var ?hx ?_); (case hx => exact rfl))
  | (with_reducible refine r_c ?_)
  | (with_reducible refine r_op ?_)
  | (with_reducible refine r_un ?_)
  | (with_reducible refine r_I0 ?_)
  | ((with_reducible refine' r_I ?_ ?_); (· first | (show (0 : Int) < _; omega) | exact Or.inr ⟨by omega, by omega⟩ | exact Or.inl ⟨by omega, by omega⟩ | exact ⟨by omega, by omega, by decide⟩))
  | (with_reducible refine r_U ?_)
  | (with_reducible refine r_test ?_)
  | (with_reducible refine r_B ?_)
  | (with_reducible refine r_bl ?_)
  | (with_reducible refine r_eqI ?_)
  | (with_reducible refine r_neI ?_)
  | ((with_reducible refine' r_eq ?_ ?_); (· exact rfl))
  | ((with_reducible refine' r_ne ?_ ?_); (· exact rfl))
  | (with_reducible refine r_nil ?_)
  | (with_reducible refine r_cons ?_)
  | (with_reducible refine s_tup ?_)
  | (with_reducible refine s_lst ?_)
  | (with_reducible refine r_call ?_)
  | (with_reducible refine r_cb ?_)
  | (with_reducible refine r_and ?_)
  | (with_reducible refine r_or ?_)
  | (with_reducible refine r_not ?_)
  | (with_reducible refine r_andV ?_)
  | (with_reducible refine r_orV ?_)
  | (with_reducible refine r_notV ?_)
  | (with_reducible refine r_ifE ?_)
  | (with_reducible refine r_gSub ?_)
  | (with_reducible refine r_sadd ?_)
  | (with_reducible refine s_lstRg ?_)
  | (with_reducible refine r_rg1 ?_)
  | (with_reducible refine r_min2 ?_)
  | (with_reducible refine r_par2 ?_)
  | (with_reducible refine r_partI ?_)
  | (with_reducible refine s_lc ?_)
  | (with_reducible refine s_dc ?_)
  | (with_reducible refine r_yes ?_)
  | (with_reducible refine r_iZipA ?_)
  | (with_reducible refine r_isN ?_)
  | (with_reducible refine r_for ?_)
  | (with_reducible refine r_iList ?_)
  | (with_reducible refine r_iTup ?_)
  | (with_reducible refine r_iRng1 ?_)
  | (with_reducible refine r_iRng2 ?_)
  | (with_reducible refine r_iEnum ?_)
  | (with_reducible refine r_iZip ?_)
  | (with_reducible refine r_gName ?_)
  | (with_reducible refine r_isNV ?_)
  | (with_reducible refine r_notNV ?_)
  | (with_reducible refine r_bm ?_)
  | (with_reducible refine r_bm0 ?_)
  | (with_reducible refine r_sl ?_)
  | (with_reducible refine r_noPart ?_)
  | (with_reducible refine r_part ?_)
  | (with_reducible refine r_chain ?_)
  | (with_reducible refine r_iKeys ?_)
  | (with_reducible refine r_iItems ?_)
  | (with_reducible refine r_frz ?_)
  | (with_reducible refine r_dput ?_)
  | (with_reducible refine r_dget ?_)
  | (with_reducible refine r_din ?_)
  | (with_reducible refine r_dnotin ?_)
  | (with_reducible refine r_break ?_)
  | ((with_reducible refine' r_sIn ?h ?_); (case h => walk_at "hs"))
  | ((with_reducible refine' r_sNotIn ?h ?_); (case h => walk_at "hs"))
  | ((with_reducible refine' r_inI ?h ?_); (case h => walk_at "hl"))
  | ((with_reducible refine' r_notInI ?h ?_); (case h => walk_at "hl"))
  | ((with_reducible refine' r_eqNil ?h ?g ?_); (case h => walk_at "hl"); (case g => walk_at "hl"))
  | ((with_reducible refine' r_neNil ?h ?g ?_); (case h => walk_at "hl"); (case g => walk_at "hl"))
  | ((with_reducible refine' iteRT ?hh ?_); (case hh => exact rfl))
  | ((with_reducible refine' iteRF ?hh ?_); (case hh => exact rfl))
  | ((with_reducible refine' r_isiT ?ty ?hk ?_); (case ty => (first | assumption | exact tyx_L (by assumption) | exact tyx_T (by assumption) | exact .base (.non) | exact .base (.bl _) | exact .base (.int _) | exact .base (.str _) | exact tyx_L (by walk_at "hl") | exact tyx_T (by walk_at "hl"))); (case hk => decide +kernel))
  | ((with_reducible refine' r_isiF ?ty ?hk ?_); (case ty => (first | assumption | exact tyx_L (by assumption) | exact tyx_T (by assumption) | exact .base (.non) | exact .base (.bl _) | exact .base (.int _) | exact .base (.str _) | exact tyx_L (by walk_at "hl") | exact tyx_T (by walk_at "hl"))); (case hk => decide +kernel))
  | ((with_reducible refine' r_gTup2 ?hn ?hs ?_); (case hn => exact rfl); (case hs => walk_at "hl"))
  | ((with_reducible refine' s_list ?hl ?_); (case hl => first | exact Or.inl (by walk_at "hl") | exact Or.inr (by walk_at "hl")))
  | ((with_reducible refine' s_tupN ?hl ?_); (case hl => walk_at "hl"))
  | ((with_reducible refine' s_sortN ?hl ?_); (case hl => walk_at "hl"))
  | ((refine' ⟨_, _, rfl, ?hl, ?_⟩); (case hl => first | exact Or.inl (by walk_at "hl") | exact Or.inr (by walk_at "hl")))
  | ((with_reducible refine' r_ixL ?hl ?ha ?_); (case hl => walk_at "hl"); (case ha => first | exact rfl | assumption))
  | ((with_reducible refine' r_ixT ?hl ?ha ?_); (case hl => walk_at "hl"); (case ha => first | exact rfl | assumption))))
local macro_rules | `(tactic| walk_at "rd") => `(tactic| repeat (walk_at "rd1"))

section
variable {w : World} {K : PySem.W.Frag} {mg : Str → Option Value} {base : Heap}

def rssD (many : Int) (ties : List (Int × Int)) (L : List (List Int)) : List PyData := L.map fun ns => rowsD (rowsOf many ties ns)
def A_web6 (K : PySem.W.Frag) : (Int × List (Int × Int)) → List V → Hp → Prop := fun | (many, ties), vs, F => ∃ v, vs = [v] ∧ Dp K F v (webD many ties) ∧ WebOk many ties ∧ many ≤ 6
def B_roo (K : PySem.W.Frag) : (Int × List (Int × Int)) → V → List (Addr × Cel) → Hp → Prop := fun | (many, ties), v, N, F => ∃ q xs L, v = .ref q ∧ N = [(q, .is (.lst xs))] ∧ DpAll K F xs (rssD many ties L) ∧ L.Perm (lawI many.toNat)
theorem ok_rows_of_orders (T : Env K mg) : FnOk P w K mg base CX0 4 T.a_rows_of_orders T.fd_rows_of_orders ["web"] (SpF (A_web6 K) (B_roo K)) := by
  have nd := sc_rows_of_orders.nd
  have G_neighbours : FnOk P w K mg base CX0 1 T.a_neighbours T.fd_neighbours ["web"] (SpF (A_web1 K) B_near) := ok_neighbours T
  have G_rows_along : FnOk P w K mg base CX0 3 T.a_rows_along T.fd_rows_along ["near", "order"] (SpF (A_along K) B_rws) := ok_rows_along T
  refine T.F_rows_of_orders.ok sc_rows_of_orders (fun vs H Q E h => ?_) (fun cdv A outer s H vs Q E hr h => ?_)
  · obtain ⟨⟨_, _⟩, F, _, ⟨v, rfl, _⟩, _⟩ := h
    rfl
  · obtain ⟨⟨many, ties⟩, F, fr, ⟨v, rfl, hv, W, m6⟩, k⟩ := h
    have m1 := W.lo
    obtain ⟨np, hnp⟩ := orders_all
    obtain ⟨L, hsq, hpm, hlaw⟩ := hnp many m1 m6
    obtain ⟨wa, wb, ws, rfl, z1, z2, z3⟩ := webD_at hv
    have S := Sep.start0 fr
    refine ⟨_, (pss_cons (ps_set (i := 1) nd rfl (.inr rfl) (pe_call G_neighbours (hr.mono (by decide)) (by rfl) T.g_neighbours T.F_neighbours.kp T.b_neighbours .nil pass0 (pa_cons (pv 0) pa_nil)))
      (pss_one (ps_ret (pe_lc (own := [("order", 2)]) (g := gName 2) (tt := tYes) (te := (tCall (SpF (A_along K) B_rws) [] E0 (tCons (tVar 1) (tCons (tVar 2) tNil)))) rfl nd (pi_perm rfl (by rfl) T.g_permutations (prg_1 (by rfl) T.n_range (pe_ix ix_tup (pv 0) pe_int (fun _ _ => rfl)))) (blkOk_by (N := ["web", "near", "order"]) (sc := defScope s_rows_of_orders) (by decide +kernel)) (fun _ _ _ _ _ => (pg_name (i := 2) nd rfl (.inl rfl))) (fun _ _ _ _ _ => pts_nil) (fun _ _ _ _ _ => (pe_call G_rows_along (hr.mono (by decide)) (by rfl) T.g_rows_along T.F_rows_along.kp T.b_rows_along .nil pass0 (pa_cons (pv 1) (pa_cons (pv 2) pa_nil)))))))), ?_⟩
    walk_at "rd"
    refine r_callF S (many, ties) ⟨_, rfl, hv, W⟩ ?_
    rintro v2 N F1 H1 S e1 ⟨rfl, hls⟩
    walk_at "rd"
    refine r_iPerm ?_
    walk_at "rd"
    have ll : L.length ≤ 720 := by
      have := hlaw.length_eq
      rw [List.length_map] at this
      have := (lawI_num (n := many.toNat) (by omega)).2
      omega
    refine ⟨⟨by omega, by omega, by omega, by omega, by omega⟩, rfl, by omega, np, L, hsq, ?_⟩
    refine s_lcD (K := K) (srcPm (L := L)) (fun _ => true) (fun o => rowsD (rowsOf many ties (ordN o))) S (by omega) (fun m hm => by cases hm) ?_ ?_
    · rintro i o x acc D F2 H2 t S e2 ⟨tt, rfl, ct⟩
      have ho := List.mem_of_getElem? t.at'
      obtain ⟨o1, o2, o3⟩ := ord_ok (hpm o ho)
      walk_at "rd"
      refine ⟨rfl, ?_⟩
      walk_at "rd"
      refine r_callF S (many, ties, ordN o, natI o) ⟨v2, tt, rfl, hls.ex e2, W, .inr (SqT.of (by unfold natI; rw [List.map_map]; exact ct)), o1, o3⟩ ?_
      rintro x N F3 H3 S e3 ⟨q, xs, rfl, rfl, ov⟩
      obtain ⟨F4, S, e4, c4⟩ := S.frz 0 rfl
      exact t.put S (by walk_at "ex") (e3.trans e4) rfl (.lst (SqL.of c4) (ov.keep (ExT.of e4)).rows)
    · intro D acc F2 H2 S e2 d2
      rw [List.filter_eq_self.mpr (fun _ _ => rfl)] at d2
      exact k _ [(D, _)] _ _ S ⟨D, acc, L.map ordN, rfl, rfl, by unfold rssD; rw [List.map_map]; exact d2, hlaw⟩
def A_mean (K : PySem.W.Frag) : List Int → List V → Hp → Prop := fun ns vs F => ∃ a, vs = [.ref a] ∧ SqL K F a (ns.map V.int) ∧ 1 ≤ ns.length ∧ ns.length ≤ 720
def B_mean (K : PySem.W.Frag) : List Int → V → List (Addr × Cel) → Hp → Prop := fun ns v N F => N = [] ∧ Dp K F v (tieD (lowF (ns.sum, (ns.length : Int))))
theorem big8_of {i : Int} (h0 : 0 ≤ i) (h : i < 2 ^ 100) : Big8 i := by
  unfold Big8
  have : i.natAbs < 2 ^ 100 := by omega
  exact Nat.lt_of_lt_of_le this (Nat.pow_le_pow_right (by decide) (by decide : 100 ≤ 8000))
theorem ok_mean_of (T : Env K mg) : FnOk P w K mg base CX0 2 T.a_mean_of T.fd_mean_of ["numbers"] (SpF (A_mean K) (B_mean K)) := by
  have nd := sc_mean_of.nd
  have G_fraction_of : FnOk P w K mg base CX0 1 T.a_fraction_of T.fd_fraction_of ["over", "under"] (SpF A_fx (B_fx K)) := ok_fraction_of T
  refine T.F_mean_of.ok sc_mean_of (fun vs H Q E h => ?_) (fun cdv A outer s H vs Q E hr h => ?_)
  · obtain ⟨_, F, _, ⟨v, rfl, _⟩, _⟩ := h
    rfl
  · obtain ⟨ns, F, fr, ⟨a, rfl, hs, l1, l2⟩, k⟩ := h
    have S := Sep.start0 fr
    refine ⟨_, (pss_one (ps_ret (pe_call G_fraction_of (hr.mono (by decide)) (by rfl) T.g_fraction_of T.F_fraction_of.kp T.b_fraction_of .nil pass0 (pa_cons (pe_callB (id := "sum") (cr_sum rfl) (by rfl) T.n_sum (by decide +kernel) (pa_cons (pv 0) pa_nil)) (pa_cons (pe_callB (id := "len") call_len_seq (by rfl) T.n_len PySem.boot_len (pa_cons (pv 0) pa_nil)) pa_nil))))), ?_⟩
    walk_at "rd"
    refine ⟨a, ns, rfl, by walk_at "hl", ?_⟩
    walk_at "rd"
    refine r_callF S (ns.sum, (ns.length : Int)) ⟨by rw [List.length_map]; rfl, by show (0 : Int) < (ns.length : Int); omega, big8_of (by show (0 : Int) ≤ (ns.length : Int); omega) (by show (ns.length : Int) < 2 ^ 100; omega)⟩ ?_
    rintro v N F1 H1 S e1 ⟨rfl, d1⟩
    exact k _ [] _ _ S ⟨rfl, d1⟩
theorem perm_sum {l m : List Int} (h : l.Perm m) : l.sum = m.sum := by
  induction h with
  | nil => rfl
  | cons x _ ih => rw [List.sum_cons, List.sum_cons, ih]
  | swap x y l => rw [List.sum_cons, List.sum_cons, List.sum_cons, List.sum_cons]; omega
  | trans _ _ a b => rw [a, b]
/-- the mean of a number of the rows over all orders of names -/
def meanF (many : Int) (ties : List (Int × Int)) (f : List Row → Int) : Int × Int := lowF (((lawI many.toNat).map fun ns => f (rowsOf many ties ns)).sum, ((lawI many.toNat).length : Int))
theorem mean_same {many : Int} {ties : List (Int × Int)} {f : List Row → Int} {L : List (List Int)} (h : L.Perm (lawI many.toNat)) : lowF ((L.map fun ns => f (rowsOf many ties ns)).sum, ((L.map fun ns => f (rowsOf many ties ns)).length : Int)) = meanF many ties f := by
  unfold meanF
  rw [List.length_map, h.length_eq, perm_sum (h.map _)]
def chF (h : Int) : List Row → Int := fun rs => if (rwAt rs h).1 then 1 else 0
def szF : List Row → Int := fun rs => ((rs.filter fun r => r.1).length : Int)
def A_web6h (K : PySem.W.Frag) : (Int × List (Int × Int) × Int) → List V → Hp → Prop := fun | (many, ties, h), vs, F => ∃ v, vs = [v, .int h] ∧ Dp K F v (webD many ties) ∧ WebOk many ties ∧ many ≤ 6 ∧ 0 ≤ h ∧ h < many
def B_chin (K : PySem.W.Frag) : (Int × List (Int × Int) × Int) → V → List (Addr × Cel) → Hp → Prop := fun | (many, ties, h), v, N, F => N = [] ∧ Dp K F v (tieD (meanF many ties (chF h)))

def A_chx (K : PySem.W.Frag) : (Int × List (Int × Int) × Int) → List V → Hp → Prop := fun x vs F => A_wh K x vs F ∧ (inW x → x.1 ≤ 6)
def B_chx (K : PySem.W.Frag) : (Int × List (Int × Int) × Int) → V → List (Addr × Cel) → Hp → Prop := fun x v N F => inW x ∧ B_chin K x v N F
theorem ok_chance_in (T : Env K mg) : FnOk P w K mg base (L2.CX P w) 5 T.a_chance_in T.fd_chance_in ["web", "house"] (SpX (A_chx K) (B_chx K) (R_cls T.c_NoHouse fun x => ¬ inW x)) := by
  have nd := sc_chance_in.nd
  have G_refuse_no_house : FnOk P w K mg base (L2.CX P w) 2 T.a_refuse_no_house T.fd_refuse_no_house ["web", "house"] (SpX (A_wh K) (B_in .non inW) (R_cls T.c_NoHouse fun x => ¬ inW x)) := ok_refuse_no_house T
  have G_mean_of : FnOk P w K mg base CX0 2 T.a_mean_of T.fd_mean_of ["numbers"] (SpF (A_mean K) (B_mean K)) := ok_mean_of T
  have G_rows_of_orders : FnOk P w K mg base CX0 4 T.a_rows_of_orders T.fd_rows_of_orders ["web"] (SpF (A_web6 K) (B_roo K)) := ok_rows_of_orders T
  refine T.F_chance_in.okX sc_chance_in (fun vs H Q E h => ?_) (fun cdv A outer s H vs Q E hr h => ?_)
  · obtain ⟨⟨_, _, _⟩, F, _, ⟨⟨v, rfl, _⟩, _⟩, _⟩ := h
    rfl
  · obtain ⟨⟨many, ties, h⟩, F, fr, ⟨⟨v, rfl, hv, W⟩, hm⟩, k, k2⟩ := h
    have m1 := W.lo
    have S := Sep.start0 fr
    refine ⟨_, (pss_cons (ps_expr (pe_callS (E := fun _ => E) G_refuse_no_house (hr.mono (by decide)) (by rfl) T.g_refuse_no_house T.F_refuse_no_house.kp T.b_refuse_no_house (fun σ => passAt (takes_of rfl rfl rfl rfl) σ) (pa_cons (pv 0) (pa_cons (pv 1) pa_nil))))
      (pss_one (ps_ret (pe_call G_mean_of (hr.mono (by decide)) (by rfl) T.g_mean_of T.F_mean_of.kp T.b_mean_of .nil pass0 (pa_cons (pe_lc (own := [("rows", 2)]) (g := gName 2) (tt := tYes) (te := (tCB (_ /- call_int1 -/) (tCons (tOp (rIxT K) (tOp (rIxL K) (tVar 2) (tVar 1)) (tC (.int 0))) tNil))) rfl nd (pi_list (pe_call G_rows_of_orders (hr.mono (by decide)) (by rfl) T.g_rows_of_orders T.F_rows_of_orders.kp T.b_rows_of_orders .nil pass0 (pa_cons (pv 0) pa_nil))) (blkOk_by (N := ["web", "house", "rows"]) (sc := defScope s_chance_in) (by decide +kernel)) (fun _ _ _ _ _ => (pg_name (i := 2) nd rfl (.inl rfl))) (fun _ _ _ _ _ => pts_nil) (fun _ _ _ _ _ => (pe_callTy call_int1 (by rfl) T.n_int (by decide +kernel) (pa_cons (pe_ix ix_tup (pe_ix ix_list (pv 2) (pv 1) (fun _ _ => rfl)) pe_int (fun _ _ => rfl)) pa_nil)))) pa_nil))))), ?_⟩
    walk_at "rd"
    refine r_callS ?_
    walk_at "rd"
    refine r_callX S (many, ties, h) ⟨v, rfl, hv, W⟩ ?_ (fun c d F1 H1 S e1 r => k2 c d _ _ S r)
    rintro v2 N F1 H1 S e1 ⟨rfl, rfl, i1, i2⟩
    have m6 : many ≤ 6 := hm ⟨i1, i2⟩
    have h0 : 0 ≤ h := i1
    have h1 : h < many := i2
    walk_at "rd"
    refine r_callF S (many, ties) ⟨v, rfl, Dp.ex e1 _ _ hv, W, m6⟩ ?_
    rintro v2 N F2 H2 S e2 ⟨q, xs, L, rfl, rfl, d2, pl⟩
    have nl := lawI_num (n := many.toNat) (by omega)
    have pln := pl.length_eq
    obtain ⟨F3, S, e3, c3⟩ := S.frz 0 rfl
    refine ⟨q, rfl, ⟨xs, by walk_at "hl"⟩, ?_⟩
    refine s_lcV (srcD (as := L) (SqL.of c3) (DpAll.ex e3 _ _ d2)) (fun _ => true) (fun ns => .int (chF h (rowsOf many ties ns))) S (by omega) (fun m hm => by cases hm) ?_ ?_
    · rintro i ns x acc D F4 H4 t S e4 hx
      obtain ⟨ra, rxs, rfl, s1, s2⟩ := rowsD_at hx
      obtain ⟨g1, g2⟩ := rows_get s2
      rw [rowsOf_len] at g1
      have er := rwAt_get (rs := rowsOf many ties ns) (h := h) (by rw [rowsOf_len]; omega)
      obtain ⟨tt, et, st⟩ := g2 _ _ er
      have ax : atI rxs h = some (.ref tt) := atI_of h0 et
      walk_at "rd"
      refine ⟨rfl, ?_⟩
      walk_at "rd"
      refine .inr ⟨_, rfl, ?_⟩
      exact t.put S e4 rfl rfl
    · intro D F4 H4 S e4
      rw [List.filter_eq_self.mpr (fun _ _ => rfl), show (L.map fun ns => V.int (chF h (rowsOf many ties ns))) = (L.map fun ns => chF h (rowsOf many ties ns)).map V.int by rw [List.map_map]; rfl] at S
      obtain ⟨F5, S, e5, c5⟩ := S.frz 0 rfl
      walk_at "rd"
      refine r_callF S (L.map fun ns => chF h (rowsOf many ties ns)) ⟨D, rfl, SqL.of c5, by rw [List.length_map]; omega, by rw [List.length_map]; omega⟩ ?_
      rintro v2 N F6 H6 S e6 ⟨rfl, d6⟩
      rw [mean_same pl] at d6
      exact k _ [] _ _ S ⟨⟨h0, h1⟩, rfl, d6⟩

def B_mf (K : PySem.W.Frag) (f : (Int × List (Int × Int)) → List Row → Int) : (Int × List (Int × Int)) → V → List (Addr × Cel) → Hp → Prop := fun | (many, ties), v, N, F => N = [] ∧ Dp K F v (tieD (meanF many ties (f (many, ties))))
theorem ok_mean_size (T : Env K mg) : FnOk P w K mg base CX0 5 T.a_mean_size T.fd_mean_size ["web"] (SpF (A_web6 K) (B_mf K fun _ => szF)) := by
  have nd := sc_mean_size.nd
  have G_mean_of : FnOk P w K mg base CX0 2 T.a_mean_of T.fd_mean_of ["numbers"] (SpF (A_mean K) (B_mean K)) := ok_mean_of T
  have G_rows_of_orders : FnOk P w K mg base CX0 4 T.a_rows_of_orders T.fd_rows_of_orders ["web"] (SpF (A_web6 K) (B_roo K)) := ok_rows_of_orders T
  refine T.F_mean_size.ok sc_mean_size (fun vs H Q E h => ?_) (fun cdv A outer s H vs Q E hr h => ?_)
  · obtain ⟨⟨_, _⟩, F, _, ⟨v, rfl, _⟩, _⟩ := h
    rfl
  · obtain ⟨⟨many, ties⟩, F, fr, ⟨v, rfl, hv, W, m6⟩, k⟩ := h
    have m1 := W.lo
    have S := Sep.start0 fr
    refine ⟨_, (pss_one (ps_ret (pe_call G_mean_of (hr.mono (by decide)) (by rfl) T.g_mean_of T.F_mean_of.kp T.b_mean_of .nil pass0 (pa_cons (pe_lc (own := [("rows", 1)]) (g := gName 1) (tt := tYes) (te := (tCB (Evl.rLenS K) (tCons (tLc (iList K (tVar 1)) (gName 2) (tB (tOp (rIxT K) (tVar 2) (tC (.int 0)))) (tVar 2) [2]) tNil))) rfl nd (pi_list (pe_call G_rows_of_orders (hr.mono (by decide)) (by rfl) T.g_rows_of_orders T.F_rows_of_orders.kp T.b_rows_of_orders .nil pass0 (pa_cons (pv 0) pa_nil))) (blkOk_by (N := ["web", "rows", "row"]) (sc := defScope s_mean_size) (by decide +kernel)) (fun _ _ _ _ _ => (pg_name (i := 1) nd rfl (.inl rfl))) (fun _ _ _ _ _ => pts_nil) (fun _ _ _ _ _ => (pe_callB (id := "len") call_len_seq (by rfl) T.n_len PySem.boot_len (pa_cons (pe_lc (own := [("row", 2)]) (g := gName 2) (tt := (tB (tOp (rIxT K) (tVar 2) (tC (.int 0))))) (te := (tVar 2)) rfl nd (pi_list (pv 1)) (blkOk_by (N := ["web", "rows", "row"]) (sc := { kind := .function, names := [(Str.ofString ".0", .local), (Str.ofString "rows", .local), (Str.ofString "len", .globalImplicit)], isGenerator := false, isCoroutine := false, more := [] }) (by decide +kernel)) (fun _ _ _ _ _ => (pg_name (i := 2) nd rfl (.inl rfl))) (fun _ _ _ _ _ => pts_one (pt_val (pe_ix ix_tup (pv 2) pe_int (fun _ _ => rfl)))) (fun _ _ _ _ _ => (pv 2))) pa_nil)))) pa_nil)))), ?_⟩
    walk_at "rd"
    refine r_callF S (many, ties) ⟨v, rfl, hv, W, m6⟩ ?_
    rintro v2 N F2 H2 S e2 ⟨q, xs, L, rfl, rfl, d2, pl⟩
    have nl := lawI_num (n := many.toNat) (by omega)
    have pln := pl.length_eq
    obtain ⟨F3, S, e3, c3⟩ := S.frz 0 rfl
    refine ⟨q, rfl, ⟨xs, by walk_at "hl"⟩, ?_⟩
    refine s_lcV (srcD (as := L) (SqL.of c3) (DpAll.ex e3 _ _ d2)) (fun _ => true) (fun ns => .int (szF (rowsOf many ties ns))) S (by omega) (fun m hm => by cases hm) ?_ ?_
    · rintro i ns x acc D F4 H4 t S e4 hx
      obtain ⟨ra, rxs, rfl, s1, s2⟩ := rowsD_at hx
      walk_at "rd"
      refine ⟨rfl, ?_⟩
      walk_at "rd"
      refine ⟨ra, rfl, ⟨rxs, by walk_at "hl"⟩, ?_⟩
      refine s_lcD (K := K) (srcD (as := rowsOf many ties ns) s1 s2) (fun r => r.1) rowD S (by rw [rowsOf_len]; omega) (fun m hm => by cases hm) ?_ ?_
      · rintro j r y acc2 D2 F5 H5 t2 S e5 hy
        obtain ⟨tt, rfl, st⟩ := rowD_at hy
        walk_at "rd"
        refine ⟨rfl, ?_⟩
        walk_at "rd"
        refine iteB (fun c => ?_) (fun c => ?_)
        · walk_at "rd"
          exact t2.put S e5 (Evl.Ex.refl _) c hy
        · exact t2.skip S e5 (Evl.Ex.refl _) c
      · intro D2 acc2 F5 H5 S e5 d5
        have l5 := (dpAll_get d5).1
        rw [List.length_map] at l5
        walk_at "rd"
        exact t.put (S.drop 0) (by walk_at "ex") rfl (by rw [l5]; rfl)
    · intro D F4 H4 S e4
      rw [List.filter_eq_self.mpr (fun _ _ => rfl), show (L.map fun ns => V.int (szF (rowsOf many ties ns))) = (L.map fun ns => szF (rowsOf many ties ns)).map V.int by rw [List.map_map]; rfl] at S
      obtain ⟨F5, S, e5, c5⟩ := S.frz 0 rfl
      walk_at "rd"
      refine r_callF S (L.map fun ns => szF (rowsOf many ties ns)) ⟨D, rfl, SqL.of c5, by rw [List.length_map]; omega, by rw [List.length_map]; omega⟩ ?_
      rintro v2 N F6 H6 S e6 ⟨rfl, d6⟩
      rw [mean_same pl] at d6
      exact k _ [] _ _ S ⟨rfl, d6⟩

theorem maxDf_ge {d : Int} {ns : List Int} {x : Int} (h : x ∈ ns) : x ≤ maxDf d ns := by
  cases ns with
  | nil => cases h
  | cons y r => exact (maxL_spec y r).2 x h
theorem maxDf_of {d m : Int} {ns : List Int} (h1 : m ∈ ns) (h2 : ∀ y ∈ ns, y ≤ m) : m = maxDf d ns := by
  cases ns with
  | nil => cases h1
  | cons y r => exact maxL_of h1 h2
def latF : List Row → Int := fun rs => maxDf 0 (rs.map fun r => r.2)
def goneF (ties : List (Int × Int)) : List Row → Int := fun rs => ((ties.filter fun t => decide ((rwAt rs t.1).2 = 1) || decide ((rwAt rs t.2).2 = 1)).length : Int)

theorem ok_mean_latest (T : Env K mg) : FnOk P w K mg base CX0 5 T.a_mean_latest T.fd_mean_latest ["web"] (SpF (A_web6 K) (B_mf K fun _ => latF)) := by
  have nd := sc_mean_latest.nd
  have G_mean_of : FnOk P w K mg base CX0 2 T.a_mean_of T.fd_mean_of ["numbers"] (SpF (A_mean K) (B_mean K)) := ok_mean_of T
  have G_latest_of : FnOk P w K mg base CX0 1 T.a_latest_of T.fd_latest_of ["rows"] (SpF (A_rows1 K) B_latestof) := ok_latest_of T
  have G_rows_of_orders : FnOk P w K mg base CX0 4 T.a_rows_of_orders T.fd_rows_of_orders ["web"] (SpF (A_web6 K) (B_roo K)) := ok_rows_of_orders T
  refine T.F_mean_latest.ok sc_mean_latest (fun vs H Q E h => ?_) (fun cdv A outer s H vs Q E hr h => ?_)
  · obtain ⟨⟨_, _⟩, F, _, ⟨v, rfl, _⟩, _⟩ := h
    rfl
  · obtain ⟨⟨many, ties⟩, F, fr, ⟨v, rfl, hv, W, m6⟩, k⟩ := h
    have m1 := W.lo
    have S := Sep.start0 fr
    refine ⟨_, (pss_one (ps_ret (pe_call G_mean_of (hr.mono (by decide)) (by rfl) T.g_mean_of T.F_mean_of.kp T.b_mean_of .nil pass0 (pa_cons (pe_lc (own := [("rows", 1)]) (g := gName 1) (tt := tYes) (te := (tCall (SpF (A_rows1 K) B_latestof) [] E0 (tCons (tVar 1) tNil))) rfl nd (pi_list (pe_call G_rows_of_orders (hr.mono (by decide)) (by rfl) T.g_rows_of_orders T.F_rows_of_orders.kp T.b_rows_of_orders .nil pass0 (pa_cons (pv 0) pa_nil))) (blkOk_by (N := ["web", "rows"]) (sc := defScope s_mean_latest) (by decide +kernel)) (fun _ _ _ _ _ => (pg_name (i := 1) nd rfl (.inl rfl))) (fun _ _ _ _ _ => pts_nil) (fun _ _ _ _ _ => (pe_call G_latest_of (hr.mono (by decide)) (by rfl) T.g_latest_of T.F_latest_of.kp T.b_latest_of .nil pass0 (pa_cons (pv 1) pa_nil)))) pa_nil)))), ?_⟩
    walk_at "rd"
    refine r_callF S (many, ties) ⟨v, rfl, hv, W, m6⟩ ?_
    rintro v2 N F2 H2 S e2 ⟨q, xs, L, rfl, rfl, d2, pl⟩
    have nl := lawI_num (n := many.toNat) (by omega)
    have pln := pl.length_eq
    obtain ⟨F3, S, e3, c3⟩ := S.frz 0 rfl
    refine ⟨q, rfl, ⟨xs, by walk_at "hl"⟩, ?_⟩
    refine s_lcV (srcD (as := L) (SqL.of c3) (DpAll.ex e3 _ _ d2)) (fun _ => true) (fun ns => .int (latF (rowsOf many ties ns))) S (by omega) (fun m hm => by cases hm) ?_ ?_
    · rintro i ns x acc D F4 H4 t S e4 hx
      walk_at "rd"
      refine ⟨rfl, ?_⟩
      walk_at "rd"
      refine r_callF S (rowsOf many ties ns) ⟨x, rfl, hx, by rw [rowsOf_len]; omega⟩ ?_
      rintro v2 N F5 H5 S e5 ⟨rfl, rfl⟩
      exact t.put S (by walk_at "ex") rfl rfl
    · intro D F4 H4 S e4
      rw [List.filter_eq_self.mpr (fun _ _ => rfl), show (L.map fun ns => V.int (latF (rowsOf many ties ns))) = (L.map fun ns => latF (rowsOf many ties ns)).map V.int by rw [List.map_map]; rfl] at S
      obtain ⟨F5, S, e5, c5⟩ := S.frz 0 rfl
      walk_at "rd"
      refine r_callF S (L.map fun ns => latF (rowsOf many ties ns)) ⟨D, rfl, SqL.of c5, by rw [List.length_map]; omega, by rw [List.length_map]; omega⟩ ?_
      rintro v2 N F6 H6 S e6 ⟨rfl, d6⟩
      rw [mean_same pl] at d6
      exact k _ [] _ _ S ⟨rfl, d6⟩

def A_gone (K : PySem.W.Frag) : (Int × List (Int × Int) × List Row) → List V → Hp → Prop := fun | (many, ties, rs), vs, F => ∃ v u, vs = [v, u] ∧ Dp K F v (webD many ties) ∧ WebOk many ties ∧ Dp K F u (rowsD rs) ∧ rs.length = many.toNat
def B_gone : (Int × List (Int × Int) × List Row) → V → List (Addr × Cel) → Hp → Prop := fun | (many, ties, rs), v, N, F => N = [] ∧ v = .int (goneF ties rs)
theorem ok_gone_first (T : Env K mg) : FnOk P w K mg base CX0 1 T.a_gone_first T.fd_gone_first ["web", "rows"] (SpF (A_gone K) B_gone) := by
  have nd := sc_gone_first.nd
  refine T.F_gone_first.ok sc_gone_first (fun vs H Q E h => ?_) (fun cdv A outer s H vs Q E hr h => ?_)
  · obtain ⟨⟨_, _, _⟩, F, _, ⟨v, u, rfl, _⟩, _⟩ := h
    rfl
  · obtain ⟨⟨many, ties, rs⟩, F, fr, ⟨v, u, rfl, hv, W, hu, rl⟩, k⟩ := h
    have w2 := W.hi
    obtain ⟨wa, wb, ws, rfl, z1, z2, z3⟩ := webD_at hv
    obtain ⟨ra, rxs, rfl, s1, s2⟩ := rowsD_at hu
    have S := Sep.start0 fr
    refine ⟨_, (pss_cons (ps_set (i := 2) nd rfl (.inr rfl) (pe_lc (own := [("_", 3), ("number", 4)]) (g := (gTup K 2 (gCons (gName 3) (gCons (gName 4) gNil)))) (tt := tYes) (te := (tOp rEq (tVar 4) (tC (.int 1)))) rfl nd (pi_list (pv 1)) (blkOk_by (N := ["web", "rows", "first", "_", "number", "one", "other"]) (sc := defScope s_gone_first) (by decide +kernel)) (fun _ _ _ _ _ => (pg_tup rfl (pgs_cons (pg_name (i := 3) nd rfl (.inl rfl)) (pgs_cons (pg_name (i := 4) nd rfl (.inl rfl)) pgs_nil)))) (fun _ _ _ _ _ => pts_nil) (fun _ _ _ _ _ => (pe_cmpR op_eq (pv 4) pe_int (nomark _)))))
      (pss_one (ps_ret (pe_callB (id := "len") call_len_seq (by rfl) T.n_len PySem.boot_len (pa_cons (pe_lc (own := [("one", 5), ("other", 6)]) (g := (gTup K 2 (gCons (gName 5) (gCons (gName 6) gNil)))) (tt := (tOr (tB (tOp (rIxL K) (tVar 2) (tVar 5))) (tB (tOp (rIxL K) (tVar 2) (tVar 6))))) (te := (tVar 5)) rfl nd (pi_tup (pe_ix ix_tup (pv 0) pe_int (fun _ _ => rfl))) (blkOk_by (N := ["web", "rows", "first", "_", "number", "one", "other"]) (sc := defScope s_gone_first) (by decide +kernel)) (fun _ _ _ _ _ => (pg_tup rfl (pgs_cons (pg_name (i := 5) nd rfl (.inl rfl)) (pgs_cons (pg_name (i := 6) nd rfl (.inl rfl)) pgs_nil)))) (fun _ _ _ _ _ => pts_one (PW.pt (pw_or (pt_val (pe_ix ix_list (pv 2) (pv 5) (fun _ _ => rfl))) (pw_or1 (pt_val (pe_ix ix_list (pv 2) (pv 6) (fun _ _ => rfl))))))) (fun _ _ _ _ _ => (pv 5))) pa_nil))))), ?_⟩
    walk_at "rd"
    refine ⟨ra, rfl, ⟨_, by walk_at "hl"⟩, ?_⟩
    refine s_lcV (srcD (as := rs) (da := rowD) s1 s2) (fun _ => true) (fun r => .bl (decide (r.2 = 1))) S (by omega) (fun m hm => by cases hm) ?_ ?_
    · rintro i r x acc D F1 H1 t S e1 hx
      obtain ⟨q, rfl, st⟩ := rowD_at hx
      walk_at "rd"
      refine ⟨rfl, ?_⟩
      walk_at "rd"
      exact t.put S e1 rfl rfl
    · intro D F1 H1 S e1
      rw [List.filter_eq_self.mpr (fun _ _ => rfl)] at S
      obtain ⟨F2, S, e2, c2⟩ := S.frz 0 rfl
      walk_at "rd"
      refine ⟨wb, rfl, ⟨_, by walk_at "hl"⟩, ?_⟩
      refine s_lcV (srcDT (as := ties) (da := tieD) (Evl.ex_t (e1.trans e2) z2) (DpAll.ex (e1.trans e2) _ _ z3)) (fun t => decide ((rwAt rs t.1).2 = 1) || decide ((rwAt rs t.2).2 = 1)) (fun t => .int t.1) S (by have := ties_len W; omega) (fun m hm => by cases hm) ?_ ?_
      · rintro i tie x acc D2 F3 H3 t S e3 hx
        obtain ⟨ta, rfl, st⟩ := tieD_at hx
        have ht := W.ok tie (List.mem_of_getElem? t.at')
        have ax : ∀ h : Int, 0 ≤ h → h < many → atI (rs.map fun r => V.bl (decide (r.2 = 1))) h = some (.bl (decide ((rwAt rs h).2 = 1))) := fun h h0 h1 => atI_of h0 (by rw [List.getElem?_map, rwAt_get (by omega)]; rfl)
        have a1 := ax tie.1 (by omega) (by omega)
        have a2 := ax tie.2 (by omega) (by omega)
        walk_at "rd"
        refine ⟨rfl, ?_⟩
        walk_at "rd"
        cases b1 : decide ((rwAt rs tie.1).2 = 1) with
        | true =>
          walk_at "rd"
          exact t.put S e3 (by simp only [b1]; rfl) rfl
        | false =>
          walk_at "rd"
          cases b2 : decide ((rwAt rs tie.2).2 = 1) with
          | true =>
            walk_at "rd"
            exact t.put S e3 (by simp only [b2]; simp) rfl
          | false =>
            walk_at "rd"
            exact t.skip S e3 (by simp only [b1, b2]; rfl)
      · intro D2 F3 H3 S e3
        walk_at "rd"
        rw [List.length_map]
        exact k _ [] _ _ (S.drop 0) ⟨rfl, rfl⟩

theorem ok_mean_gone (T : Env K mg) : FnOk P w K mg base CX0 5 T.a_mean_gone T.fd_mean_gone ["web"] (SpF (A_web6 K) (B_mf K fun x => goneF x.2)) := by
  have nd := sc_mean_gone.nd
  have G_mean_of : FnOk P w K mg base CX0 2 T.a_mean_of T.fd_mean_of ["numbers"] (SpF (A_mean K) (B_mean K)) := ok_mean_of T
  have G_gone_first : FnOk P w K mg base CX0 1 T.a_gone_first T.fd_gone_first ["web", "rows"] (SpF (A_gone K) B_gone) := ok_gone_first T
  have G_rows_of_orders : FnOk P w K mg base CX0 4 T.a_rows_of_orders T.fd_rows_of_orders ["web"] (SpF (A_web6 K) (B_roo K)) := ok_rows_of_orders T
  refine T.F_mean_gone.ok sc_mean_gone (fun vs H Q E h => ?_) (fun cdv A outer s H vs Q E hr h => ?_)
  · obtain ⟨⟨_, _⟩, F, _, ⟨v, rfl, _⟩, _⟩ := h
    rfl
  · obtain ⟨⟨many, ties⟩, F, fr, ⟨v, rfl, hv, W, m6⟩, k⟩ := h
    have m1 := W.lo
    have S := Sep.start0 fr
    refine ⟨_, (pss_one (ps_ret (pe_call G_mean_of (hr.mono (by decide)) (by rfl) T.g_mean_of T.F_mean_of.kp T.b_mean_of .nil pass0 (pa_cons (pe_lc (own := [("rows", 1)]) (g := gName 1) (tt := tYes) (te := (tCall (SpF (A_gone K) B_gone) [] E0 (tCons (tVar 0) (tCons (tVar 1) tNil)))) rfl nd (pi_list (pe_call G_rows_of_orders (hr.mono (by decide)) (by rfl) T.g_rows_of_orders T.F_rows_of_orders.kp T.b_rows_of_orders .nil pass0 (pa_cons (pv 0) pa_nil))) (blkOk_by (N := ["web", "rows"]) (sc := defScope s_mean_gone) (by decide +kernel)) (fun _ _ _ _ _ => (pg_name (i := 1) nd rfl (.inl rfl))) (fun _ _ _ _ _ => pts_nil) (fun _ _ _ _ _ => (pe_call G_gone_first (hr.mono (by decide)) (by rfl) T.g_gone_first T.F_gone_first.kp T.b_gone_first .nil pass0 (pa_cons (pv 0) (pa_cons (pv 1) pa_nil))))) pa_nil)))), ?_⟩
    walk_at "rd"
    refine r_callF S (many, ties) ⟨v, rfl, hv, W, m6⟩ ?_
    rintro v2 N F2 H2 S e2 ⟨q, xs, L, rfl, rfl, d2, pl⟩
    have nl := lawI_num (n := many.toNat) (by omega)
    have pln := pl.length_eq
    obtain ⟨F3, S, e3, c3⟩ := S.frz 0 rfl
    refine ⟨q, rfl, ⟨xs, by walk_at "hl"⟩, ?_⟩
    refine s_lcV (srcD (as := L) (SqL.of c3) (DpAll.ex e3 _ _ d2)) (fun _ => true) (fun ns => .int (goneF ties (rowsOf many ties ns))) S (by omega) (fun m hm => by cases hm) ?_ ?_
    · rintro i ns x acc D F4 H4 t S e4 hx
      walk_at "rd"
      refine ⟨rfl, ?_⟩
      walk_at "rd"
      refine r_callF S (many, ties, rowsOf many ties ns) ⟨v, x, rfl, Dp.ex (e2.trans (e3.trans e4)) _ _ hv, W, hx, rowsOf_len⟩ ?_
      rintro v2 N F5 H5 S e5 ⟨rfl, rfl⟩
      exact t.put S (by walk_at "ex") rfl rfl
    · intro D F4 H4 S e4
      rw [List.filter_eq_self.mpr (fun _ _ => rfl), show (L.map fun ns => V.int (goneF ties (rowsOf many ties ns))) = (L.map fun ns => goneF ties (rowsOf many ties ns)).map V.int by rw [List.map_map]; rfl] at S
      obtain ⟨F5, S, e5, c5⟩ := S.frz 0 rfl
      walk_at "rd"
      refine r_callF S (L.map fun ns => goneF ties (rowsOf many ties ns)) ⟨D, rfl, SqL.of c5, by rw [List.length_map]; omega, by rw [List.length_map]; omega⟩ ?_
      rintro v2 N F6 H6 S e6 ⟨rfl, d6⟩
      rw [mean_same pl] at d6
      exact k _ [] _ _ S ⟨rfl, d6⟩

def A_nal (K : PySem.W.Frag) : (Int × List Nat) → List V → Hp → Prop := fun | (many, o), vs, F => ∃ u, vs = [.ref u] ∧ SqL K F u ((natI o).map V.int) ∧ o.Perm (List.range many.toNat) ∧ 1 ≤ many ∧ many ≤ 6
def B_nal : (Int × List Nat) → V → List (Addr × Cel) → Hp → Prop := fun | (many, o), v, N, F => ∃ q, v = .ref q ∧ N = [(q, .is (.lst ((ordN o).map V.int)))]
def stN (many : Int) (o : List Nat) (i : Nat) : List Int := (rgI many).map fun h => if decide (h ∈ (natI o).take i) = true then nmAt (ordN o) h else 0
theorem stN_all {many : Int} {o : List Nat} (hp : o.Perm (List.range many.toNat)) : stN many o (natI o).length = ordN o := by
  obtain ⟨a1, a2, a3⟩ := ord_ok hp
  refine List.ext_getElem? fun i => ?_
  unfold stN
  rw [List.take_length, List.getElem?_map]
  by_cases hi : i < many.toNat
  · rw [rgI_get (show ((i : Nat) : Int) < many by omega)]
    show some (if decide ((i : Int) ∈ natI o) = true then nmAt (ordN o) (i : Int) else 0) = _
    rw [if_pos (decide_eq_true (a1.mem_iff.mpr (rgI_mem.mpr ⟨by omega, by omega⟩)))]
    unfold nmAt
    rw [Int.toNat_natCast, List.getD_eq_getElem?_getD, List.getElem?_eq_getElem (by rw [a2.len]; exact hi)]
    rfl
  · rw [List.getElem?_eq_none (by rw [rgI_len]; omega), List.getElem?_eq_none (by rw [a2.len]; omega)]
    rfl
theorem stN_set {many : Int} {o : List Nat} (hp : o.Perm (List.range many.toNat)) {i : Nat} {h : Int} (ei : (natI o)[i]? = some h) : (stN many o i).set h.toNat (i : Int) = stN many o (i + 1) := by
  obtain ⟨a1, a2, a3⟩ := ord_ok hp
  have hh := rgI_mem.mp (a1.mem_iff.mp (List.mem_of_getElem? ei))
  have hl : o.length = many.toNat := by rw [hp.length_eq, List.length_range]
  have hn : o.Nodup := hp.nodup_iff.mpr List.nodup_range
  have hi := (List.getElem?_eq_some_iff.mp ei).1
  have nm : nmAt (ordN o) h = (i : Int) := by
    unfold natI at ei hi
    rw [List.length_map] at hi
    rw [List.getElem?_map, List.getElem?_eq_getElem hi] at ei
    cases ei
    exact nm_ord hn hi fun x m => by rw [hl]; exact List.mem_range.mp (hp.mem_iff.mp m)
  refine List.ext_getElem? fun j => ?_
  unfold stN
  by_cases hj : j < many.toNat
  · rw [List.getElem?_map, rgI_get (show ((j : Nat) : Int) < many by omega)]
    by_cases e : j = h.toNat
    · subst e
      rw [List.getElem?_set_self (by rw [List.length_map, rgI_len]; exact hj), show ((h.toNat : Nat) : Int) = h by omega]
      show _ = some (if decide (h ∈ (natI o).take (i + 1)) = true then nmAt (ordN o) h else 0)
      rw [if_pos (decide_eq_true (by rw [take_snoc ei]; simp)), nm]
    · rw [List.getElem?_set_ne (fun z => e z.symm), List.getElem?_map, rgI_get (show ((j : Nat) : Int) < many by omega)]
      show some (if decide ((j : Int) ∈ (natI o).take i) = true then _ else 0) = some (if decide ((j : Int) ∈ (natI o).take (i + 1)) = true then _ else 0)
      have : decide ((j : Int) ∈ (natI o).take (i + 1)) = decide ((j : Int) ∈ (natI o).take i) := by
        rw [decide_eq_decide, take_snoc ei, List.mem_append, List.mem_singleton]
        exact ⟨fun q => q.resolve_right (by omega), .inl⟩
      rw [this]
  · rw [List.getElem?_eq_none (by rw [List.length_set, List.length_map, rgI_len]; omega), List.getElem?_eq_none (by rw [List.length_map, rgI_len]; omega)]
theorem ok_names_along (T : Env K mg) : FnOk P w K mg base CX0 1 T.a_names_along T.fd_names_along ["order"] (SpF (A_nal K) B_nal) := by
  have nd := sc_names_along.nd
  refine T.F_names_along.ok sc_names_along (fun vs H Q E h => ?_) (fun cdv A outer s H vs Q E hr h => ?_)
  · obtain ⟨⟨_, _⟩, F, _, ⟨u, rfl, _⟩, _⟩ := h
    rfl
  · obtain ⟨⟨many, o⟩, F, fr, ⟨u, rfl, hu, hp, m1, m6⟩, k⟩ := h
    obtain ⟨a1, a2, a3⟩ := ord_ok hp
    have hl : (natI o).length = many.toNat := by rw [a1.length_eq, rgI_len]
    have S := Sep.start0 fr
    refine ⟨_, (pss_cons (ps_set (i := 1) nd rfl (.inl rfl) (pe_op op_rep (pe_lst (pa_cons pe_int pa_nil)) (pe_callB (id := "len") call_len_seq (by rfl) T.n_len PySem.boot_len (pa_cons (pv 0) pa_nil))))
      (pss_cons (ps_for PassesOwn.never rfl (pi_enum (by rfl) T.n_enumerate (pa_cons (pv 0) pa_nil)) (pg_tup rfl (pgs_cons (pg_name (i := 2) nd rfl (.inl rfl)) (pgs_cons (pg_name (i := 3) nd rfl (.inl rfl)) pgs_nil))) (pss_one (ps_asg (pv 2) (pg_sub (pv 1) (pv 3) set_list))))
      (pss_one (ps_ret (pv 1))))), ?_⟩
    walk_at "rd"
    refine ⟨by show 1 ≤ sizeLine; decide, s_new S fun q1 F1 H1 S e1 c1 => ?_⟩
    walk_at "rd"
    rw [List.length_map, hl]
    refine ⟨q1, (many.toNat : Int), _, rfl, rfl, by walk_at "hc", by omega, by omega, by rw [sizeLine_eq]; simp; omega, ?_⟩
    have er : (List.replicate ((many.toNat : Int)).toNat [V.int 0]).flatten = (stN many o 0).map V.int := by
      rw [Int.toNat_natCast, List.flatten_replicate_singleton]
      unfold stN
      rw [List.map_map, show (V.int ∘ fun h : Int => if decide (h ∈ (natI o).take 0) = true then nmAt (ordN o) h else 0) = fun _ => V.int 0 by funext h; simp, List.map_const', rgI_len]
    rw [er]
    intro R hR
    have S := S.newM hR (.lst ((stN many o 0).map V.int))
    generalize upd H1 R (.lst ((stN many o 0).map V.int)) = H2 at *
    walk_at "rd"
    refine ⟨u, _, rfl, by walk_at "hl", ?_⟩
    refine s_forE (fun i σ' F' M' => ∃ (x2 x3 : Option V), σ' = [some (.ref u), some (.ref R), x2, x3] ∧ M' = [(R, .is (.lst ((stN many o i).map V.int)))]) S (Evl.ex_l e1 hu) ⟨none, none, rfl, rfl⟩ ?_ ?_
    · rintro i x t σ' F4 F5 H5 M' ei S e4 e5 ct ⟨x2, x3, rfl, rfl⟩
      rw [List.getElem?_map] at ei
      cases e : (natI o)[i]? with
      | none => rw [e] at ei; cases ei
      | some h =>
        rw [e] at ei
        cases ei
        have hh := rgI_mem.mp (a1.mem_iff.mp (List.mem_of_getElem? e))
        have sl : (stN many o i).length = many.toNat := by unfold stN; rw [List.length_map, rgI_len]
        walk_at "rd"
        refine s_setL S 0 rfl (ixN_of hh.1 (by rw [List.length_map]; omega)) fun H6 S => ?_
        refine ⟨F5, _, S, e4.trans e5, _, _, rfl, ?_⟩
        show _ = [(R, Cel.is (.lst ((stN many o (i + 1)).map V.int)))]
        rw [← stN_set hp e, List.map_set]
        rfl
    · rintro σ' F4 H4 M' S e4 ⟨x2, x3, rfl, rfl⟩
      rw [List.length_map, stN_all hp] at S
      walk_at "rd"
      exact k _ [(R, _)] _ _ S ⟨R, rfl, rfl⟩
def B_ml : (Int × List (Int × Int)) → V → List (Addr × Cel) → Hp → Prop := fun | (many, ties), v, N, F => ∃ t q m ns, v = .ref t ∧ F t = some (.tup [.int m, .ref q]) ∧ N = [(q, .is (.lst (ns.map V.int)))] ∧ ns ∈ lawI many.toNat ∧ latF (rowsOf many ties ns) = m ∧ ∀ ns' ∈ lawI many.toNat, latF (rowsOf many ties ns') ≤ m
theorem ok_most_latest (T : Env K mg) : FnOk P w K mg base CX0 4 T.a_most_latest T.fd_most_latest ["web"] (SpF (A_web6 K) B_ml) := by
  have nd := sc_most_latest.nd
  have G_neighbours : FnOk P w K mg base CX0 1 T.a_neighbours T.fd_neighbours ["web"] (SpF (A_web1 K) B_near) := ok_neighbours T
  have G_latest_of : FnOk P w K mg base CX0 1 T.a_latest_of T.fd_latest_of ["rows"] (SpF (A_rows1 K) B_latestof) := ok_latest_of T
  have G_names_along : FnOk P w K mg base CX0 1 T.a_names_along T.fd_names_along ["order"] (SpF (A_nal K) B_nal) := ok_names_along T
  have G_rows_along : FnOk P w K mg base CX0 3 T.a_rows_along T.fd_rows_along ["near", "order"] (SpF (A_along K) B_rws) := ok_rows_along T
  refine T.F_most_latest.ok sc_most_latest (fun vs H Q E h => ?_) (fun cdv A outer s H vs Q E hr h => ?_)
  · obtain ⟨⟨_, _⟩, F, _, ⟨v, rfl, _⟩, _⟩ := h
    rfl
  · obtain ⟨⟨many, ties⟩, F, fr, ⟨v, rfl, hv, W, m6⟩, k⟩ := h
    have m1 := W.lo
    obtain ⟨np, hnp⟩ := orders_all
    obtain ⟨L, hsq, hpm, hlaw⟩ := hnp many m1 m6
    obtain ⟨wa, wb, ws, rfl, z1, z2, z3⟩ := webD_at hv
    have nl := lawI_num (n := many.toNat) (by omega)
    have hll := hlaw.length_eq
    rw [List.length_map] at hll
    have S := Sep.start0 fr
    refine ⟨_, (pss_cons (ps_set (i := 1) nd rfl (.inl rfl) (pe_call G_neighbours (hr.mono (by decide)) (by rfl) T.g_neighbours T.F_neighbours.kp T.b_neighbours .nil pass0 (pa_cons (pv 0) pa_nil)))
      (pss_cons (ps_set (i := 2) nd rfl (.inl rfl) pe_int)
      (pss_cons (ps_set (i := 3) nd rfl (.inl rfl) (pe_lst pa_nil))
      (pss_cons (ps_for PassesOwn.never rfl (pi_perm rfl (by rfl) T.g_permutations (prg_1 (by rfl) T.n_range (pe_ix ix_tup (pv 0) pe_int (fun _ _ => rfl)))) (pg_name (i := 4) nd rfl (.inl rfl)) (pss_cons (ps_set (i := 5) nd rfl (.inl rfl) (pe_call G_latest_of (hr.mono (by decide)) (by rfl) T.g_latest_of T.F_latest_of.kp T.b_latest_of .nil pass0 (pa_cons (pe_call G_rows_along (hr.mono (by decide)) (by rfl) T.g_rows_along T.F_rows_along.kp T.b_rows_along .nil pass0 (pa_cons (pv 1) (pa_cons (pv 4) pa_nil))) pa_nil)))
      (pss_one (ps_if (pt_cmpR op_gt (pv 5) (pv 2) (nomark _)) (pss_cons (ps_set (i := 2) nd rfl (.inl rfl) (pv 5))
      (pss_one (ps_set (i := 3) nd rfl (.inl rfl) (pe_callTy call_listN (by rfl) T.n_list (by decide +kernel) (pa_cons (pv 4) pa_nil))))) pss_nil))))
      (pss_one (ps_ret (pe_tup (pa_cons (pv 2) (pa_cons (pe_call G_names_along (hr.mono (by decide)) (by rfl) T.g_names_along T.F_names_along.kp T.b_names_along .nil pass0 (pa_cons (pv 3) pa_nil)) pa_nil))))))))), ?_⟩
    walk_at "rd"
    refine r_callF S (many, ties) ⟨_, rfl, hv, W⟩ ?_
    rintro v2 N F1 H1 S e1 ⟨rfl, hls⟩
    walk_at "rd"
    refine ⟨Nat.zero_le _, s_new S fun q0 F2 H2 S e2 c2 => ?_⟩
    walk_at "rd"
    refine r_iPerm ?_
    walk_at "rd"
    refine ⟨⟨by omega, by omega, by omega, by omega, by omega⟩, rfl, by omega, np, L, hsq, ?_⟩
    refine s_for (fun i σ' F' M' => ∃ (m : Int) (sl : Addr) (x4 x5 : Option V), σ' = [some (.ref wa), some v2, some (.int m), some (.ref sl), x4, x5] ∧ M' = [] ∧ 0 ≤ m ∧ ((i = 0 ∧ m = 0) ∨ ∃ o ∈ L, F' sl = some (.lst ((natI o).map V.int)) ∧ latF (rowsOf many ties (ordN o)) = m) ∧ ∀ o ∈ L.take i, latF (rowsOf many ties (ordN o)) ≤ m) (srcPm (L := L)) S ⟨0, q0, none, none, rfl, rfl, by omega, .inl ⟨rfl, rfl⟩, fun o ho => by simp at ho⟩ (fun _ _ _ _ _ m hm => by cases hm) ?_ ?_
    · rintro i o x σ' F3 F4 H4 M' ei S e3 e4 ⟨tt, rfl, ct⟩ ⟨m, sl, x4, x5, rfl, rfl, g0, g1, g2⟩
      have ho := List.mem_of_getElem? ei
      obtain ⟨o1, o2, o3⟩ := ord_ok (hpm o ho)
      have e14 := e2.trans (e3.trans e4)
      walk_at "rd"
      refine r_callF S (many, ties, ordN o, natI o) ⟨v2, tt, rfl, hls.ex e14, W, .inr (SqT.of (by unfold natI; rw [List.map_map]; exact ct)), o1, o3⟩ ?_
      rintro x N F5 H5 S e5 ⟨q, xs, rfl, rfl, ov⟩
      obtain ⟨F6, S, e6, c6⟩ := S.frz 0 rfl
      walk_at "rd"
      refine r_callF S (rowsOf many ties (ordN o)) ⟨.ref q, rfl, .lst (SqL.of c6) (ov.keep (ExT.of e6)).rows, by rw [rowsOf_len]; omega⟩ ?_
      rintro x N F7 H7 S e7 ⟨rfl, rfl⟩
      have ee := e3.trans (e4.trans (e5.trans (e6.trans e7)))
      have pos : 1 ≤ latF (rowsOf many ties (ordN o)) := by
        have := row_pos (names := ordN o) W _ 0 (Nat.lt_succ_self _) (by omega) (by omega)
        have hm := maxDf_ge (d := 0) (ns := (rowsOf many ties (ordN o)).map fun r => r.2) (x := (rowOf many ties (ordN o) 0).2) (by
          unfold rowsOf
          rw [List.map_map]
          exact List.mem_map.mpr ⟨0, rgI_mem.mpr ⟨by omega, by omega⟩, rfl⟩)
        unfold latF
        omega
      walk_at "rd"
      refine iteB (fun c => ?_) (fun c => ?_)
      · have c : m < latF (rowsOf many ties (ordN o)) := of_decide_eq_true c
        walk_at "rd"
        have ct7 := (e5.trans (e6.trans e7)) _ _ ct
        refine s_list (xs := o.map fun x : Nat => V.int (x : Int)) (.inr (SqT.of (S.fr _ _ ct7))) (s_new S fun q8 F8 H8 S e8 c8 => ?_)
        refine ⟨F8, _, S, ee.trans e8, _, q8, _, _, rfl, rfl, by show (0 : Int) ≤ latF _; omega, .inr ⟨o, ho, by rw [c8]; unfold natI; rw [List.map_map]; rfl, rfl⟩, fun o' ho' => ?_⟩
        rw [take_snoc ei] at ho'
        rcases List.mem_append.mp ho' with z | z
        · have := g2 o' z
          show _ ≤ latF _
          omega
        · rw [List.mem_singleton.mp z]
          exact Int.le_refl _
      · have c : ¬ m < latF (rowsOf many ties (ordN o)) := of_decide_eq_false c
        refine ⟨F7, _, S, ee, m, sl, _, _, rfl, rfl, g0, ?_, fun o' ho' => ?_⟩
        · rcases g1 with g1 | ⟨o', z1, z2, z3⟩
          · omega
          · exact .inr ⟨o', z1, (e4.trans (e5.trans (e6.trans e7))) _ _ z2, z3⟩
        · rw [take_snoc ei] at ho'
          rcases List.mem_append.mp ho' with z | z
          · exact g2 o' z
          · rw [List.mem_singleton.mp z]
            omega
    · rintro σ' F3 H3 M' S e3 ⟨m, sl, x4, x5, rfl, rfl, g0, g1, g2⟩
      rw [List.take_length] at g2
      obtain ⟨o, ho, so, lo⟩ : ∃ o ∈ L, F3 sl = some (.lst ((natI o).map V.int)) ∧ latF (rowsOf many ties (ordN o)) = m := by
        rcases g1 with g1 | g1
        · omega
        · exact g1
      walk_at "rd"
      refine r_callF S (many, o) ⟨sl, rfl, SqL.of so, hpm o ho, m1, m6⟩ ?_
      rintro x N F4 H4 S e4 ⟨q, rfl, rfl⟩
      walk_at "rd"
      refine ⟨by show 2 ≤ sizeLine; decide, s_new S fun t F5 H5 S e5 c5 => ?_⟩
      refine k _ [(q, _)] _ _ S ⟨t, q, m, ordN o, rfl, c5, rfl, hlaw.mem_iff.mp (List.mem_map_of_mem ho), lo, fun ns' hn => ?_⟩
      obtain ⟨o', ho', rfl⟩ := List.mem_map.mp (hlaw.mem_iff.mpr hn)
      exact g2 o' ho'

end

end
section
/-! ### all webs of up to four houses -/
def subs {α : Type} : List α → List (List α)
  | [] => [[]]
  | x :: r => (subs r).flatMap fun s => [s, x :: s]
theorem mem_subs {α : Type} : ∀ {l m : List α}, l.Sublist m → l ∈ subs m
  | _, _, .slnil => List.mem_singleton.mpr rfl
  | _, _, .cons _ h => List.mem_flatMap.mpr ⟨_, mem_subs h, by simp⟩
  | _, _, .cons₂ _ h => List.mem_flatMap.mpr ⟨_, mem_subs h, by simp⟩
theorem Lx_asym {a b : Int × Int} (h : Lx a b) (g : Lx b a) : False := by unfold Lx at *; omega
theorem sub_sorted : ∀ {m l : List (Int × Int)}, l.Pairwise Lx → m.Pairwise Lx → (∀ x ∈ l, x ∈ m) → l.Sublist m
  | [], l, _, _, h => by
    cases l with
    | nil => exact .slnil
    | cons x r => exact absurd (h x List.mem_cons_self) (by simp)
  | y :: m, [], _, _, _ => List.nil_sublist _
  | y :: m, x :: l, hl, hm, h => by
    obtain ⟨l1, l2⟩ := List.pairwise_cons.mp hl
    obtain ⟨m1, m2⟩ := List.pairwise_cons.mp hm
    by_cases e : x = y
    · subst e
      refine .cons₂ _ (sub_sorted l2 m2 fun z hz => ?_)
      rcases List.mem_cons.mp (h z (List.mem_cons_of_mem _ hz)) with q | q
      · subst q
        exact (Lx_asym (l1 z hz) (l1 z hz)).elim
      · exact q
    · have hx : x ∈ m := (List.mem_cons.mp (h x List.mem_cons_self)).resolve_left e
      refine .cons _ (sub_sorted hl m2 fun z hz => ?_)
      rcases List.mem_cons.mp (h z hz) with q | q
      · subst q
        rcases List.mem_cons.mp hz with q | q
        · exact absurd q.symm e
        · exact (Lx_asym (l1 z q) (m1 x hx)).elim
      · exact q
def prs (n : Int) : List (Int × Int) := (rgI n).flatMap fun i => ((rgI n).filter fun j => decide (i < j)).map fun j => (i, j)
theorem prs_mem {n : Int} {t : Int × Int} (h : 0 ≤ t.1 ∧ t.1 < t.2 ∧ t.2 < n) : t ∈ prs n :=
  List.mem_flatMap.mpr ⟨t.1, rgI_mem.mpr ⟨h.1, by omega⟩, List.mem_map.mpr ⟨t.2, List.mem_filter.mpr ⟨rgI_mem.mpr ⟨by omega, h.2.2⟩, decide_eq_true h.2.1⟩, rfl⟩⟩
instance (a b : Int × Int) : Decidable (Lx a b) := inferInstanceAs (Decidable (_ ∨ _))
theorem one4 {n : Int} (h1 : 1 ≤ n) (h4 : n ≤ 4) : n = 1 ∨ n = 2 ∨ n = 3 ∨ n = 4 := by omega
theorem prs_up {n : Int} (h1 : 1 ≤ n) (h4 : n ≤ 4) : (prs n).Pairwise Lx := by
  rcases one4 h1 h4 with rfl | rfl | rfl | rfl <;> decide +kernel
theorem web_in {many : Int} {ties : List (Int × Int)} (W : WebOk many ties) (h4 : many ≤ 4) : ties ∈ subs (prs many) :=
  mem_subs (sub_sorted W.up (prs_up W.lo h4) fun t ht => prs_mem (W.ok t ht))
def totF (n : Int) (t : List (Int × Int)) (f : List Row → Int) : Int := ((lawI n.toNat).map fun ns => f (rowsOf n t ns)).sum
def mostF (n : Int) (t : List (Int × Int)) : Int := maxDf 0 ((lawI n.toNat).map fun ns => latF (rowsOf n t ns))
abbrev St42 := Int × List Int × Int × Int × Int
def statOf (n : Int) (t : List (Int × Int)) : St42 := (totF n t szF, (rgI n).map fun h => totF n t (chF h), totF n t latF, totF n t (goneF t), mostF n t)
def numF (n : Int) : Int := ((lawI n.toNat).length : Int)
def addL (fs : List (Int × Int)) : Int × Int := fs.foldl (fun a o => lowF (a.1 * o.2 + o.1 * a.2, a.2 * o.2)) (0, 1)
def tpp (p : List Int) (t : Int × Int) : Int × Int := (if nmAt p t.2 < nmAt p t.1 then nmAt p t.2 else nmAt p t.1, if nmAt p t.2 > nmAt p t.1 then nmAt p t.2 else nmAt p t.1)
def tab1 : List (List (Int × Int) × St42) := [([], (1, ([1], (1, (0, 1)))))]
def tab2 : List (List (Int × Int) × St42) := [([], (4, ([2, 2], (2, (0, 1))))), ([(0, 1)], (2, ([1, 1], (2, (2, 1)))))]
def tab3 : List (List (Int × Int) × St42) := [([], (18, ([6, 6, 6], (6, (0, 1))))), ([(0, 1)], (12, ([3, 3, 6], (6, (6, 1))))), ([(0, 2)], (12, ([3, 6, 3], (6, (6, 1))))), ([(0, 1), (0, 2)], (10, ([2, 4, 4], (8, (12, 2))))),
  ([(1, 2)], (12, ([6, 3, 3], (6, (6, 1))))), ([(0, 1), (1, 2)], (10, ([4, 2, 4], (8, (12, 2))))), ([(0, 2), (1, 2)], (10, ([4, 4, 2], (8, (12, 2))))), ([(0, 1), (0, 2), (1, 2)], (6,
  ([2, 2, 2], (6, (18, 1)))))]
def tab4 : List (List (Int × Int) × St42) := [([], (96, ([24, 24, 24, 24], (24, (0, 1))))), ([(0, 1)], (72, ([12, 12, 24, 24], (24, (24, 1))))), ([(0, 2)], (72, ([12, 24, 12, 24], (24, (24, 1))))), ([(0, 1), (0, 2)], (64,
  ([8, 16, 16, 24], (32, (48, 2))))), ([(0, 3)], (72, ([12, 24, 24, 12], (24, (24, 1))))), ([(0, 1), (0, 3)], (64, ([8, 16, 24, 16], (32, (48, 2))))), ([(0, 2), (0, 3)], (64, ([8,
  24, 16, 16], (32, (48, 2))))), ([(0, 1), (0, 2), (0, 3)], (60, ([6, 18, 18, 18], (36, (72, 2))))), ([(1, 2)], (72, ([24, 12, 12, 24], (24, (24, 1))))), ([(0, 1), (1, 2)], (64,
  ([16, 8, 16, 24], (32, (48, 2))))), ([(0, 2), (1, 2)], (64, ([16, 16, 8, 24], (32, (48, 2))))), ([(0, 1), (0, 2), (1, 2)], (48, ([8, 8, 8, 24], (24, (72, 1))))), ([(0, 3), (1, 2)],
  (48, ([12, 12, 12, 12], (24, (48, 1))))), ([(0, 1), (0, 3), (1, 2)], (48, ([9, 9, 15, 15], (32, (70, 2))))), ([(0, 2), (0, 3), (1, 2)], (48, ([9, 15, 9, 15], (32, (70, 2))))),
  ([(0, 1), (0, 2), (0, 3), (1, 2)], (42, ([6, 9, 9, 18], (32, (94, 2))))), ([(1, 3)], (72, ([24, 12, 24, 12], (24, (24, 1))))), ([(0, 1), (1, 3)], (64, ([16, 8, 24, 16], (32, (48,
  2))))), ([(0, 2), (1, 3)], (48, ([12, 12, 12, 12], (24, (48, 1))))), ([(0, 1), (0, 2), (1, 3)], (48, ([9, 9, 15, 15], (32, (70, 2))))), ([(0, 3), (1, 3)], (64, ([16, 16, 24, 8],
  (32, (48, 2))))), ([(0, 1), (0, 3), (1, 3)], (48, ([8, 8, 24, 8], (24, (72, 1))))), ([(0, 2), (0, 3), (1, 3)], (48, ([9, 15, 15, 9], (32, (70, 2))))), ([(0, 1), (0, 2), (0, 3), (1,
  3)], (42, ([6, 9, 18, 9], (32, (94, 2))))), ([(1, 2), (1, 3)], (64, ([24, 8, 16, 16], (32, (48, 2))))), ([(0, 1), (1, 2), (1, 3)], (60, ([18, 6, 18, 18], (36, (72, 2))))), ([(0,
  2), (1, 2), (1, 3)], (48, ([15, 9, 9, 15], (32, (70, 2))))), ([(0, 1), (0, 2), (1, 2), (1, 3)], (42, ([9, 6, 9, 18], (32, (94, 2))))), ([(0, 3), (1, 2), (1, 3)], (48, ([15, 9, 15,
  9], (32, (70, 2))))), ([(0, 1), (0, 3), (1, 2), (1, 3)], (42, ([9, 6, 18, 9], (32, (94, 2))))), ([(0, 2), (0, 3), (1, 2), (1, 3)], (48, ([12, 12, 12, 12], (40, (96, 2))))), ([(0,
  1), (0, 2), (0, 3), (1, 2), (1, 3)], (36, ([6, 6, 12, 12], (32, (120, 2))))), ([(2, 3)], (72, ([24, 24, 12, 12], (24, (24, 1))))), ([(0, 1), (2, 3)], (48, ([12, 12, 12, 12], (24,
  (48, 1))))), ([(0, 2), (2, 3)], (64, ([16, 24, 8, 16], (32, (48, 2))))), ([(0, 1), (0, 2), (2, 3)], (48, ([9, 15, 9, 15], (32, (70, 2))))), ([(0, 3), (2, 3)], (64, ([16, 24, 16,
  8], (32, (48, 2))))), ([(0, 1), (0, 3), (2, 3)], (48, ([9, 15, 15, 9], (32, (70, 2))))), ([(0, 2), (0, 3), (2, 3)], (48, ([8, 24, 8, 8], (24, (72, 1))))), ([(0, 1), (0, 2), (0, 3),
  (2, 3)], (42, ([6, 18, 9, 9], (32, (94, 2))))), ([(1, 2), (2, 3)], (64, ([24, 16, 8, 16], (32, (48, 2))))), ([(0, 1), (1, 2), (2, 3)], (48, ([15, 9, 9, 15], (32, (70, 2))))), ([(0,
  2), (1, 2), (2, 3)], (60, ([18, 18, 6, 18], (36, (72, 2))))), ([(0, 1), (0, 2), (1, 2), (2, 3)], (42, ([9, 9, 6, 18], (32, (94, 2))))), ([(0, 3), (1, 2), (2, 3)], (48, ([15, 15, 9,
  9], (32, (70, 2))))), ([(0, 1), (0, 3), (1, 2), (2, 3)], (48, ([12, 12, 12, 12], (40, (96, 2))))), ([(0, 2), (0, 3), (1, 2), (2, 3)], (42, ([9, 18, 6, 9], (32, (94, 2))))), ([(0,
  1), (0, 2), (0, 3), (1, 2), (2, 3)], (36, ([6, 12, 6, 12], (32, (120, 2))))), ([(1, 3), (2, 3)], (64, ([24, 16, 16, 8], (32, (48, 2))))), ([(0, 1), (1, 3), (2, 3)], (48, ([15, 9,
  15, 9], (32, (70, 2))))), ([(0, 2), (1, 3), (2, 3)], (48, ([15, 15, 9, 9], (32, (70, 2))))), ([(0, 1), (0, 2), (1, 3), (2, 3)], (48, ([12, 12, 12, 12], (40, (96, 2))))), ([(0, 3),
  (1, 3), (2, 3)], (60, ([18, 18, 18, 6], (36, (72, 2))))), ([(0, 1), (0, 3), (1, 3), (2, 3)], (42, ([9, 9, 18, 6], (32, (94, 2))))), ([(0, 2), (0, 3), (1, 3), (2, 3)], (42, ([9, 18,
  9, 6], (32, (94, 2))))), ([(0, 1), (0, 2), (0, 3), (1, 3), (2, 3)], (36, ([6, 12, 12, 6], (32, (120, 2))))), ([(1, 2), (1, 3), (2, 3)], (48, ([24, 8, 8, 8], (24, (72, 1))))), ([(0,
  1), (1, 2), (1, 3), (2, 3)], (42, ([18, 6, 9, 9], (32, (94, 2))))), ([(0, 2), (1, 2), (1, 3), (2, 3)], (42, ([18, 9, 6, 9], (32, (94, 2))))), ([(0, 1), (0, 2), (1, 2), (1, 3), (2,
  3)], (36, ([12, 6, 6, 12], (32, (120, 2))))), ([(0, 3), (1, 2), (1, 3), (2, 3)], (42, ([18, 9, 9, 6], (32, (94, 2))))), ([(0, 1), (0, 3), (1, 2), (1, 3), (2, 3)], (36, ([12, 6, 12,
  6], (32, (120, 2))))), ([(0, 2), (0, 3), (1, 2), (1, 3), (2, 3)], (36, ([12, 12, 6, 6], (32, (120, 2))))), ([(0, 1), (0, 2), (0, 3), (1, 2), (1, 3), (2, 3)], (24, ([6, 6, 6, 6],
  (24, (144, 1)))))]
def tabL (n : Int) : List (List (Int × Int) × St42) := if n = 1 then tab1 else if n = 2 then tab2 else if n = 3 then tab3 else tab4
theorem tab_eq {n : Int} (h1 : 1 ≤ n) (h4 : n ≤ 4) : (subs (prs n)).map (fun t => (t, statOf n t)) = tabL n := by
  rcases one4 h1 h4 with rfl | rfl | rfl | rfl <;> decide +kernel
def turnOk (n : Int) (p : List Int) (e e' : List (Int × Int) × St42) : Bool :=
  decide (e'.2.2.2.1 = e.2.2.2.1) && decide (e'.2.2.2.2.1 = e.2.2.2.2.1) && decide (e'.2.2.2.2.2 = e.2.2.2.2.2) && (rgI n).all fun h => decide (e'.2.2.1.getD (nmAt p h).toNat 0 = e.2.2.1.getD h.toNat 0)
def smI (x : Int) : Bool := decide (0 ≤ x) && decide (x ≤ 1000)
def okE (n : Int) (e : List (Int × Int) × St42) : Bool :=
  (smI e.2.1 && (e.2.2.1.all smI) && smI e.2.2.2.1 && smI e.2.2.2.2.1 && smI e.2.2.2.2.2) && ((rgI n).all fun h => decide (1 * (lowF (e.2.2.1.getD h.toNat 0, numF n)).2 ≤ (lowF (e.2.2.1.getD h.toNat 0, numF n)).1 * (1 + ((nbr e.1 h).length : Int))))
  && decide (addL (e.2.2.1.map fun c => lowF (c, numF n)) = lowF (e.2.1, numF n))
  && decide ((e.1.length : Int) * (lowF (e.2.2.2.2.1, numF n)).2 ≤ (lowF (e.2.2.2.2.1, numF n)).1 * 2)
  && decide ((lowF (e.2.2.2.1, numF n)).1 * 1 ≤ e.2.2.2.2.2 * (lowF (e.2.2.2.1, numF n)).2)
  && decide (1 * (lowF (e.2.2.2.1, numF n)).2 ≤ (lowF (e.2.2.2.1, numF n)).1 * 1)
  && ((lawI n.toNat).all fun p => (tabL n).any fun e' => decide (e'.1.length = e.1.length) && e'.1.isPerm (e.1.map (tpp p)) && turnOk n p e e')
theorem ok_all {n : Int} (h1 : 1 ≤ n) (h4 : n ≤ 4) : (tabL n).all (okE n) = true := by
  rcases one4 h1 h4 with rfl | rfl | rfl | rfl <;> decide +kernel
theorem wide_all {n : Int} (h1 : 1 ≤ n) (h4 : n ≤ 4) : ((tabL n).all fun e => decide (lowF (totF (n + 1) e.1 szF, numF (n + 1)) = addL [lowF (e.2.1, numF n), (1, 1)]) && decide (mostF (n + 1) e.1 = e.2.2.2.2.2)) = true := by
  rcases one4 h1 h4 with rfl | rfl | rfl | rfl <;> decide +kernel
theorem lawP_mem : ∀ (n : Nat) (l : List Nat), l.Perm (List.range n) → l ∈ lawP n
  | 0, l, h => by
    have : l = [] := List.Perm.eq_nil h
    subst this
    exact List.mem_singleton.mpr rfl
  | n + 1, l, h => by
    rw [List.range_succ] at h
    have m : n ∈ l := h.mem_iff.mpr (by simp)
    obtain ⟨a, b, rfl⟩ := List.append_of_mem m
    have h2 : (n :: (a ++ b)).Perm (n :: List.range n) := (List.perm_middle.symm.trans h).trans List.perm_append_comm
    have h3 := lawP_mem n (a ++ b) ((List.perm_cons n).mp h2)
    rw [lawP, List.mem_flatMap]
    refine ⟨_, h3, List.mem_map.mpr ⟨a.length, List.mem_range.mpr (by simp; omega), ?_⟩⟩
    simp
theorem lawI_mem {n : Int} {p : List Int} (h : p.Perm (rgI n)) : p ∈ lawI n.toNat := by
  have h2 := h.map Int.toNat
  have e : (rgI n).map Int.toNat = List.range n.toNat := by
    unfold rgI
    rw [List.map_map]
    conv => rhs; rw [← List.map_id (List.range n.toNat)]
    refine List.map_congr_left fun i _ => ?_
    show (((i : Nat) : Int)).toNat = i
    omega
  rw [e] at h2
  refine List.mem_map.mpr ⟨_, lawP_mem _ _ h2, ?_⟩
  unfold natI
  rw [List.map_map]
  conv => rhs; rw [← List.map_id p]
  refine List.map_congr_left fun x hx => ?_
  have := rgI_mem.mp (h.mem_iff.mp hx)
  show ((x.toNat : Nat) : Int) = x
  omega
structure SmF (f : Int × Int) : Prop where
  a0 : 0 ≤ f.1
  a1 : f.1 ≤ 100000
  b0 : 1 ≤ f.2
  b1 : f.2 ≤ 100000
theorem lowF_sm {f : Int × Int} (h : SmF f) : SmF (lowF f) := by
  have h2 := h.b0
  have ok := lowF_ok h.a0 (by omega)
  have o1 := ok.one
  have o2 := ok.two
  have g : 0 < gOf f := by
    have p : 0 < f.2.natAbs := by omega
    have := Nat.gcd_pos_of_pos_right f.1.natAbs p
    unfold gOf
    omega
  have e1 : (lowF f).1 ≤ f.1 := Int.ediv_le_self _ h.a0
  have e2 : (lowF f).2 ≤ f.2 := Int.ediv_le_self _ (by omega)
  have := h.a1
  have := h.b1
  exact ⟨by omega, by omega, by omega, by omega⟩
structure Web4 (n : Int) (t : List (Int × Int)) : Prop where
  ch : ∀ h, 0 ≤ h → h < n → 1 * (meanF n t (chF h)).2 ≤ (meanF n t (chF h)).1 * (1 + ((nbr t h).length : Int))
  add : addL ((rgI n).map fun h => meanF n t (chF h)) = meanF n t szF
  gone : (t.length : Int) * (meanF n t (goneF t)).2 ≤ (meanF n t (goneF t)).1 * 2
  lat : (meanF n t latF).1 * 1 ≤ mostF n t * (meanF n t latF).2
  lat1 : 1 * (meanF n t latF).2 ≤ (meanF n t latF).1 * 1
  wide : meanF (n + 1) t szF = addL [meanF n t szF, (1, 1)]
  wmost : mostF (n + 1) t = mostF n t
  sch : ∀ h, 0 ≤ h → h < n → SmF (meanF n t (chF h))
  ssz : SmF (meanF n t szF)
  slat : SmF (meanF n t latF)
  sgone : SmF (meanF n t (goneF t))
  smost : 0 ≤ mostF n t ∧ mostF n t ≤ 1000
  turn : ∀ p t', p.Perm (rgI n) → WebOk n t' → t'.Perm (t.map (tpp p)) → meanF n t' latF = meanF n t latF ∧ meanF n t' (goneF t') = meanF n t (goneF t) ∧ mostF n t' = mostF n t ∧ ∀ h, 0 ≤ h → h < n → meanF n t' (chF (nmAt p h)) = meanF n t (chF h)
theorem meanF_eq (n : Int) (t : List (Int × Int)) (f : List Row → Int) : meanF n t f = lowF (totF n t f, numF n) := rfl
theorem ch_get {n h : Int} {t : List (Int × Int)} (h0 : 0 ≤ h) (h1 : h < n) : ((rgI n).map fun h => totF n t (chF h)).getD h.toNat 0 = totF n t (chF h) := by
  rw [List.getD_eq_getElem?_getD, List.getElem?_map, rgI_get (by omega)]
  show totF n t (chF ((h.toNat : Nat) : Int)) = _
  rw [show ((h.toNat : Nat) : Int) = h by omega]
theorem sorted_eq {l m : List (Int × Int)} (hl : l.Pairwise Lx) (hm : m.Pairwise Lx) (p : l.Perm m) : l = m := (sub_sorted hl hm fun x hx => p.mem_iff.mp hx).eq_of_length p.length_eq
theorem most_eq {n m : Int} {t : List (Int × Int)} {ns : List Int} (h1 : ns ∈ lawI n.toNat) (h2 : latF (rowsOf n t ns) = m) (h3 : ∀ ns' ∈ lawI n.toNat, latF (rowsOf n t ns') ≤ m) : m = mostF n t :=
  maxDf_of (List.mem_map.mpr ⟨ns, h1, h2⟩) fun y hy => by
    obtain ⟨z, hz, rfl⟩ := List.mem_map.mp hy
    exact h3 z hz
theorem pw_subs {l m : List (Int × Int)} (h : m.Pairwise Lx) : l ∈ subs m → l.Pairwise Lx := by
  have key : ∀ {m l : List (Int × Int)}, l ∈ subs m → l.Sublist m := by
    intro m
    induction m with
    | nil => intro l h; rw [subs, List.mem_singleton] at h; subst h; exact .slnil
    | cons x r ih =>
      intro l h
      rw [subs, List.mem_flatMap] at h
      obtain ⟨s, hs, hl⟩ := h
      rcases List.mem_cons.mp hl with rfl | hl
      · exact .cons _ (ih hs)
      · rw [List.mem_singleton.mp hl]
        exact .cons₂ _ (ih hs)
  exact fun z => h.sublist (key z)
theorem web4 {n : Int} {t : List (Int × Int)} (W : WebOk n t) (h4 : n ≤ 4) : Web4 n t := by
  have h1 := W.lo
  have eT := tab_eq h1 h4
  have m := List.mem_map_of_mem (f := fun t => (t, statOf n t)) (web_in W h4)
  rw [eT] at m
  have ok := List.all_eq_true.mp (ok_all h1 h4) _ m
  have wd := List.all_eq_true.mp (wide_all h1 h4) _ m
  unfold okE at ok
  simp only [Bool.and_eq_true, decide_eq_true_eq, List.all_eq_true, List.any_eq_true] at ok wd
  obtain ⟨⟨⟨⟨⟨⟨⟨⟨⟨⟨s1, s2⟩, s3⟩, s4⟩, s5⟩, k1⟩, k2⟩, k3⟩, k4⟩, k5⟩, k6⟩ := ok
  have nb := lawI_num (n := n.toNat) (by omega)
  have low : ∀ x : Int, smI x = true → SmF (lowF (x, numF n)) := fun x hx => by
    unfold smI at hx
    rw [Bool.and_eq_true, decide_eq_true_eq, decide_eq_true_eq] at hx
    exact lowF_sm ⟨hx.1, by show x ≤ 100000; omega, by show 1 ≤ numF n; unfold numF; omega, by show numF n ≤ 100000; unfold numF; omega⟩
  have nz := rgI_len n
  refine ⟨fun h a b => ?_, ?_, k3, k4, k5, wd.1, wd.2, fun h a b => ?_, low _ s1, low _ s3, low _ s4, by unfold smI at s5; rw [Bool.and_eq_true, decide_eq_true_eq, decide_eq_true_eq] at s5; exact s5, fun p t' hp W' pt => ?_⟩
  · have := k1 h (rgI_mem.mpr ⟨a, b⟩)
    unfold statOf at this
    simp only [ch_get a b] at this
    exact this
  · have k2 : addL (((rgI n).map fun h => totF n t (chF h)).map fun c => lowF (c, numF n)) = lowF (totF n t szF, numF n) := k2
    rw [List.map_map] at k2
    exact k2
  · refine low _ (s2 _ ?_)
    exact List.mem_map.mpr ⟨h, rgI_mem.mpr ⟨a, b⟩, rfl⟩
  · obtain ⟨e', me, ⟨_, pe⟩, tu⟩ := k6 p (lawI_mem hp)
    have me2 := me
    rw [← eT] at me2
    obtain ⟨t2, ht2, rfl⟩ := List.mem_map.mp me2
    have e2 : t2 = t' := sorted_eq (pw_subs (prs_up h1 h4) ht2) W'.up ((List.isPerm_iff.mp pe).trans pt.symm)
    subst e2
    unfold turnOk at tu
    simp only [Bool.and_eq_true, decide_eq_true_eq, List.all_eq_true] at tu
    obtain ⟨⟨⟨u1, u2⟩, u3⟩, u4⟩ := tu
    refine ⟨by rw [meanF_eq, meanF_eq]; exact congrArg (fun x => lowF (x, numF n)) u1, by rw [meanF_eq, meanF_eq]; exact congrArg (fun x => lowF (x, numF n)) u2, u3, fun h a b => ?_⟩
    have := u4 h (rgI_mem.mpr ⟨a, b⟩)
    unfold statOf at this
    have pl : p.length = n.toNat := by rw [hp.length_eq, nz]
    have pr : nmAt p h ∈ p := by
      unfold nmAt
      rw [List.getD_eq_getElem?_getD, List.getElem?_eq_getElem (by omega)]
      exact List.getElem_mem _
    have pr := rgI_mem.mp (hp.mem_iff.mp pr)
    simp only [ch_get a b, ch_get pr.1 pr.2] at this
    rw [meanF_eq, meanF_eq, this]

end
section
local macro_rules | `(tactic| walk_at "ex") => `(tactic| first | exact Evl.Ex.refl _ | assumption | ((refine' Evl.Ex.trans ?x ?y); (case y => assumption); (case x => walk_at "ex")))
local macro_rules | `(tactic| walk_at "hc") => `(tactic| first
  | assumption
  | ((refine' Sep.rdM ?S 0 ?k); (case S => assumption); (case k => exact rfl)) | ((refine' Sep.rdM ?S 1 ?k); (case S => assumption); (case k => exact rfl)) | ((refine' Sep.rdM ?S 2 ?k); (case S => assumption); (case k => exact rfl)) | ((refine' Sep.rdM ?S 3 ?k); (case S => assumption); (case k => exact rfl)) | ((refine' Sep.rdM ?S 4 ?k); (case S => assumption); (case k => exact rfl))
  | ((refine' Sep.rdC ?S ?e ?h); (case S => assumption); (case h => assumption); (case e => walk_at "ex")))
local macro_rules | `(tactic| walk_at "hl") => `(tactic| first
  | assumption
  | ((refine' SqL.of (Sep.rdM ?S 0 ?k)); (case S => assumption); (case k => exact rfl)) | ((refine' SqL.of (Sep.rdM ?S 1 ?k)); (case S => assumption); (case k => exact rfl)) | ((refine' SqL.of (Sep.rdM ?S 2 ?k)); (case S => assumption); (case k => exact rfl)) | ((refine' SqL.of (Sep.rdM ?S 3 ?k)); (case S => assumption); (case k => exact rfl)) | ((refine' SqL.of (Sep.rdM ?S 4 ?k)); (case S => assumption); (case k => exact rfl))
  | ((refine' Sep.rdL ?S ?e ?h); (case S => assumption); (case h => assumption); (case e => walk_at "ex"))
  | ((refine' Sep.rdT ?S ?e ?h); (case S => assumption); (case h => assumption); (case e => walk_at "ex"))
  | ((refine' SqL.of (Sep.rdC ?S ?e ?h)); (case S => assumption); (case h => assumption); (case e => walk_at "ex"))
  | ((refine' SqT.of (Sep.rdC ?S ?e ?h)); (case S => assumption); (case h => assumption); (case e => walk_at "ex"))
  | ((refine' SqL.of ?h); (case h => assumption)) | ((refine' SqT.of ?h); (case h => assumption))
  | ((refine' Evl.ex_l ?e ?h); (case h => assumption); (case e => walk_at "ex")) | ((refine' Evl.ex_t ?e ?h); (case h => assumption); (case e => walk_at "ex"))
  | ((refine' SqL.of (?e _ _ ?h)); (case h => assumption); (case e => walk_at "ex")) | ((refine' SqT.of (?e _ _ ?h)); (case h => assumption); (case e => walk_at "ex")))
local macro_rules | `(tactic| walk_at "hs") => `(tactic| walk_at "hc")
local macro_rules | `(tactic| walk_at "dp") => `(tactic| first
  | assumption
  | ((refine' Sep.rdD ?S ?e ?h); (case S => assumption); (case h => assumption); (case e => walk_at "ex"))
  | ((refine' Dp.ex ?e _ _ ?h); (case h => assumption); (case e => walk_at "ex"))
  | ((refine' DpAll.ex ?e _ _ ?h); (case h => assumption); (case e => walk_at "ex"))
  | (refine' dp_intsD ?h; (case h => walk_at "hl")))
local macro_rules | `(tactic| walk_at "rd1") => `(tactic| (first
  | (with_reducible refine r_seq ?_)
  | (with_reducible refine r_asg ?_)
  | (with_reducible refine r_asgG ?_)
  | (with_reducible refine r_par ?_)
  | (with_reducible refine r_if ?_)
  | (with_reducible refine r_ret ?_)
  | (with_reducible refine r_drop ?_)
  | (with_reducible refine r_next ?_)
  | ((with_reducible refine' r_var ?hx ?_); (case hx => exact rfl))
  | (with_reducible refine r_c ?_)
  | (with_reducible refine r_op ?_)
  | (with_reducible refine r_un ?_)
  | (with_reducible refine r_I0 ?_)
  | ((with_reducible refine' r_I ?_ ?_); (· first | (show (0 : Int) < _; omega) | exact Or.inr ⟨by omega, by omega⟩ | exact Or.inl ⟨by omega, by omega⟩ | exact ⟨by omega, by omega, by decide⟩))
  | (with_reducible refine r_U ?_)
  | (with_reducible refine r_test ?_)
  | (with_reducible refine r_B ?_)
  | (with_reducible refine r_bl ?_)
  | (with_reducible refine r_eqI ?_)
  | (with_reducible refine r_neI ?_)
  | ((with_reducible refine' r_eq ?_ ?_); (· exact rfl))
  | ((with_reducible refine' r_ne ?_ ?_); (· exact rfl))
  | (with_reducible refine r_nil ?_)
  | (with_reducible refine r_cons ?_)
  | (with_reducible refine s_tup ?_)
  | (with_reducible refine s_lst ?_)
  | (with_reducible refine r_call ?_)
  | (with_reducible refine r_cb ?_)
  | (with_reducible refine r_and ?_)
  | (with_reducible refine r_or ?_)
  | (with_reducible refine r_not ?_)
  | (with_reducible refine r_andV ?_)
  | (with_reducible refine r_orV ?_)
  | (with_reducible refine r_notV ?_)
  | (with_reducible refine r_ifE ?_)
  | (with_reducible refine r_gSub ?_)
  | (with_reducible refine r_sadd ?_)
  | (with_reducible refine s_lstRg ?_)
  | (with_reducible refine r_rg1 ?_)
  | (with_reducible refine r_min2 ?_)
  | (with_reducible refine r_par2 ?_)
  | (with_reducible refine r_partI ?_)
  | (with_reducible refine s_lc ?_)
  | (with_reducible refine s_dc ?_)
  | (with_reducible refine r_yes ?_)
  | (with_reducible refine r_iZipA ?_)
  | (with_reducible refine r_isN ?_)
  | (with_reducible refine r_for ?_)
  | (with_reducible refine r_iList ?_)
  | (with_reducible refine r_iTup ?_)
  | (with_reducible refine r_iRng1 ?_)
  | (with_reducible refine r_iRng2 ?_)
  | (with_reducible refine r_iEnum ?_)
  | (with_reducible refine r_iZip ?_)
  | (with_reducible refine r_gName ?_)
  | (with_reducible refine r_isNV ?_)
  | (with_reducible refine r_notNV ?_)
  | (with_reducible refine r_bm ?_)
  | (with_reducible refine r_bm0 ?_)
  | (with_reducible refine r_sl ?_)
  | (with_reducible refine r_noPart ?_)
  | (with_reducible refine r_part ?_)
  | (with_reducible refine r_chain ?_)
  | (with_reducible refine r_iKeys ?_)
  | (with_reducible refine r_iItems ?_)
  | (with_reducible refine r_frz ?_)
  | (with_reducible refine r_dput ?_)
  | (with_reducible refine r_dget ?_)
  | (with_reducible refine r_din ?_)
  | (with_reducible refine r_dnotin ?_)
  | (with_reducible refine r_break ?_)
  | ((with_reducible refine' r_sIn ?h ?_); (case h => walk_at "hs"))
  | ((with_reducible refine' r_sNotIn ?h ?_); (case h => walk_at "hs"))
  | ((with_reducible refine' r_inI ?h ?_); (case h => walk_at "hl"))
  | ((with_reducible refine' r_notInI ?h ?_); (case h => walk_at "hl"))
  | ((with_reducible refine' r_eqNil ?h ?g ?_); (case h => walk_at "hl"); (case g => walk_at "hl"))
  | ((with_reducible refine' r_neNil ?h ?g ?_); (case h => walk_at "hl"); (case g => walk_at "hl"))
  | ((with_reducible refine' iteRT ?hh ?_); (case hh => exact rfl))
  | ((with_reducible refine' iteRF ?hh ?_); (case hh => exact rfl))
  | ((with_reducible refine' r_isiT ?ty ?hk ?_); (case ty => (first | assumption | exact tyx_L (by assumption) | exact tyx_T (by assumption) | exact .base (.non) | exact .base (.bl _) | exact .base (.int _) | exact .base (.str _) | exact tyx_L (by walk_at "hl") | exact tyx_T (by walk_at "hl"))); (case hk => decide +kernel))
  | ((with_reducible refine' r_isiF ?ty ?hk ?_); (case ty => (first | assumption | exact tyx_L (by assumption) | exact tyx_T (by assumption) | exact .base (.non) | exact .base (.bl _) | exact .base (.int _) | exact .base (.str _) | exact tyx_L (by walk_at "hl") | exact tyx_T (by walk_at "hl"))); (case hk => decide +kernel))
  | ((with_reducible refine' r_gTup2 ?hn ?hs ?_); (case hn => exact rfl); (case hs => walk_at "hl"))
  | ((with_reducible refine' s_list ?hl ?_); (case hl => first | exact Or.inl (by walk_at "hl") | exact Or.inr (by walk_at "hl")))
  | ((with_reducible refine' s_tupN ?hl ?_); (case hl => walk_at "hl"))
  | ((with_reducible refine' s_sortN ?hl ?_); (case hl => walk_at "hl"))
  | ((refine' ⟨_, _, rfl, ?hl, ?_⟩); (case hl => first | exact Or.inl (by walk_at "hl") | exact Or.inr (by walk_at "hl")))
  | ((with_reducible refine' r_ixL ?hl ?ha ?_); (case hl => walk_at "hl"); (case ha => first | exact rfl | assumption))
  | ((with_reducible refine' r_ixT ?hl ?ha ?_); (case hl => walk_at "hl"); (case ha => first | exact rfl | assumption))))
local macro_rules | `(tactic| walk_at "rd") => `(tactic| repeat (walk_at "rd1"))

section
variable {w : World} {K : PySem.W.Frag} {mg : Str → Option Value} {base : Heap}

def A_added (K : PySem.W.Frag) : List (Int × Int) → List V → Hp → Prop := fun fs vs F => ∃ a xs, vs = [.ref a] ∧ SqL K F a xs ∧ DpAll K F xs (fs.map tieD) ∧ (∀ f ∈ fs, SmF f) ∧ fs.length ≤ 5
def B_added (K : PySem.W.Frag) : List (Int × Int) → V → List (Addr × Cel) → Hp → Prop := fun fs v N F => N = [] ∧ Dp K F v (tieD (addL fs))
theorem big8_of2 {i : Int} (h0 : 0 ≤ i) (h : i < 2 ^ 200) : Big8 i := by
  unfold Big8
  have : i.natAbs < 2 ^ 200 := by omega
  exact Nat.lt_of_lt_of_le this (Nat.pow_le_pow_right (by decide) (by decide : 200 ≤ 8000))
theorem lowF_le {f : Int × Int} (h1 : 0 ≤ f.1) (h2 : 0 < f.2) : 0 ≤ (lowF f).1 ∧ (lowF f).1 ≤ f.1 ∧ 0 < (lowF f).2 ∧ (lowF f).2 ≤ f.2 := by
  have ok := lowF_ok h1 h2
  exact ⟨ok.one, Int.ediv_le_self _ h1, ok.two, Int.ediv_le_self _ (by omega)⟩
theorem addL_snoc (l : List (Int × Int)) (o : Int × Int) : addL (l ++ [o]) = lowF ((addL l).1 * o.2 + o.1 * (addL l).2, (addL l).2 * o.2) := by
  unfold addL
  rw [List.foldl_append]
  rfl
theorem pow18 (i : Nat) : (2 : Int) ^ (18 * (i + 1)) = 2 ^ (18 * i) * 262144 := by
  rw [Nat.mul_add, Int.pow_add]
  rfl
theorem step_bound {x y a b B : Int} (hx0 : 0 ≤ x) (hx : x ≤ B) (hy0 : 0 < y) (hy : y ≤ B) (ha0 : 0 ≤ a) (ha : a ≤ 100000) (hb0 : 1 ≤ b) (hb : b ≤ 100000) : 0 ≤ x * b + a * y ∧ x * b + a * y ≤ B * 262144 ∧ 0 < y * b ∧ y * b ≤ B * 262144 := by
  have h1 : x * b ≤ B * 100000 := Int.le_trans (Int.mul_le_mul_of_nonneg_right hx (by omega)) (Int.mul_le_mul_of_nonneg_left hb (by omega))
  have h2 : a * y ≤ 100000 * B := Int.le_trans (Int.mul_le_mul_of_nonneg_right ha (by omega)) (Int.mul_le_mul_of_nonneg_left hy (by omega))
  have h3 : y * b ≤ B * 100000 := Int.le_trans (Int.mul_le_mul_of_nonneg_right hy (by omega)) (Int.mul_le_mul_of_nonneg_left hb (by omega))
  have h4 : 0 ≤ x * b := Int.mul_nonneg hx0 (by omega)
  have h5 : 0 ≤ a * y := Int.mul_nonneg ha0 (by omega)
  have h6 : 0 < y * b := Int.mul_pos hy0 (by omega)
  have : 0 ≤ B := by omega
  refine ⟨by omega, by omega, h6, by omega⟩
theorem fold_bound : ∀ (l : List (Int × Int)) (a : Int × Int) (B : Int), (∀ f ∈ l, SmF f) → 0 ≤ a.1 → a.1 ≤ B → 0 < a.2 → a.2 ≤ B → ∀ r, r = l.foldl (fun a o => lowF (a.1 * o.2 + o.1 * a.2, a.2 * o.2)) a → 0 ≤ r.1 ∧ r.1 ≤ B * 2 ^ (18 * l.length) ∧ 0 < r.2 ∧ r.2 ≤ B * 2 ^ (18 * l.length)
  | [], a, B, _, h1, h2, h3, h4, r, e => by
    have e : r = a := e
    have : B * 2 ^ (18 * 0) = B := by simp
    rw [e]
    exact ⟨h1, by show a.1 ≤ B * 2 ^ (18 * 0); omega, h3, by show a.2 ≤ B * 2 ^ (18 * 0); omega⟩
  | o :: l, a, B, h, h1, h2, h3, h4, r, e => by
    have s := h o List.mem_cons_self
    obtain ⟨b1, b2, b3, b4⟩ := step_bound h1 h2 h3 h4 s.a0 s.a1 s.b0 s.b1
    have q := lowF_le (f := (a.1 * o.2 + o.1 * a.2, a.2 * o.2)) b1 b3
    simp only at q
    have := fold_bound l (lowF (a.1 * o.2 + o.1 * a.2, a.2 * o.2)) (B * 262144) (fun f m => h f (List.mem_cons_of_mem _ m)) q.1 (by omega) q.2.2.1 (by omega) r e
    rw [List.length_cons, pow18, Int.mul_comm (2 ^ (18 * l.length)), ← Int.mul_assoc]
    exact this
theorem addL_bound (l : List (Int × Int)) (h : ∀ f ∈ l, SmF f) : 0 ≤ (addL l).1 ∧ (addL l).1 ≤ 2 ^ (18 * l.length) ∧ 0 < (addL l).2 ∧ (addL l).2 ≤ 2 ^ (18 * l.length) := by
  have := fold_bound l (0, 1) 1 h (by decide) (by decide) (by decide) (by decide) _ rfl
  rw [Int.one_mul] at this
  exact this
theorem ok_l_added (T : Env K mg) : FnOk P w K mg base CX0 2 T.a__law_added T.fd__law_added ["fractions"] (SpF (A_added K) (B_added K)) := by
  have nd := sc__law_added.nd
  have G__law_lowest : FnOk P w K mg base CX0 1 T.a__law_lowest T.fd__law_lowest ["over", "under"] (SpF A_lfx (B_fx K)) := ok_l_lowest T
  refine T.F__law_added.ok sc__law_added (fun vs H Q E h => ?_) (fun cdv A outer s H vs Q E hr h => ?_)
  · obtain ⟨_, F, _, ⟨a, xs, rfl, _⟩, _⟩ := h
    rfl
  · obtain ⟨fs, F, fr, ⟨a, xs, rfl, hs, hd, hsm, hl⟩, k⟩ := h
    have S := Sep.start0 fr
    refine ⟨_, (pss_cons (ps_asg (pe_tup (pa_cons pe_int (pa_cons pe_int pa_nil))) (pg_tup rfl (pgs_cons (pg_name (i := 1) nd rfl (.inl rfl)) (pgs_cons (pg_name (i := 2) nd rfl (.inl rfl)) pgs_nil))))
      (pss_cons (ps_for PassesOwn.never rfl (pi_list (pv 0)) (pg_name (i := 3) nd rfl (.inl rfl)) (pss_one (ps_asg (pe_call G__law_lowest (hr.mono (by decide)) (by rfl) T.g__law_lowest T.F__law_lowest.kp T.b__law_lowest .nil pass0 (pa_cons (pe_op op_add (pe_op op_mul (pv 1) (pe_ix ix_tup (pv 3) pe_int (fun _ _ => rfl))) (pe_op op_mul (pe_ix ix_tup (pv 3) pe_int (fun _ _ => rfl)) (pv 2))) (pa_cons (pe_op op_mul (pv 2) (pe_ix ix_tup (pv 3) pe_int (fun _ _ => rfl))) pa_nil))) (pg_tup rfl (pgs_cons (pg_name (i := 1) nd rfl (.inl rfl)) (pgs_cons (pg_name (i := 2) nd rfl (.inl rfl)) pgs_nil))))))
      (pss_one (ps_ret (pe_tup (pa_cons (pv 1) (pa_cons (pv 2) pa_nil))))))), ?_⟩
    walk_at "rd"
    refine ⟨by show 2 ≤ sizeLine; decide, s_new S fun q0 F0 H0 S e0 c0 => ?_⟩
    walk_at "rd"
    have hs := Evl.ex_l e0 hs
    have hd := DpAll.ex e0 _ _ hd
    refine ⟨a, rfl, ⟨_, by walk_at "hl"⟩, ?_⟩
    refine s_for (fun i σ' F' M' => ∃ x3 : Option V, σ' = [some (.ref a), some (.int (addL (fs.take i)).1), some (.int (addL (fs.take i)).2), x3] ∧ M' = []) (srcD (as := fs) (da := tieD) hs hd) S ⟨none, rfl, rfl⟩ (fun _ _ _ _ _ m hm => by cases hm) ?_ ?_
    · rintro i o x σ' F1 F2 H2 M' ei S e1 e2 hx ⟨x3, rfl, rfl⟩
      obtain ⟨ta, rfl, st⟩ := tieD_at hx
      have s := hsm o (List.mem_of_getElem? ei)
      have b0 := s.b0
      have b1 := s.b1
      have a0 := s.a0
      have a1 := s.a1
      have hi := (List.getElem?_eq_some_iff.mp ei).1
      have bd := addL_bound (fs.take i) fun f m => hsm f (List.mem_of_mem_take m)
      rw [List.length_take, Nat.min_eq_left (by omega)] at bd
      obtain ⟨c1, c2, c3, c4⟩ := bd
      obtain ⟨d1, d2, d3, d4⟩ := step_bound c1 c2 c3 c4 a0 a1 b0 b1
      rw [← pow18] at d2 d4
      have p5 : (2 : Int) ^ (18 * (i + 1)) ≤ 2 ^ 90 := by
        have := Nat.pow_le_pow_right (n := 2) (by decide) (show 18 * (i + 1) ≤ 90 by omega)
        exact_mod_cast this
      have sn := addL_snoc (fs.take i) o
      rw [← take_snoc ei] at sn
      generalize hX : (addL (fs.take i)).1 = X at *
      generalize hY : (addL (fs.take i)).2 = Y at *
      walk_at "rd"
      refine r_callF S (X * o.2 + o.1 * Y, Y * o.2) ⟨rfl, d1, d3, big8_of2 (by show 0 ≤ Y * o.2; omega) (by show Y * o.2 < 2 ^ 200; omega)⟩ ?_
      rintro v N F3 H3 S e3 ⟨rfl, d5⟩
      rw [← sn] at d5
      obtain ⟨tb, rfl, sb⟩ := tieD_at d5
      walk_at "rd"
      exact ⟨_, _, S, e1.trans (e2.trans e3), _, rfl, rfl⟩
    · rintro σ' F1 H1 M' S e1 ⟨x3, rfl, rfl⟩
      rw [List.take_length]
      walk_at "rd"
      refine ⟨by show 2 ≤ sizeLine; decide, s_new S fun q F2 H2 S e2 c2 => ?_⟩
      exact k _ [] _ _ S ⟨rfl, .tup (SqT.of c2) (.cons (.int _) (.cons (.int _) .nil))⟩
def A_am (K : PySem.W.Frag) : ((Int × Int) × (Int × Int)) → List V → Hp → Prop := fun x vs F => ∃ v u, vs = [v, u] ∧ Dp K F v (tieD x.1) ∧ Dp K F u (tieD x.2) ∧ (-1000000 ≤ x.1.1 ∧ x.1.1 ≤ 1000000) ∧ (-1000000 ≤ x.2.1 ∧ x.2.1 ≤ 1000000)
def B_am : ((Int × Int) × (Int × Int)) → V → List (Addr × Cel) → Hp → Prop := fun x v N _ => N = [] ∧ v = .bl (decide (x.1.1 * x.2.2 ≤ x.2.1 * x.1.2))
theorem ok_l_at_most (T : Env K mg) : FnOk P w K mg base CX0 1 T.a__law_at_most T.fd__law_at_most ["one", "other"] (SpF (A_am K) B_am) := by
  have nd := sc__law_at_most.nd
  refine T.F__law_at_most.ok sc__law_at_most (fun vs H Q E h => ?_) (fun cdv A outer s H vs Q E hr h => ?_)
  · obtain ⟨_, F, _, ⟨v, u, rfl, _⟩, _⟩ := h
    rfl
  · obtain ⟨⟨x, y⟩, F, fr, ⟨v, u, rfl, h1, h2, h3, h4⟩, k⟩ := h
    simp only at h1 h2 h3 h4
    obtain ⟨va, rfl, sv⟩ := tieD_at h1
    obtain ⟨ua, rfl, su⟩ := tieD_at h2
    have S := Sep.start0 fr
    refine ⟨_, (pss_one (ps_ret (pe_cmpR op_le (pe_op op_mul (pe_ix ix_tup (pv 0) pe_int (fun _ _ => rfl)) (pe_ix ix_tup (pv 1) pe_int (fun _ _ => rfl))) (pe_op op_mul (pe_ix ix_tup (pv 1) pe_int (fun _ _ => rfl)) (pe_ix ix_tup (pv 0) pe_int (fun _ _ => rfl))) (nomark _)))), ?_⟩
    walk_at "rd"
    exact k _ [] _ _ S ⟨rfl, rfl⟩
def A_pl : Int → List V → Hp → Prop := fun many vs _ => vs = [.int many] ∧ 1 ≤ many ∧ many ≤ 60
def B_pl : Int → V → List (Addr × Cel) → Hp → Prop := fun many v N _ => ∃ (q : Addr) (pl : List Int), v = .ref q ∧ N = [(q, .is (.lst (pl.map V.int)))] ∧ pl.Perm (rgI many)
theorem ok_l_places (T : Env K mg) : FnOk P w K mg base CX0 3 T.a__law_places T.fd__law_places ["pot", "many"] (SpP A_pl B_pl) := by
  have nd := sc__law_places.nd
  have G__law_pick : FnOk P w K mg base CX0 2 T.a__law_pick T.fd__law_pick ["pot", "upto"] (SpP A_pick B_pick) := ok_l_pick T
  refine T.F__law_places.ok sc__law_places (fun vs H Q E h => ?_) (fun cdv A outer s H vs Q E hr h => ?_)
  · obtain ⟨x, F, p, r, rfl, _, _, _, ⟨rfl, _⟩, _⟩ := h
    rfl
  · obtain ⟨many, F, p, r, rfl, fr, hF, hP, ⟨rfl, hm1, hm2⟩, k⟩ := h
    have S := Sep.startP fr hF hP
    refine ⟨_, (pss_cons (ps_set (i := 2) nd rfl (.inr rfl) (pe_listRg rfl (by rfl) T.n_list (prg_1 (by rfl) T.n_range (pv 1))))
      (pss_one (ps_ret (pe_lc (own := [("k", 3)]) (g := gName 3) (tt := tYes) (te := (tBM K "list" rPopAt (tVar 2) (tCons (tCall (SpP A_pick B_pick) [] E0 (tCons (tVar 0) (tCons (tCB (Evl.rLenS K) (tCons (tVar 2) tNil)) tNil))) tNil))) rfl nd (pi_range1 (by rfl) T.n_range (pa_cons (pv 1) pa_nil)) (blkOk_by (N := ["pot", "many", "order", "k"]) (sc := defScope s__law_places) (by decide +kernel)) (fun _ _ _ _ _ => (pg_name (i := 3) nd rfl (.inl rfl))) (fun _ _ _ _ _ => pts_nil) (fun _ _ _ _ _ => (pe_bm PySem.F.plainAttrs_list PySem.F.slot_list_pop PySem.F.type_list_pop mt_popAt (pv 2) (pa_cons (pe_call G__law_pick (hr.mono (by decide)) (by rfl) T.g__law_pick T.F__law_pick.kp T.b__law_pick .nil pass0 (pa_cons (pv 0) (pa_cons (pe_callB (id := "len") call_len_seq (by rfl) T.n_len PySem.boot_len (pa_cons (pv 2) pa_nil)) pa_nil))) pa_nil))))))), ?_⟩
    walk_at "rd"
    refine ⟨⟨by omega, by omega, by omega, by omega, by omega⟩, ?_⟩
    rw [rgV_eq]
    refine s_own S fun o H4 S => ?_
    walk_at "rd"
    refine ⟨many, rfl, by omega, by omega, ?_⟩
    refine s_lcI srcR (fun i acc F' M' => ∃ rem ac : List Int, acc = ac.map V.int ∧ M' = [(o, .is (.lst (rem.map V.int))), (p, .pot)] ∧ rem.length + i = many.toNat ∧ ac.length = i ∧ (ac ++ rem).Perm (rgI many)) S ⟨rgI many, [], rfl, rfl, by rw [rgI_len]; rfl, rfl, List.Perm.refl _⟩ (fun _ _ _ _ _ m hm => by cases hm) ?_ ?_
    · rintro i x _ acc D F5 F6 H6 M' hi S e5 e6 rfl ⟨rem, ac, rfl, rfl, h3, h4, h5⟩
      have hi := (List.getElem?_eq_some_iff.mp hi).1
      rw [List.length_map, List.length_range] at hi
      walk_at "rd"
      refine ⟨rfl, ?_⟩
      walk_at "rd"
      refine ⟨tyL (by walk_at "hl"), ?_⟩
      walk_at "rd"
      refine r_callP S 2 rfl _ ⟨rfl, by rw [List.length_map]; omega, small_up (by rw [List.length_map]; omega) (by rw [List.length_map]; omega)⟩ fun v N F7 H7 S e7 ⟨z, r, ev, hr0, hr1⟩ => ?_
      subst z ev
      rw [List.length_map] at hr1
      have hlt : r.toNat < rem.length := by omega
      have hy : (rem.map V.int)[r.toNat]? = some (.int rem[r.toNat]) := by
        rw [List.getElem?_map, List.getElem?_eq_getElem hlt]
        rfl
      walk_at "rd"
      refine s_popAt S 1 rfl hr0 (by rw [List.length_map]; exact hr1) (by rw [List.length_map]; omega) hy fun H8 S => ?_
      rw [map_eraseIdx] at S
      refine CI.put S (by walk_at "ex") (by rw [List.length_map]; omega) ⟨rem.eraseIdx r.toNat, ac ++ [rem[r.toNat]], by rw [List.map_append]; rfl, rfl, ?_, by rw [List.length_append]; simp [h4], ?_⟩
      · rw [List.length_eraseIdx_of_lt hlt]
        omega
      · refine List.Perm.trans ?_ h5
        rw [List.append_assoc]
        exact List.Perm.append_left _ (eraseIdx_perm rem r.toNat _ (List.getElem?_eq_getElem hlt))
    · rintro D acc F5 H5 M' S e5 ⟨rem, pl, rfl, rfl, h3, h4, h5⟩
      rw [List.length_map, List.length_range] at h3
      have hrem : rem = [] := List.length_eq_zero_iff.mp (by omega)
      rw [hrem, List.append_nil] at h5
      exact k _ [(D, _)] _ _ (S.drop 1) ⟨D, pl, rfl, rfl, h5⟩
def A_refd (K : PySem.W.Frag) : (Int × List (Int × Int) × Int) → List V → Hp → Prop := fun x vs F => A_wh K x vs F ∧ ¬ inW x
theorem ok_l_refused (T : Env K mg) : FnOk P w K mg base CX0 6 T.a__law_refused T.fd__law_refused ["web", "house"] (SpF (A_refd K) (B_val (.str "house"))) := by
  have nd := sc__law_refused.nd
  have G_chance_in : FnOk P w K mg base (L2.CX P w) 5 T.a_chance_in T.fd_chance_in ["web", "house"] (SpX (A_chx K) (B_chx K) (R_cls T.c_NoHouse fun x => ¬ inW x)) := ok_chance_in T
  have G__law_kind : FnOk P w K mg base CX0 2 T.a__law_kind T.fd__law_kind ["caught"] (SpF (A_kind T) B_kind) := ok_l_kind T
  refine T.F__law_refused.ok sc__law_refused (fun vs H Q E h => ?_) (fun cdv A outer s H vs Q E hr h => ?_)
  · obtain ⟨⟨_, _, _⟩, F, _, ⟨⟨v, rfl, _⟩, _⟩, _⟩ := h
    rfl
  · obtain ⟨⟨many, ties, h⟩, F, fr, ⟨⟨v, rfl, hv, W⟩, ni⟩, k⟩ := h
    have S := Sep.start0 fr
    refine ⟨_, (pss_cons (ps_set (i := 2) nd rfl (.inl rfl) pe_non)
      (pss_cons (ps_kept (i := 3) (j := 2) (n := "e") (x := "ApartError") (c := .ref T.c_ApartError) (Wout := fun _ _ _ _ => False) rfl rfl rfl nd rfl rfl ⟨by rfl, by decide, .inl T.g_ApartError⟩ takes0 (fun W pn xe tk pw => (pss_one (ps_expr (pe_callS (E := WE W) G_chance_in (hr.mono (by decide)) (by rfl) T.g_chance_in T.F_chance_in.kp T.b_chance_in (passAt tk) (pa_cons (pv 0) (pa_cons (pv 1) pa_nil)))))) (fun a o pn => pss_one (ps_set (i := 2) nd rfl (.inl rfl) (pv 3))))
      (pss_one (ps_ret (pe_ifExp (pt_cmpR op_isN (pv 2) pe_non (nomark _)) pe_str (pe_call G__law_kind (hr.mono (by decide)) (by rfl) T.g__law_kind T.F__law_kind.kp T.b__law_kind .nil pass0 (pa_cons (pv 2) pa_nil))))))), ?_⟩
    walk_at "rd"
    refine r_callS ?_
    walk_at "rd"
    refine r_callX S (many, ties, h) ⟨⟨v, rfl, hv, W⟩, fun z => absurd z ni⟩ ?_ ?_
    · rintro v2 N F1 H1 S e1 ⟨z, _⟩
      exact absurd z ni
    rintro c d F1 H1 S e1 ⟨rfl, rfl, _⟩
    refine ⟨true, T.e_NoHouse, fun _ a ha => ?_, fun z => by cases z⟩
    have c2 : (upd F1 a (KeptO (.ref T.c_NoHouse) none a)) a = some (KeptO (.ref T.c_NoHouse) none a) := upd_same
    have S := S.newF ha (KeptO (.ref T.c_NoHouse) none a)
    generalize upd F1 a (KeptO (.ref T.c_NoHouse) none a) = F2 at *
    generalize upd H1 a (KeptO (.ref T.c_NoHouse) none a) = H2 at *
    walk_at "rd"
    refine r_callF S 0 ⟨_, _, none, rfl, ExV.kept c2 (fun _ z => by cases z), kind_NoHouse T⟩ ?_
    rintro v2 N F3 H3 S e3 ⟨rfl, nm, e, rfl⟩
    cases e
    exact k _ [] _ _ S ⟨rfl, rfl⟩

end

end
section
local macro_rules | `(tactic| walk_at "ex") => `(tactic| first | exact Evl.Ex.refl _ | assumption | ((refine' Evl.Ex.trans ?x ?y); (case y => assumption); (case x => walk_at "ex")))
local macro_rules | `(tactic| walk_at "hc") => `(tactic| first
  | assumption
  | ((refine' Sep.rdM ?S 0 ?k); (case S => assumption); (case k => exact rfl)) | ((refine' Sep.rdM ?S 1 ?k); (case S => assumption); (case k => exact rfl)) | ((refine' Sep.rdM ?S 2 ?k); (case S => assumption); (case k => exact rfl)) | ((refine' Sep.rdM ?S 3 ?k); (case S => assumption); (case k => exact rfl)) | ((refine' Sep.rdM ?S 4 ?k); (case S => assumption); (case k => exact rfl))
  | ((refine' Sep.rdC ?S ?e ?h); (case S => assumption); (case h => assumption); (case e => walk_at "ex")))
local macro_rules | `(tactic| walk_at "hl") => `(tactic| first
  | assumption
  | ((refine' SqL.of (Sep.rdM ?S 0 ?k)); (case S => assumption); (case k => exact rfl)) | ((refine' SqL.of (Sep.rdM ?S 1 ?k)); (case S => assumption); (case k => exact rfl)) | ((refine' SqL.of (Sep.rdM ?S 2 ?k)); (case S => assumption); (case k => exact rfl)) | ((refine' SqL.of (Sep.rdM ?S 3 ?k)); (case S => assumption); (case k => exact rfl)) | ((refine' SqL.of (Sep.rdM ?S 4 ?k)); (case S => assumption); (case k => exact rfl))
  | ((refine' Sep.rdL ?S ?e ?h); (case S => assumption); (case h => assumption); (case e => walk_at "ex"))
  | ((refine' Sep.rdT ?S ?e ?h); (case S => assumption); (case h => assumption); (case e => walk_at "ex"))
  | ((refine' SqL.of (Sep.rdC ?S ?e ?h)); (case S => assumption); (case h => assumption); (case e => walk_at "ex"))
  | ((refine' SqT.of (Sep.rdC ?S ?e ?h)); (case S => assumption); (case h => assumption); (case e => walk_at "ex"))
  | ((refine' SqL.of ?h); (case h => assumption)) | ((refine' SqT.of ?h); (case h => assumption))
  | ((refine' Evl.ex_l ?e ?h); (case h => assumption); (case e => walk_at "ex")) | ((refine' Evl.ex_t ?e ?h); (case h => assumption); (case e => walk_at "ex"))
  | ((refine' SqL.of (?e _ _ ?h)); (case h => assumption); (case e => walk_at "ex")) | ((refine' SqT.of (?e _ _ ?h)); (case h => assumption); (case e => walk_at "ex")))
local macro_rules | `(tactic| walk_at "hs") => `(tactic| walk_at "hc")
local macro_rules | `(tactic| walk_at "dp") => `(tactic| first
  | assumption
  | ((refine' Sep.rdD ?S ?e ?h); (case S => assumption); (case h => assumption); (case e => walk_at "ex"))
  | ((refine' Dp.ex ?e _ _ ?h); (case h => assumption); (case e => walk_at "ex"))
  | ((refine' DpAll.ex ?e _ _ ?h); (case h => assumption); (case e => walk_at "ex"))
  | (refine' dp_intsD ?h; (case h => walk_at "hl")))
local macro_rules | `(tactic| walk_at "rd1") => `(tactic| (first
  | (with_reducible refine r_seq ?_)
  | (with_reducible refine r_asg ?_)
  | (with_reducible refine r_asgG ?_)
  | (with_reducible refine r_par ?_)
  | (with_reducible refine r_if ?_)
  | (with_reducible refine r_ret ?_)
  | (with_reducible refine r_drop ?_)
  | (with_reducible refine r_next ?_)
  | ((with_reducible refine' r_var ?hx ?_); (case hx => exact rfl))
  | (with_reducible refine r_c ?_)
  | (with_reducible refine r_op ?_)
  | (with_reducible refine r_un ?_)
  | (with_reducible refine r_I0 ?_)
  | ((with_reducible refine' r_I ?_ ?_); (· first | (show (0 : Int) < _; omega) | exact Or.inr ⟨by omega, by omega⟩ | exact Or.inl ⟨by omega, by omega⟩ | exact ⟨by omega, by omega, by decide⟩))
  | (with_reducible refine r_U ?_)
  | (with_reducible refine r_test ?_)
  | (with_reducible refine r_B ?_)
  | (with_reducible refine r_bl ?_)
  | (with_reducible refine r_eqI ?_)
  | (with_reducible refine r_neI ?_)
  | ((with_reducible refine' r_eq ?_ ?_); (· exact rfl))
  | ((with_reducible refine' r_ne ?_ ?_); (· exact rfl))
  | (with_reducible refine r_nil ?_)
  | (with_reducible refine r_cons ?_)
  | (with_reducible refine s_tup ?_)
  | (with_reducible refine s_lst ?_)
  | (with_reducible refine r_call ?_)
  | (with_reducible refine r_cb ?_)
  | (with_reducible refine r_and ?_)
  | (with_reducible refine r_or ?_)
  | (with_reducible refine r_not ?_)
  | (with_reducible refine r_andV ?_)
  | (with_reducible refine r_orV ?_)
  | (with_reducible refine r_notV ?_)
  | (with_reducible refine r_ifE ?_)
  | (with_reducible refine r_gSub ?_)
  | (with_reducible refine r_sadd ?_)
  | (with_reducible refine s_lstRg ?_)
  | (with_reducible refine r_rg1 ?_)
  | (with_reducible refine r_min2 ?_)
  | (with_reducible refine r_par2 ?_)
  | (with_reducible refine r_partI ?_)
  | (with_reducible refine s_lc ?_)
  | (with_reducible refine s_dc ?_)
  | (with_reducible refine r_yes ?_)
  | (with_reducible refine r_iZipA ?_)
  | (with_reducible refine r_isN ?_)
  | (with_reducible refine r_for ?_)
  | (with_reducible refine r_iList ?_)
  | (with_reducible refine r_iTup ?_)
  | (with_reducible refine r_iRng1 ?_)
  | (with_reducible refine r_iRng2 ?_)
  | (with_reducible refine r_iEnum ?_)
  | (with_reducible refine r_iZip ?_)
  | (with_reducible refine r_gName ?_)
  | (with_reducible refine r_isNV ?_)
  | (with_reducible refine r_notNV ?_)
  | (with_reducible refine r_bm ?_)
  | (with_reducible refine r_bm0 ?_)
  | (with_reducible refine r_sl ?_)
  | (with_reducible refine r_noPart ?_)
  | (with_reducible refine r_part ?_)
  | (with_reducible refine r_chain ?_)
  | (with_reducible refine r_iKeys ?_)
  | (with_reducible refine r_iItems ?_)
  | (with_reducible refine r_frz ?_)
  | (with_reducible refine r_dput ?_)
  | (with_reducible refine r_dget ?_)
  | (with_reducible refine r_din ?_)
  | (with_reducible refine r_dnotin ?_)
  | (with_reducible refine r_break ?_)
  | ((with_reducible refine' r_sIn ?h ?_); (case h => walk_at "hs"))
  | ((with_reducible refine' r_sNotIn ?h ?_); (case h => walk_at "hs"))
  | ((with_reducible refine' r_inI ?h ?_); (case h => walk_at "hl"))
  | ((with_reducible refine' r_notInI ?h ?_); (case h => walk_at "hl"))
  | ((with_reducible refine' r_eqNil ?h ?g ?_); (case h => walk_at "hl"); (case g => walk_at "hl"))
  | ((with_reducible refine' r_neNil ?h ?g ?_); (case h => walk_at "hl"); (case g => walk_at "hl"))
  | ((with_reducible refine' iteRT ?hh ?_); (case hh => exact rfl))
  | ((with_reducible refine' iteRF ?hh ?_); (case hh => exact rfl))
  | ((with_reducible refine' r_isiT ?ty ?hk ?_); (case ty => (first | assumption | exact tyx_L (by assumption) | exact tyx_T (by assumption) | exact .base (.non) | exact .base (.bl _) | exact .base (.int _) | exact .base (.str _) | exact tyx_L (by walk_at "hl") | exact tyx_T (by walk_at "hl"))); (case hk => decide +kernel))
  | ((with_reducible refine' r_isiF ?ty ?hk ?_); (case ty => (first | assumption | exact tyx_L (by assumption) | exact tyx_T (by assumption) | exact .base (.non) | exact .base (.bl _) | exact .base (.int _) | exact .base (.str _) | exact tyx_L (by walk_at "hl") | exact tyx_T (by walk_at "hl"))); (case hk => decide +kernel))
  | ((with_reducible refine' r_gTup2 ?hn ?hs ?_); (case hn => exact rfl); (case hs => walk_at "hl"))
  | ((with_reducible refine' s_list ?hl ?_); (case hl => first | exact Or.inl (by walk_at "hl") | exact Or.inr (by walk_at "hl")))
  | ((with_reducible refine' s_tupN ?hl ?_); (case hl => walk_at "hl"))
  | ((with_reducible refine' s_sortN ?hl ?_); (case hl => walk_at "hl"))
  | ((refine' ⟨_, _, rfl, ?hl, ?_⟩); (case hl => first | exact Or.inl (by walk_at "hl") | exact Or.inr (by walk_at "hl")))
  | ((with_reducible refine' r_ixL ?hl ?ha ?_); (case hl => walk_at "hl"); (case ha => first | exact rfl | assumption))
  | ((with_reducible refine' r_ixT ?hl ?ha ?_); (case hl => walk_at "hl"); (case ha => first | exact rfl | assumption))))
local macro_rules | `(tactic| walk_at "rd") => `(tactic| repeat (walk_at "rd1"))

section
variable {w : World} {K : PySem.W.Frag} {mg : Str → Option Value} {base : Heap}

theorem nmAt_mem {p : List Int} {n h : Int} (hp : p.Perm (rgI n)) (h0 : 0 ≤ h) (h1 : h < n) : atI (p.map V.int) h = some (.int (nmAt p h)) ∧ 0 ≤ nmAt p h ∧ nmAt p h < n := by
  have pl : p.length = n.toNat := by rw [hp.length_eq, rgI_len]
  have pr : nmAt p h ∈ p := by
    unfold nmAt
    rw [List.getD_eq_getElem?_getD, List.getElem?_eq_getElem (by omega)]
    exact List.getElem_mem _
  exact ⟨nm_at pl h0 h1, rgI_mem.mp (hp.mem_iff.mp pr)⟩
theorem tpp_fP (p : List Int) (t : Int × Int) : tpp p t = fP p t.1.toNat t.2.toNat := rfl
theorem tpp_nd {p : List Int} {n : Int} {ts : List (Int × Int)} (hp : p.Perm (rgI n)) (W : WebOk n ts) : (ts.map (tpp p)).Nodup := by
  have pn : p.Nodup := hp.nodup_iff.mpr (rgI_nd n)
  have pl : p.length = n.toNat := by rw [hp.length_eq, rgI_len]
  refine List.pairwise_map.mpr (List.Pairwise.imp_of_mem ?_ W.up)
  intro a b ma mb h e
  have wa := W.ok a ma
  have wb := W.ok b mb
  rw [tpp_fP, tpp_fP] at e
  have := fP_inj pn (by omega) (by omega) (by omega) (by omega) e
  unfold Lx at h
  omega
theorem tpp_ok {p : List Int} {n : Int} {t : Int × Int} (hp : p.Perm (rgI n)) (h : 0 ≤ t.1 ∧ t.1 < t.2 ∧ t.2 < n) : 0 ≤ (tpp p t).1 ∧ (tpp p t).1 < (tpp p t).2 ∧ (tpp p t).2 < n := by
  have pn : p.Nodup := hp.nodup_iff.mpr (rgI_nd n)
  have pl : p.length = n.toNat := by rw [hp.length_eq, rgI_len]
  have a := (nmAt_mem hp h.1 (by omega)).2
  have b := (nmAt_mem hp (show 0 ≤ t.2 by omega) h.2.2).2
  have ne : nmAt p t.1 ≠ nmAt p t.2 := fun q => by
    have := nd_ix pn (by omega) (by omega) q
    omega
  unfold tpp
  simp only
  generalize nmAt p t.1 = x at *
  generalize nmAt p t.2 = y at *
  split <;> split <;> omega
theorem shaped_tie (f : Int × Int) : SeqAt.shaped (tieD f) = true := by
  unfold tieD SeqAt.shaped
  simp [PyData.canLay0, PyData.canLayAll0, PyData.depth, PyData.depthAll]
def A_turned (K : PySem.W.Frag) : (Int × List (Int × Int) × List Int) → List V → Hp → Prop := fun | (many, ties, pl), vs, F => ∃ v u, vs = [v, .ref u] ∧ Dp K F v (webD many ties) ∧ WebOk many ties ∧ many ≤ 4 ∧ SqL K F u (pl.map V.int) ∧ pl.Perm (rgI many)
theorem ok_l_same_turned (T : Env K mg) : FnOk P w K mg base CX0 6 T.a__law_same_turned T.fd__law_same_turned ["web", "places"] (SpF (A_turned K) (B_val (.bl true))) := by
  have nd := sc__law_same_turned.nd
  have G_chance_in : FnOk P w K mg base (L2.CX P w) 5 T.a_chance_in T.fd_chance_in ["web", "house"] (SpX (A_chx K) (B_chx K) (R_cls T.c_NoHouse fun x => ¬ inW x)) := ok_chance_in T
  have G_mean_latest : FnOk P w K mg base CX0 5 T.a_mean_latest T.fd_mean_latest ["web"] (SpF (A_web6 K) (B_mf K fun _ => latF)) := ok_mean_latest T
  have G_mean_gone : FnOk P w K mg base CX0 5 T.a_mean_gone T.fd_mean_gone ["web"] (SpF (A_web6 K) (B_mf K fun x => goneF x.2)) := ok_mean_gone T
  have G_most_latest : FnOk P w K mg base CX0 4 T.a_most_latest T.fd_most_latest ["web"] (SpF (A_web6 K) B_ml) := ok_most_latest T
  refine T.F__law_same_turned.ok sc__law_same_turned (fun vs H Q E h => ?_) (fun cdv A outer s H vs Q E hr h => ?_)
  · obtain ⟨⟨_, _, _⟩, F, _, ⟨v, u, rfl, _⟩, _⟩ := h
    rfl
  · obtain ⟨⟨many, ties, pl⟩, F, fr, ⟨v, u, rfl, hw, W, m4, hu, pp⟩, k⟩ := h
    have m1 := W.lo
    have W4 := web4 W m4
    have tl := ties_len W
    obtain ⟨wa, wb, ws, rfl, z1, z2, z3⟩ := webD_at hw
    have S := Sep.start0 fr
    refine ⟨_, (pss_cons (ps_setLc (i := 2) (own := [("a", 5), ("b", 6)]) (g := (gTup K 2 (gCons (gName 5) (gCons (gName 6) gNil)))) (tt := tYes) (te := (tTup (tCons (tCB rMin2 (tCons (tOp (rIxL K) (tVar 1) (tVar 5)) (tCons (tOp (rIxL K) (tVar 1) (tVar 6)) tNil))) (tCons (tCB Evl.rMax2 (tCons (tOp (rIxL K) (tVar 1) (tVar 5)) (tCons (tOp (rIxL K) (tVar 1) (tVar 6)) tNil))) tNil)))) rfl nd rfl rfl (sw_true rfl rfl rfl (by decide +kernel)) (pi_tup (pe_ix ix_tup (pv 0) pe_int (fun _ _ => rfl))) (blkOk_by (N := ["web", "places", "ties", "other", "house", "a", "b"]) (sc := defScope s__law_same_turned) (by decide +kernel)) (fun _ _ _ _ _ => (pg_tup rfl (pgs_cons (pg_name (i := 5) nd rfl (.inl rfl)) (pgs_cons (pg_name (i := 6) nd rfl (.inl rfl)) pgs_nil)))) (fun _ _ _ _ _ => pts_nil) (fun _ _ _ _ _ => (pe_tup (pa_cons (pe_callB (id := "min") (call_min2 rfl) (by rfl) T.n_min (by decide +kernel) (pa_cons (pe_ix ix_list (pv 1) (pv 5) (fun _ _ => rfl)) (pa_cons (pe_ix ix_list (pv 1) (pv 6) (fun _ _ => rfl)) pa_nil))) (pa_cons (pe_callB (id := "max") (call_max2 rfl) (by rfl) T.n_max (by decide +kernel) (pa_cons (pe_ix ix_list (pv 1) (pv 5) (fun _ _ => rfl)) (pa_cons (pe_ix ix_list (pv 1) (pv 6) (fun _ _ => rfl)) pa_nil))) pa_nil)))))
      (pss_cons (ps_set (i := 3) nd rfl (.inl rfl) (pe_tup (pa_cons (pe_ix ix_tup (pv 0) pe_int (fun _ _ => rfl)) (pa_cons (pe_callTy call_tupN (by rfl) T.n_tuple (by decide +kernel) (pa_cons (pe_callB (id := "sorted") cr_sortedPN (by rfl) T.n_sorted (by decide +kernel) (pa_cons (pv 2) pa_nil)) pa_nil)) pa_nil))))
      (pss_cons (ps_for PassesOwn.never rfl (pi_range1 (by rfl) T.n_range (pa_cons (pe_ix ix_tup (pv 0) pe_int (fun _ _ => rfl)) pa_nil)) (pg_name (i := 4) nd rfl (.inl rfl)) (pss_one (ps_if (pt_cmpR (op_neD hr.units) (pe_call (E := E0) G_chance_in (hr.mono (by decide)) (by rfl) T.g_chance_in T.F_chance_in.kp T.b_chance_in .nil passN (pa_cons (pv 3) (pa_cons (pe_ix ix_list (pv 1) (pv 4) (fun _ _ => rfl)) pa_nil))) (pe_call (E := E0) G_chance_in (hr.mono (by decide)) (by rfl) T.g_chance_in T.F_chance_in.kp T.b_chance_in .nil passN (pa_cons (pv 0) (pa_cons (pv 4) pa_nil))) (nomark _)) (pss_one (ps_ret pe_bl)) pss_nil)))
      (pss_cons (ps_if (PW.pt (pw_or (pt_cmpR (op_neD hr.units) (pe_call G_mean_latest (hr.mono (by decide)) (by rfl) T.g_mean_latest T.F_mean_latest.kp T.b_mean_latest .nil pass0 (pa_cons (pv 3) pa_nil)) (pe_call G_mean_latest (hr.mono (by decide)) (by rfl) T.g_mean_latest T.F_mean_latest.kp T.b_mean_latest .nil pass0 (pa_cons (pv 0) pa_nil)) (nomark _)) (pw_or1 (pt_cmpR (op_neD hr.units) (pe_call G_mean_gone (hr.mono (by decide)) (by rfl) T.g_mean_gone T.F_mean_gone.kp T.b_mean_gone .nil pass0 (pa_cons (pv 3) pa_nil)) (pe_call G_mean_gone (hr.mono (by decide)) (by rfl) T.g_mean_gone T.F_mean_gone.kp T.b_mean_gone .nil pass0 (pa_cons (pv 0) pa_nil)) (nomark _))))) (pss_one (ps_ret pe_bl)) pss_nil)
      (pss_one (ps_ret (pe_cmpR op_eq (pe_ix ix_tup (pe_call G_most_latest (hr.mono (by decide)) (by rfl) T.g_most_latest T.F_most_latest.kp T.b_most_latest .nil pass0 (pa_cons (pv 3) pa_nil)) pe_int (fun _ _ => rfl)) (pe_ix ix_tup (pe_call G_most_latest (hr.mono (by decide)) (by rfl) T.g_most_latest T.F_most_latest.kp T.b_most_latest .nil pass0 (pa_cons (pv 0) pa_nil)) pe_int (fun _ _ => rfl)) (nomark _)))))))), ?_⟩
    walk_at "rd"
    refine ⟨wb, rfl, ⟨_, by walk_at "hl"⟩, ?_⟩
    refine s_lcI (srcDT (as := ties) (da := tieD) z2 z3) (fun i acc F' M' => M' = [] ∧ TupsAt F' acc ((ties.take i).map (tpp pl))) S ⟨rfl, .nil⟩ (fun _ _ _ _ _ m hm => by cases hm) ?_ ?_
    · rintro i tie x acc D F1 F2 H2 M' ei S e1 e2 hx ⟨rfl, ta⟩
      obtain ⟨tq, rfl, st⟩ := tieD_at hx
      have ht := W.ok tie (List.mem_of_getElem? ei)
      have a1 := (nmAt_mem pp ht.1 (by omega)).1
      have a2 := (nmAt_mem pp (show 0 ≤ tie.2 by omega) ht.2.2).1
      have al := ta.len
      rw [List.length_map, List.length_take] at al
      walk_at "rd"
      refine ⟨rfl, ?_⟩
      walk_at "rd"
      refine ⟨_, _, rfl, ?_⟩
      walk_at "rd"
      refine ⟨_, _, rfl, ?_⟩
      walk_at "rd"
      refine ⟨by show 2 ≤ sizeLine; decide, s_new S fun t F4 H4 S e4 c4 => ?_⟩
      refine CI.put S (by walk_at "ex") (by omega) ⟨rfl, ?_⟩
      rw [take_snoc ei, List.map_append]
      exact TupsAt.snoc (p := tpp pl tie) c4 (ta.mono (ExT.of (e2.trans e4)))
    rintro D acc F2 H2 M' S e2 ⟨rfl, ta⟩
    rw [List.take_length] at ta
    obtain ⟨F3, S, e3, c3⟩ := S.frz 0 rfl
    have ta := ta.mono (ExT.of e3)
    walk_at "rd"
    refine ⟨D, acc, pairOf F3, rfl, by walk_at "hl", fun x hx => ?_, fun ys hs hb => s_own S fun q4 H4 S => ?_⟩
    · obtain ⟨t, et, ht⟩ := ta.all x hx
      exact ⟨t, et, S.fr _ _ ht⟩
    have t1 : TupsAt F3 ys (ys.map (pairOf F3)) := tupsAt_of ys fun x hx => ta.all x (hb.perm.mem_iff.mp hx)
    have pm : (ys.map (pairOf F3)).Perm (ties.map (tpp pl)) := by
      rw [← ta.map]
      exact hb.perm.map _
    have up := sorted_up (tpp_nd pp W) pm (List.Pairwise.map _ (fun a b h => h) hs)
    generalize ys.map (pairOf F3) = ts at *
    have W' : WebOk many ts := ⟨m1, W.hi, fun t ht => by
      obtain ⟨t0, h0, rfl⟩ := List.mem_map.mp (pm.mem_iff.mp ht)
      exact tpp_ok pp (W.ok t0 h0), up⟩
    obtain ⟨q1, q2, q3, q4⟩ := W4.turn pl ts pp W' pm
    walk_at "rd"
    refine s_new S fun l F9 H9 S e9 cl => ?_
    walk_at "rd"
    refine ⟨(by show 2 ≤ sizeLine; decide), s_new S fun f F10 H10 S e10 cf => ?_⟩
    have hw' : Dp K F10 (.ref f) (webD many ts) := web_dp (SqT.of cf) (SqT.of (e10 _ _ cl)) ((t1.mono (ExT.of (e9.trans e10))).dp)
    have S := S.drop 0
    have E := e2.trans (e3.trans (e9.trans e10))
    have hw := Dp.ex E _ _ hw
    have hu := Evl.ex_l E hu
    have z1 := Evl.ex_t E z1
    clear t1 ta c3 cl cf E e2 e3 e9 e10 z2 z3
    walk_at "rd"
    refine ⟨many, rfl, by omega, by omega, ?_⟩
    refine s_forR (fun i σ' F' M' => ∃ x4 : Option V, σ' = [some (.ref wa), some (.ref u), some (.ref D), some (.ref f), x4, none, none] ∧ M' = []) S ⟨none, rfl, rfl⟩ ?_ ?_
    · rintro i σ' F2 H2 M' hi S e2 ⟨x4, rfl, rfl⟩
      have hl : (0 : Int) + (i : Int) = (i : Int) := by omega
      rw [hl]
      obtain ⟨a1, a2, a3⟩ := nmAt_mem pp (h := (i : Int)) (by omega) (by omega)
      have qi := q4 (i : Int) (by omega) (by omega)
      walk_at "rd"
      refine r_callX S (many, ts, nmAt pl (i : Int)) ⟨⟨_, rfl, Dp.ex e2 _ _ hw', W'⟩, fun _ => by show many ≤ 6; omega⟩ ?_ ?_
      · rintro v N F3 H3 S e3 ⟨_, rfl, d3⟩
        walk_at "rd"
        refine r_callX S (many, ties, (i : Int)) ⟨⟨_, rfl, Dp.ex (e2.trans e3) _ _ hw, W⟩, fun _ => by show many ≤ 6; omega⟩ ?_ ?_
        · rintro v N F4 H4 S e4 ⟨_, rfl, d4⟩
          rw [qi] at d3
          walk_at "rd"
          refine r_neSameD (Dp.ex S.fr _ _ (Dp.ex e4 _ _ d3)) (Dp.ex S.fr _ _ d4) (shaped_tie _) ?_
          walk_at "rd"
          exact ⟨_, _, S, e2.trans (e3.trans e4), _, rfl, rfl⟩
        · rintro c d F7 H7 S e7 ⟨_, _, z⟩
          exact absurd ⟨by show 0 ≤ (i : Int); omega, by show (i : Int) < many; omega⟩ z
      · rintro c d F7 H7 S e7 ⟨_, _, z⟩
        exact absurd ⟨a2, a3⟩ z
    · rintro σ' F2 H2 M' S e2 ⟨x4, rfl, rfl⟩
      walk_at "rd"
      refine r_callF S (many, ts) ⟨_, rfl, Dp.ex e2 _ _ hw', W', by omega⟩ ?_
      rintro v N F3 H3 S e3 ⟨rfl, d3⟩
      walk_at "rd"
      refine r_callF S (many, ties) ⟨_, rfl, Dp.ex (e2.trans e3) _ _ hw, W, by omega⟩ ?_
      rintro v N F4 H4 S e4 ⟨rfl, d4⟩
      rw [q1] at d3
      walk_at "rd"
      refine r_neSameD (Dp.ex S.fr _ _ (Dp.ex e4 _ _ d3)) (Dp.ex S.fr _ _ d4) (shaped_tie _) ?_
      have E4 := e2.trans (e3.trans e4)
      clear e2 e3 e4 d3 d4
      walk_at "rd"
      refine r_callF S (many, ts) ⟨_, rfl, Dp.ex E4 _ _ hw', W', by omega⟩ ?_
      rintro v N F5 H5 S e5 ⟨rfl, d5⟩
      walk_at "rd"
      refine r_callF S (many, ties) ⟨_, rfl, Dp.ex (E4.trans e5) _ _ hw, W, by omega⟩ ?_
      rintro v N F6 H6 S e6 ⟨rfl, d6⟩
      have d5 : Dp K F5 _ (tieD (meanF many ts (goneF ts))) := d5
      rw [q2] at d5
      walk_at "rd"
      refine r_neSameD (Dp.ex S.fr _ _ (Dp.ex e6 _ _ d5)) (Dp.ex S.fr _ _ d6) (shaped_tie _) ?_
      have E6 := E4.trans (e5.trans e6)
      clear E4 e5 e6 d5 d6
      walk_at "rd"
      refine r_callF S (many, ts) ⟨_, rfl, Dp.ex E6 _ _ hw', W', by omega⟩ ?_
      rintro v N F7 H7 S e7 ⟨t7, g7, m7, ns7, rfl, c7, rfl, r1, r2, r3⟩
      have m7e := most_eq r1 r2 r3
      walk_at "rd"
      refine r_callF S (many, ties) ⟨_, rfl, Dp.ex (E6.trans e7) _ _ hw, W, by omega⟩ ?_
      rintro v N F8 H8 S e8 ⟨t8, g8, m8, ns8, rfl, c8, rfl, r4, r5, r6⟩
      have m8e := most_eq r4 r5 r6
      walk_at "rd"
      have e : m7 = m8 := by rw [m7e, m8e, q3]
      subst e
      rw [decide_eq_true rfl]
      exact k _ [] _ _ S.nil ⟨rfl, rfl⟩
theorem out5 {many h c : Int} {ties : List (Int × Int)} (m1 : 1 ≤ many) (hc : c ≤ 6) (ho : h < 0 ∨ many ≤ h) : ¬ inW (c, ties, h + 6 * (if decide (0 < h) = true then 1 else 0)) := by
  rintro ⟨o1, o2⟩
  simp only at o1 o2
  by_cases p : 0 < h
  · rw [if_pos (decide_eq_true p)] at o1 o2
    omega
  · rw [if_neg (by simpa using p)] at o1 o2
    omega
def sp_law (K : PySem.W.Frag) : Sp := fun vs H Q _ => ∃ (a : Addr) (ns : List Int), vs = [.ref a] ∧ SqL K H a (ns.map V.int) ∧ ns.length ≤ 63 ∧ ∀ H', Q (.bl true) H'
theorem ok_law {f : Addr} {fd : FuncData} (T : Env K mg) (F : Fun K "law" "law" s_law f fd) : FnOk P w K mg base CX0 8 f fd ["script"] (sp_law K) := by
  have nd := sc_law.nd
  have G__law_pot : FnOk P w K mg base CX0 1 T.a__law_pot T.fd__law_pot ["script"] (SpF (A_pot K) B_pot) := ok_l_pot T
  have G__law_web : FnOk P w K mg base CX0 3 T.a__law_web T.fd__law_web ["pot", "most"] (SpP A_web (B_web K)) := ok_l_web T
  have G_mean_size : FnOk P w K mg base CX0 5 T.a_mean_size T.fd_mean_size ["web"] (SpF (A_web6 K) (B_mf K fun _ => szF)) := ok_mean_size T
  have G_most_latest : FnOk P w K mg base CX0 4 T.a_most_latest T.fd_most_latest ["web"] (SpF (A_web6 K) B_ml) := ok_most_latest T
  have G_chance_in : FnOk P w K mg base (L2.CX P w) 5 T.a_chance_in T.fd_chance_in ["web", "house"] (SpX (A_chx K) (B_chx K) (R_cls T.c_NoHouse fun x => ¬ inW x)) := ok_chance_in T
  have G__law_at_most : FnOk P w K mg base CX0 1 T.a__law_at_most T.fd__law_at_most ["one", "other"] (SpF (A_am K) B_am) := ok_l_at_most T
  have G__law_added : FnOk P w K mg base CX0 2 T.a__law_added T.fd__law_added ["fractions"] (SpF (A_added K) (B_added K)) := ok_l_added T
  have G_latest_by : FnOk P w K mg base CX0 5 T.a_latest_by T.fd_latest_by ["web", "names"] (SpF (A_wn K) B_latest) := ok_latest_by T
  have G__law_same_turned : FnOk P w K mg base CX0 6 T.a__law_same_turned T.fd__law_same_turned ["web", "places"] (SpF (A_turned K) (B_val (.bl true))) := ok_l_same_turned T
  have G__law_pick : FnOk P w K mg base CX0 2 T.a__law_pick T.fd__law_pick ["pot", "upto"] (SpP A_pick B_pick) := ok_l_pick T
  have G__law_refused : FnOk P w K mg base CX0 6 T.a__law_refused T.fd__law_refused ["web", "house"] (SpF (A_refd K) (B_val (.str "house"))) := ok_l_refused T
  have G_mean_gone : FnOk P w K mg base CX0 5 T.a_mean_gone T.fd_mean_gone ["web"] (SpF (A_web6 K) (B_mf K fun x => goneF x.2)) := ok_mean_gone T
  have G_mean_latest : FnOk P w K mg base CX0 5 T.a_mean_latest T.fd_mean_latest ["web"] (SpF (A_web6 K) (B_mf K fun _ => latF)) := ok_mean_latest T
  have G__law_places : FnOk P w K mg base CX0 3 T.a__law_places T.fd__law_places ["pot", "many"] (SpP A_pl B_pl) := ok_l_places T
  have G_tied_to : FnOk P w K mg base (L2.CX P w) 3 T.a_tied_to T.fd_tied_to ["web", "house"] (SpX (A_wh K) B_tied (R_cls T.c_NoHouse fun x => ¬ inW x)) := ok_tied_to T
  refine F.ok sc_law (fun vs H Q E h => ?_) (fun cdv A outer s H vs Q E hr h => ?_)
  · obtain ⟨a, ns, rfl, _⟩ := h
    rfl
  · obtain ⟨a, ns, rfl, hS, hn, k⟩ := h
    have S := Sep.start0 (Evl.Ex.refl H)
    refine ⟨_, (pss_cons (ps_set (i := 1) nd rfl (.inl rfl) (pe_call G__law_pot (hr.mono (by decide)) (by rfl) T.g__law_pot T.F__law_pot.kp T.b__law_pot .nil pass0 (pa_cons (pv 0) pa_nil)))
      (pss_cons (ps_for PassesOwn.never rfl (pi_range1 (by rfl) T.n_range (pa_cons pe_int pa_nil)) (pg_name (i := 2) nd rfl (.inl rfl)) (pss_cons (ps_set (i := 3) nd rfl (.inr rfl) (pe_call G__law_web (hr.mono (by decide)) (by rfl) T.g__law_web T.F__law_web.kp T.b__law_web .nil pass0 (pa_cons (pv 1) (pa_cons pe_int pa_nil))))
      (pss_cons (ps_setLc (i := 4) (own := [("house", 5)]) (g := gName 5) (tt := tYes) (te := (tCall (SpX (A_chx K) (B_chx K) (R_cls T.c_NoHouse fun x => ¬ inW x)) [] E0 (tCons (tVar 3) (tCons (tVar 5) tNil)))) rfl nd rfl rfl (sw_true rfl rfl rfl (by decide +kernel)) (pi_range1 (by rfl) T.n_range (pa_cons (pe_ix ix_tup (pv 3) pe_int (fun _ _ => rfl)) pa_nil)) (blkOk_by (N := ["script", "pot", "turn", "web", "chances", "house", "size", "most", "names", "wide", "far"]) (sc := defScope s_law) (by decide +kernel)) (fun _ _ _ _ _ => (pg_name (i := 5) nd rfl (.inl rfl))) (fun _ _ _ _ _ => pts_nil) (fun _ _ _ _ _ => (pe_call (E := E0) G_chance_in (hr.mono (by decide)) (by rfl) T.g_chance_in T.F_chance_in.kp T.b_chance_in .nil passN (pa_cons (pv 3) (pa_cons (pv 5) pa_nil)))))
      (pss_cons (ps_for PassesOwn.never rfl (pi_range1 (by rfl) T.n_range (pa_cons (pe_ix ix_tup (pv 3) pe_int (fun _ _ => rfl)) pa_nil)) (pg_name (i := 5) nd rfl (.inl rfl)) (pss_one (ps_if (pt_not (pt_val (pe_call G__law_at_most (hr.mono (by decide)) (by rfl) T.g__law_at_most T.F__law_at_most.kp T.b__law_at_most .nil pass0 (pa_cons (pe_tup (pa_cons pe_int (pa_cons (pe_op op_add pe_int (pe_callB (id := "len") call_len_seq (by rfl) T.n_len PySem.boot_len (pa_cons (pe_call (E := E0) G_tied_to (hr.mono (by decide)) (by rfl) T.g_tied_to T.F_tied_to.kp T.b_tied_to .nil passN (pa_cons (pv 3) (pa_cons (pv 5) pa_nil))) pa_nil))) pa_nil))) (pa_cons (pe_ix ix_list (pv 4) (pv 5) (fun _ _ => rfl)) pa_nil))))) (pss_one (ps_ret pe_bl)) pss_nil)))
      (pss_cons (ps_set (i := 6) nd rfl (.inl rfl) (pe_call G_mean_size (hr.mono (by decide)) (by rfl) T.g_mean_size T.F_mean_size.kp T.b_mean_size .nil pass0 (pa_cons (pv 3) pa_nil)))
      (pss_cons (ps_if (PW.pt (pw_or (pt_cmpR (op_neD hr.units) (pe_call G__law_added (hr.mono (by decide)) (by rfl) T.g__law_added T.F__law_added.kp T.b__law_added .nil pass0 (pa_cons (pv 4) pa_nil)) (pv 6) (nomark _)) (pw_or1 (pt_not (pt_val (pe_call G__law_at_most (hr.mono (by decide)) (by rfl) T.g__law_at_most T.F__law_at_most.kp T.b__law_at_most .nil pass0 (pa_cons (pe_tup (pa_cons (pe_callB (id := "len") call_len_seq (by rfl) T.n_len PySem.boot_len (pa_cons (pe_ix ix_tup (pv 3) pe_int (fun _ _ => rfl)) pa_nil)) (pa_cons pe_int pa_nil))) (pa_cons (pe_call G_mean_gone (hr.mono (by decide)) (by rfl) T.g_mean_gone T.F_mean_gone.kp T.b_mean_gone .nil pass0 (pa_cons (pv 3) pa_nil)) pa_nil)))))))) (pss_one (ps_ret pe_bl)) pss_nil)
      (pss_cons (ps_asg (pe_call G_most_latest (hr.mono (by decide)) (by rfl) T.g_most_latest T.F_most_latest.kp T.b_most_latest .nil pass0 (pa_cons (pv 3) pa_nil)) (pg_tup rfl (pgs_cons (pg_name (i := 7) nd rfl (.inl rfl)) (pgs_cons (pg_name (i := 8) nd rfl (.inl rfl)) pgs_nil))))
      (pss_cons (ps_if (PW.pt (pw_or (pt_cmpR op_ne (pe_call G_latest_by (hr.mono (by decide)) (by rfl) T.g_latest_by T.F_latest_by.kp T.b_latest_by .nil pass0 (pa_cons (pv 3) (pa_cons (pe_callTy call_listN (by rfl) T.n_list (by decide +kernel) (pa_cons (pv 8) pa_nil)) pa_nil))) (pv 7) (nomark _)) (pw_or1 (pt_not (pt_val (pe_call G__law_at_most (hr.mono (by decide)) (by rfl) T.g__law_at_most T.F__law_at_most.kp T.b__law_at_most .nil pass0 (pa_cons (pe_call G_mean_latest (hr.mono (by decide)) (by rfl) T.g_mean_latest T.F_mean_latest.kp T.b_mean_latest .nil pass0 (pa_cons (pv 3) pa_nil)) (pa_cons (pe_tup (pa_cons (pv 7) (pa_cons pe_int pa_nil))) pa_nil)))))))) (pss_one (ps_ret pe_bl)) pss_nil)
      (pss_cons (ps_if (PW.pt (pw_or (pt_not (pt_val (pe_call G__law_at_most (hr.mono (by decide)) (by rfl) T.g__law_at_most T.F__law_at_most.kp T.b__law_at_most .nil pass0 (pa_cons (pe_tup (pa_cons pe_int (pa_cons pe_int pa_nil))) (pa_cons (pe_call G_mean_latest (hr.mono (by decide)) (by rfl) T.g_mean_latest T.F_mean_latest.kp T.b_mean_latest .nil pass0 (pa_cons (pv 3) pa_nil)) pa_nil))))) (pw_or1 (pt_not (pt_val (pe_call G__law_same_turned (hr.mono (by decide)) (by rfl) T.g__law_same_turned T.F__law_same_turned.kp T.b__law_same_turned .nil pass0 (pa_cons (pv 3) (pa_cons (pe_call G__law_places (hr.mono (by decide)) (by rfl) T.g__law_places T.F__law_places.kp T.b__law_places .nil pass0 (pa_cons (pv 1) (pa_cons (pe_ix ix_tup (pv 3) pe_int (fun _ _ => rfl)) pa_nil))) pa_nil)))))))) (pss_one (ps_ret pe_bl)) pss_nil)
      (pss_cons (ps_set (i := 9) nd rfl (.inl rfl) (pe_tup (pa_cons (pe_op op_add (pe_ix ix_tup (pv 3) pe_int (fun _ _ => rfl)) pe_int) (pa_cons (pe_ix ix_tup (pv 3) pe_int (fun _ _ => rfl)) pa_nil))))
      (pss_cons (ps_if (PW.pt (pw_or (pt_cmpR (op_neD hr.units) (pe_call G_mean_size (hr.mono (by decide)) (by rfl) T.g_mean_size T.F_mean_size.kp T.b_mean_size .nil pass0 (pa_cons (pv 9) pa_nil)) (pe_call G__law_added (hr.mono (by decide)) (by rfl) T.g__law_added T.F__law_added.kp T.b__law_added .nil pass0 (pa_cons (pe_lst (pa_cons (pv 6) (pa_cons (pe_tup (pa_cons pe_int (pa_cons pe_int pa_nil))) pa_nil))) pa_nil)) (nomark _)) (pw_or1 (pt_cmpR op_ne (pe_ix ix_tup (pe_call G_most_latest (hr.mono (by decide)) (by rfl) T.g_most_latest T.F_most_latest.kp T.b_most_latest .nil pass0 (pa_cons (pv 9) pa_nil)) pe_int (fun _ _ => rfl)) (pv 7) (nomark _))))) (pss_one (ps_ret pe_bl)) pss_nil)
      (pss_cons (ps_set (i := 10) nd rfl (.inl rfl) (pe_lst (pa_cons (pe_op op_add (pe_ix ix_tup (pv 3) pe_int (fun _ _ => rfl)) (pe_call G__law_pick (hr.mono (by decide)) (by rfl) T.g__law_pick T.F__law_pick.kp T.b__law_pick .nil pass0 (pa_cons (pv 1) (pa_cons pe_int pa_nil)))) (pa_cons (pe_op op_sub (pe_un un_neg pe_int) (pe_call G__law_pick (hr.mono (by decide)) (by rfl) T.g__law_pick T.F__law_pick.kp T.b__law_pick .nil pass0 (pa_cons (pv 1) (pa_cons (pe_op op_pow pe_int pe_int) pa_nil)))) pa_nil))))
      (pss_one (ps_for PassesOwn.never rfl (pi_list (pe_op op_cat (pe_lst (pa_cons (pe_un un_neg pe_int) (pa_cons (pe_un un_neg pe_int) (pa_cons (pe_ix ix_tup (pv 3) pe_int (fun _ _ => rfl)) (pa_cons (pe_op op_pow pe_int pe_int) (pa_cons (pe_op op_sub pe_int (pe_ix ix_tup (pv 3) pe_int (fun _ _ => rfl))) pa_nil)))))) (pv 10))) (pg_name (i := 5) nd rfl (.inl rfl)) (pss_cons (ps_if (pt_cmpR op_ne (pe_call G__law_refused (hr.mono (by decide)) (by rfl) T.g__law_refused T.F__law_refused.kp T.b__law_refused .nil pass0 (pa_cons (pv 3) (pa_cons (pv 5) pa_nil))) pe_str (nomark _)) (pss_one (ps_ret pe_bl)) pss_nil)
      (pss_one (ps_if (pt_cmpR op_ne (pe_call G__law_refused (hr.mono (by decide)) (by rfl) T.g__law_refused T.F__law_refused.kp T.b__law_refused .nil pass0 (pa_cons (pe_tup (pa_cons (pe_ix ix_list (pe_lst (pa_cons pe_int (pa_cons pe_int pa_nil))) (pe_call G__law_pick (hr.mono (by decide)) (by rfl) T.g__law_pick T.F__law_pick.kp T.b__law_pick .nil pass0 (pa_cons (pv 1) (pa_cons pe_int pa_nil))) (fun _ _ => rfl)) (pa_cons (pe_ix ix_tup (pv 3) pe_int (fun _ _ => rfl)) pa_nil))) (pa_cons (pe_op op_add (pv 5) (pe_op op_mul pe_int (pe_callTy call_int1 (by rfl) T.n_int (by decide +kernel) (pa_cons (pe_cmpR op_gt (pv 5) pe_int (nomark _)) pa_nil)))) pa_nil))) pe_str (nomark _)) (pss_one (ps_ret pe_bl)) pss_nil)))))))))))))))))
      (pss_one (ps_ret pe_bl)))), ?_⟩
    walk_at "rd"
    refine r_callF S ns ⟨a, rfl, hS, hn⟩ ?_
    rintro v N F1 H1 S e1 ⟨p, rfl, rfl⟩
    walk_at "rd"
    refine ⟨3, rfl, by omega, by omega, ?_⟩
    refine s_forR (fun i σ' F' M' => ∃ x2 x3 x4 x5 x6 x7 x8 x9 x10 : Option V, σ' = [some (.ref a), some (.ref p), x2, x3, x4, x5, x6, x7, x8, x9, x10] ∧ M' = [(p, .pot)]) S ⟨none, none, none, none, none, none, none, none, none, rfl, rfl⟩ ?_ ?_
    · rintro i σ' F2 H2 M' hi S e2 ⟨x2, x3, x4, x5, x6, x7, x8, x9, x10, rfl, rfl⟩
      walk_at "rd"
      refine r_callP S 0 rfl 4 ⟨rfl, by omega, by omega⟩ ?_
      rintro v N F3 H3 S e3 ⟨rfl, many, ties, m4, W, hw⟩
      have m1 := W.lo
      have W4 := web4 W m4
      have hw0 := hw
      obtain ⟨wa, wb, ws, rfl, z1, z2, z3⟩ := webD_at hw
      have wl := (dpAll_get z3).1
      rw [List.length_map] at wl
      have E3 := e2.trans e3
      clear e2 e3
      walk_at "rd"
      refine ⟨many, rfl, by omega, by omega, ?_⟩
      refine s_lcD (K := K) (srcRG (n := many)) (fun _ => true) (fun h => tieD (meanF many ties (chF h))) S (by rw [rgI_len]; omega) (fun m hm => by cases hm) ?_ ?_
      · rintro j h x acc D F4 H4 t S e4 rfl
        have hh := rgI_mem.mp (List.mem_of_getElem? t.at')
        walk_at "rd"
        refine ⟨rfl, ?_⟩
        walk_at "rd"
        refine r_callX S (many, ties, h) ⟨⟨_, rfl, Dp.ex e4 _ _ hw0, W⟩, fun _ => by show many ≤ 6; omega⟩ ?_ ?_
        · rintro v N F5 H5 S e5 ⟨_, rfl, d5⟩
          exact t.put S (e4.trans e5) e5 rfl d5
        · rintro c d F7 H7 S e7 ⟨_, _, z⟩
          exact absurd hh z
      intro D acc F4 H4 S e4 dch
      rw [List.filter_eq_self.mpr (fun _ _ => rfl)] at dch
      obtain ⟨F5, S, e5, cD⟩ := S.frz 0 rfl
      have dch := DpAll.ex e5 _ _ dch
      have cl := (dpAll_get dch).1
      rw [List.length_map, rgI_len] at cl
      have hw := Dp.ex (e4.trans e5) _ _ hw0
      have E5 := E3.trans (e4.trans e5)
      have z1 := Evl.ex_t (e4.trans e5) z1
      have z2 := Evl.ex_t (e4.trans e5) z2
      have z3 := DpAll.ex (e4.trans e5) _ _ z3
      clear e4 e5 E3
      walk_at "rd"
      refine ⟨many, rfl, by omega, by omega, ?_⟩
      refine s_forR (fun j σ' F' M' => ∃ y5 : Option V, σ' = [some (.ref a), some (.ref p), some (.int (0 + (i : Int))), some (.ref wa), some (.ref D), y5, x6, x7, x8, x9, x10] ∧ M' = [(p, .pot)]) S ⟨_, rfl, rfl⟩ ?_ ?_
      · rintro j σ' F6 H6 M' hj S e6 ⟨y5, rfl, rfl⟩
        rw [show (0 : Int) + (j : Int) = (j : Int) by omega]
        have hcj := W4.ch (j : Int) (by omega) (by omega)
        have scj := W4.sch (j : Int) (by omega) (by omega)
        obtain ⟨xc, ec, dc⟩ := dpAll_at dch (i := j) (d := tieD (meanF many ties (chF (j : Int)))) (by rw [List.getElem?_map, rgI_get (by omega)]; rfl)
        have ax : atI acc (j : Int) = some xc := atI_of (by omega) (by rw [Int.toNat_natCast]; exact ec)
        walk_at "rd"
        refine r_callX S (many, ties, (j : Int)) ⟨_, rfl, Dp.ex e6 _ _ hw, W⟩ ?_ ?_
        · rintro v N F7 H7 S e7 ⟨rfl, _, r, rfl, cr⟩
          have nl := nbr_len W (j : Int)
          walk_at "rd"
          rw [List.length_map]
          refine ⟨by show 2 ≤ sizeLine; decide, s_new S fun q1 F8 H8 S e8 c8 => ?_⟩
          walk_at "rd"
          have s1 := scj.a0
          have s2 := scj.a1
          refine r_callF S ((1, 1 + ((nbr ties (j : Int)).length : Int)), meanF many ties (chF (j : Int))) ⟨_, _, rfl, .tup (SqT.of c8) (.cons (.int _) (.cons (.int _) .nil)), Dp.ex (e6.trans (e7.trans e8)) _ _ dc, by simp only; omega, by simp only; omega⟩ ?_
          rintro v N F9 H9 S e9 ⟨rfl, rfl⟩
          rw [decide_eq_true hcj]
          walk_at "rd"
          exact ⟨_, _, S, e6.trans (e7.trans (e8.trans e9)), _, rfl, rfl⟩
        · rintro c d F7 H7 S e7 ⟨_, _, z⟩
          exact absurd ⟨by show 0 ≤ (j : Int); omega, by show (j : Int) < many; omega⟩ z
      rintro σ' F6 H6 M' S e6 ⟨y5, rfl, rfl⟩
      walk_at "rd"
      refine r_callF S (many, ties) ⟨_, rfl, Dp.ex e6 _ _ hw, W, by omega⟩ ?_
      rintro vs' N F7 H7 S e7 ⟨rfl, dsz⟩
      have dsz : Dp K F7 vs' (tieD (meanF many ties szF)) := dsz
      walk_at "rd"
      refine r_callF S ((rgI many).map fun h => meanF many ties (chF h)) ⟨D, acc, rfl, SqL.of ((e6.trans e7) _ _ cD), by rw [List.map_map]; exact DpAll.ex (e6.trans e7) _ _ dch, fun f hf => by
        obtain ⟨h, hh, rfl⟩ := List.mem_map.mp hf
        have := rgI_mem.mp hh
        exact W4.sch h this.1 this.2, by rw [List.length_map, rgI_len]; omega⟩ ?_
      rintro v N F8 H8 S e8 ⟨rfl, d8⟩
      rw [W4.add] at d8
      walk_at "rd"
      refine r_neSameD (Dp.ex S.fr _ _ d8) (Dp.ex S.fr _ _ (Dp.ex e8 _ _ dsz)) (shaped_tie _) ?_
      have E8 := e6.trans (e7.trans e8)
      have dsz := Dp.ex e8 _ _ dsz
      have hw := Dp.ex E8 _ _ hw
      have z1 := Evl.ex_t E8 z1
      have z2 := Evl.ex_t E8 z2
      have z3 := DpAll.ex E8 _ _ z3
      have E8 := E5.trans E8
      clear e6 e7 e8 d8 dch cD E5 hw0
      walk_at "rd"
      rw [wl]
      refine ⟨by show 2 ≤ sizeLine; decide, s_new S fun q1 F9 H9 S e9 c9 => ?_⟩
      walk_at "rd"
      refine r_callF S (many, ties) ⟨_, rfl, Dp.ex e9 _ _ hw, W, by omega⟩ ?_
      rintro v N FA HA S eA ⟨rfl, dA⟩
      have dA : Dp K FA v (tieD (meanF many ties (goneF ties))) := dA
      have g1 := W4.sgone.a0
      have g2 := W4.sgone.a1
      have tl := ties_len W
      walk_at "rd"
      refine r_callF S (((ties.length : Int), 2), meanF many ties (goneF ties)) ⟨_, _, rfl, .tup (SqT.of (eA _ _ c9)) (.cons (.int _) (.cons (.int _) .nil)), dA, by simp only; omega, by simp only; omega⟩ ?_
      rintro v N FB HB S eB ⟨rfl, rfl⟩
      rw [decide_eq_true W4.gone]
      have EB := e9.trans (eA.trans eB)
      have hw := Dp.ex EB _ _ hw
      have dsz := Dp.ex EB _ _ dsz
      have z1 := Evl.ex_t EB z1
      have z2 := Evl.ex_t EB z2
      have z3 := DpAll.ex EB _ _ z3
      have EB := E8.trans EB
      clear E8 e9 eA eB c9 dA
      walk_at "rd"
      refine r_callF S (many, ties) ⟨_, rfl, hw, W, by omega⟩ ?_
      rintro v N FC HC S eC ⟨tq, gq, m, mns, rfl, cC, rfl, r1, r2, r3⟩
      have em := most_eq r1 r2 r3
      have nk := lawI_ok (n := many) (by omega) (by omega) r1
      obtain ⟨FD, S, eD, cg⟩ := S.frz 0 rfl
      have cC := eD _ _ cC
      walk_at "rd"
      refine s_new S fun l1 FE HE S eE cE => ?_
      have ECE := eC.trans (eD.trans eE)
      walk_at "rd"
      refine r_callF S (many, ties, mns) ⟨_, _, rfl, Dp.ex ECE _ _ hw, W, dp_intsD (SqL.of cE), nk⟩ ?_
      rintro v N FF HF S eF ⟨rfl, rfl⟩
      walk_at "rd"
      refine iteRF (by
        have : maxDf 0 ((rowsOf many ties mns).map fun r => r.2) = m := r2
        rw [this]
        simp) ?_
      walk_at "rd"
      refine r_callF S (many, ties) ⟨_, rfl, Dp.ex (ECE.trans eF) _ _ hw, W, by omega⟩ ?_
      rintro v N FG HG S eG ⟨rfl, dG⟩
      have dG : Dp K FG v (tieD (meanF many ties latF)) := dG
      walk_at "rd"
      refine ⟨by show 2 ≤ sizeLine; decide, s_new S fun q2 FH HH S eH cH => ?_⟩
      walk_at "rd"
      have l1' := W4.slat.a0
      have l2' := W4.slat.a1
      have sm := W4.smost
      rw [← em] at sm
      refine r_callF S (meanF many ties latF, (m, 1)) ⟨_, _, rfl, Dp.ex eH _ _ dG, .tup (SqT.of cH) (.cons (.int _) (.cons (.int _) .nil)), by simp only; omega, by simp only; omega⟩ ?_
      rintro v N FI HI S eI ⟨rfl, rfl⟩
      rw [decide_eq_true (by show (meanF many ties latF).1 * 1 ≤ m * (meanF many ties latF).2; rw [em]; exact W4.lat)]
      have EI := ECE.trans (eF.trans (eG.trans (eH.trans eI)))
      have hw := Dp.ex EI _ _ hw
      have dsz := Dp.ex EI _ _ dsz
      have z1 := Evl.ex_t EI z1
      have z2 := Evl.ex_t EI z2
      have z3 := DpAll.ex EI _ _ z3
      have EI := EB.trans EI
      clear EB eC eD eE eF eG eH eI ECE cC cg cE cH dG
      walk_at "rd"
      refine ⟨by show 2 ≤ sizeLine; decide, s_new S fun q3 FJ HJ S eJ cJ => ?_⟩
      walk_at "rd"
      refine r_callF S (many, ties) ⟨_, rfl, Dp.ex eJ _ _ hw, W, by omega⟩ ?_
      rintro v N FK HK S eK ⟨rfl, dK⟩
      have dK : Dp K FK v (tieD (meanF many ties latF)) := dK
      walk_at "rd"
      refine r_callF S ((1, 1), meanF many ties latF) ⟨_, _, rfl, .tup (SqT.of (eK _ _ cJ)) (.cons (.int _) (.cons (.int _) .nil)), dK, by simp only; omega, by simp only; omega⟩ ?_
      rintro v N FL HL S eL ⟨rfl, rfl⟩
      rw [decide_eq_true (show (1 : Int) * (meanF many ties latF).2 ≤ (meanF many ties latF).1 * 1 from W4.lat1)]
      have EL := eJ.trans (eK.trans eL)
      have z1 := Evl.ex_t EL z1
      have z2 := Evl.ex_t EL z2
      have z3 := DpAll.ex EL _ _ z3
      walk_at "rd"
      refine r_callP S 0 rfl many ⟨rfl, by omega, by omega⟩ ?_
      rintro v N FM HM S eM ⟨pq, pl, rfl, rfl, pp⟩
      obtain ⟨FN, S, eN, cN⟩ := S.frz 0 rfl
      have hw := Dp.ex (EL.trans (eM.trans eN)) _ _ hw
      have dsz := Dp.ex (EL.trans (eM.trans eN)) _ _ dsz
      have z1 := Evl.ex_t (eM.trans eN) z1
      have z2 := Evl.ex_t (eM.trans eN) z2
      have z3 := DpAll.ex (eM.trans eN) _ _ z3
      walk_at "rd"
      refine r_callF S (many, ties, pl) ⟨_, pq, rfl, hw, W, m4, SqL.of cN, pp⟩ ?_
      rintro v N FO HO' S eO ⟨rfl, rfl⟩
      have EO := EI.trans (EL.trans (eM.trans (eN.trans eO)))
      have hw := Dp.ex eO _ _ hw
      have dsz := Dp.ex eO _ _ dsz
      have z1 := Evl.ex_t eO z1
      have z2 := Evl.ex_t eO z2
      have z3 := DpAll.ex eO _ _ z3
      clear EI eJ eK eL EL eM eN eO cJ dK cN
      walk_at "rd"
      refine ⟨by show 2 ≤ sizeLine; decide, s_new S fun wi FP HP S eP cP => ?_⟩
      have z3' : DpAll K FP ws (ties.map tieD) := DpAll.ex eP _ _ z3
      have Ww : WebOk (many + 1) ties := ⟨by omega, by omega, fun t ht => by have := W.ok t ht; omega, W.up⟩
      have hww : Dp K FP (.ref wi) (webD (many + 1) ties) := web_dp (SqT.of cP) (Evl.ex_t eP z2) z3'
      walk_at "rd"
      refine r_callF S (many + 1, ties) ⟨_, rfl, hww, Ww, by omega⟩ ?_
      rintro v N FQ HQ S eQ ⟨rfl, dQ⟩
      have dQ : Dp K FQ v (tieD (meanF (many + 1) ties szF)) := dQ
      walk_at "rd"
      refine ⟨by show 2 ≤ sizeLine; decide, s_new S fun q4 FR HR S eR cR => ?_⟩
      walk_at "rd"
      refine ⟨by show 2 ≤ sizeLine; decide, s_new S fun q5 FS HS S eS cS => ?_⟩
      walk_at "rd"
      refine r_callF S [meanF many ties szF, (1, 1)] ⟨q5, _, rfl, SqL.of cS, .cons (Dp.ex (eP.trans (eQ.trans (eR.trans eS))) _ _ dsz) (.cons (.tup (SqT.of (eS _ _ cR)) (.cons (.int _) (.cons (.int _) .nil))) .nil), fun f hf => by
        rcases List.mem_cons.mp hf with rfl | hf
        · exact W4.ssz
        · rw [List.mem_singleton.mp hf]
          exact ⟨by decide, by decide, by decide, by decide⟩, by show 2 ≤ 5; decide⟩ ?_
      rintro v N FT HT S eT ⟨rfl, dT⟩
      rw [← W4.wide] at dT
      walk_at "rd"
      refine r_neSameD (Dp.ex S.fr _ _ (Dp.ex (eR.trans (eS.trans eT)) _ _ dQ)) (Dp.ex S.fr _ _ dT) (shaped_tie _) ?_
      have ET := eQ.trans (eR.trans (eS.trans eT))
      clear eQ eR eS eT cR cS dQ dT
      walk_at "rd"
      refine r_callF S (many + 1, ties) ⟨_, rfl, Dp.ex ET _ _ hww, Ww, by omega⟩ ?_
      rintro v N FU HU S eU ⟨tu, gu, mu, uns, rfl, cU, rfl, r4, r5, r6⟩
      have emu := most_eq r4 r5 r6
      rw [W4.wmost, ← em] at emu
      subst emu
      have S := S.drop 0
      walk_at "rd"
      refine iteRF (by simp) ?_
      have EU := eP.trans (ET.trans eU)
      have hw := Dp.ex EU _ _ hw
      have z1 := Evl.ex_t EU z1
      have z2 := Evl.ex_t EU z2
      have z3 := DpAll.ex EU _ _ z3
      have z3'' := DpAll.ex (ET.trans eU) _ _ z3'
      have EU := EO.trans EU
      clear EO eP ET eU cP cU hww dsz z3'
      walk_at "rd"
      refine r_callP S 0 rfl 100 ⟨rfl, by omega, small_up (by omega) (by omega)⟩ fun v N FV HV S eV ⟨z, n1, ev, n10, n11⟩ => ?_
      subst z ev
      walk_at "rd"
      refine r_callP S 0 rfl (10 ^ (30 : Int).toNat) ⟨rfl, by decide, by decide⟩ fun v N FW HW S eW ⟨z, n2, ev, n20, n21⟩ => ?_
      subst z ev
      walk_at "rd"
      refine ⟨by show 2 ≤ sizeLine; decide, s_new S fun fq FX HX S eX cX => ?_⟩
      have EX := eV.trans (eW.trans eX)
      have z1 := Evl.ex_t EX z1
      walk_at "rd"
      refine ⟨by show 5 ≤ sizeLine; decide, s_new S fun gq2 FY HY S eY cY => ?_⟩
      walk_at "rd"
      refine s_cat (S.fr _ _ cY) (S.fr _ _ (eY _ _ cX)) (by show 5 + 2 ≤ 100000; decide) (s_new S fun hq FZ HZ S eZ cZ => ?_)
      have EZ := EX.trans (eY.trans eZ)
      have hw := Dp.ex EZ _ _ hw
      have z1 := Evl.ex_t (eY.trans eZ) z1
      have z2 := Evl.ex_t EZ z2
      have z3 := DpAll.ex EZ _ _ z3
      have z3'' := DpAll.ex EZ _ _ z3''
      have EZ := EU.trans EZ
      clear EU EX eV eW eX eY eZ cX cY
      refine ⟨hq, rfl, ⟨_, by walk_at "hl"⟩, ?_⟩
      have big : (60 : Int) < 10 ^ (30 : Int).toNat := by decide
      refine s_for (fun j σ' F' M' => ∃ y5 : Option V, σ' = [some (.ref a), some (.ref p), some (.int (0 + (i : Int))), some (.ref wa), some (.ref D), y5, some vs', some (.int mu), some (.ref gq), some (.ref wi), some (.ref fq)] ∧ M' = [(p, .pot)]) (srcI (K := K) (ns := [-1, -2, many, 10 ^ (30 : Int).toNat, 0 - many, many + n1, -1 - n2]) (SqL.of cZ)) S ⟨_, rfl, rfl⟩ (fun _ _ _ _ _ m hm => by cases hm) ?_ ?_
      · rintro j h x σ' F10 F11 H11 M' hj S e10 e11 rfl ⟨y5, rfl, rfl⟩
        have hm := List.mem_of_getElem? hj
        have ho : h < 0 ∨ many ≤ h := by
          simp only [List.mem_cons, List.not_mem_nil, or_false] at hm
          rcases hm with e | e | e | e | e | e | e <;> omega
        have out : ¬ inW (many, ties, h) := by
          rintro ⟨o1, o2⟩
          simp only at o1 o2
          omega
        have e11' := e10.trans e11
        walk_at "rd"
        refine r_callF S (many, ties, h) ⟨⟨_, rfl, Dp.ex e11' _ _ hw, W⟩, out⟩ ?_
        rintro v N F12 H12 S e12 ⟨rfl, rfl⟩
        have z1 := Evl.ex_t (e11'.trans e12) z1
        have z2 := Evl.ex_t (e11'.trans e12) z2
        have z3 := DpAll.ex (e11'.trans e12) _ _ z3
        have z3'' := DpAll.ex (e11'.trans e12) _ _ z3''
        walk_at "rd"
        refine ⟨by show 2 ≤ sizeLine; decide, s_new S fun q6 F13 H13 S e13 c13 => ?_⟩
        have c13' := c13
        walk_at "rd"
        refine r_callP S 0 rfl 2 ⟨rfl, by omega, small_up (by omega) (by omega)⟩ fun v N F14 H14 S e14 ⟨z, n3, ev, n30, n31⟩ => ?_
        subst z ev
        obtain ⟨c, hc, hc5, hc6⟩ : ∃ c : Int, atI [V.int 5, V.int 6] n3 = some (.int c) ∧ 5 ≤ c ∧ c ≤ 6 := by
          rcases (show n3 = 0 ∨ n3 = 1 by omega) with e | e <;> subst e
          · exact ⟨5, rfl, by omega, by omega⟩
          · exact ⟨6, rfl, by omega, by omega⟩
        have z1 := Evl.ex_t (e13.trans e14) z1
        walk_at "rd"
        refine ⟨by show 2 ≤ sizeLine; decide, s_new S fun w5 F15 H15 S e15 c15 => ?_⟩
        have E15 := e13.trans (e14.trans e15)
        have Wc : WebOk c ties := ⟨by omega, by omega, fun t ht => by have := W.ok t ht; omega, W.up⟩
        have hwc : Dp K F15 (.ref w5) (webD c ties) := web_dp (SqT.of c15) (Evl.ex_t E15 z2) (DpAll.ex E15 _ _ z3'')
        walk_at "rd"
        refine .inr ⟨_, rfl, ?_⟩
        walk_at "rd"
        refine r_callF S (c, ties, h + 6 * (if decide (0 < h) = true then 1 else 0)) ⟨⟨_, rfl, hwc, Wc⟩, out5 m1 hc6 ho⟩ ?_
        rintro v N F16 H16 S e16 ⟨rfl, rfl⟩
        walk_at "rd"
        exact ⟨_, _, S, e10.trans (e11.trans (e12.trans (E15.trans e16))), _, rfl, rfl⟩
      · rintro σ' F10 H10 M' S e10 ⟨y5, rfl, rfl⟩
        exact ⟨_, _, S, EZ.trans e10, _, _, _, _, _, _, _, _, _, rfl, rfl⟩
    · rintro σ' F2 H2 M' S e2 ⟨x2, x3, x4, x5, x6, x7, x8, x9, x10, rfl, rfl⟩
      walk_at "rd"
      exact k _

end

end
theorem all_mk {w : World} {K : PySem.W.Frag} {h : Heap} {mg : Str → Option Value} {fa : Addr} (X : K.In h) (G : h.Ns mainGlobals mg) (hfa : mg "law" = some (.ref fa))
    {f0 : Addr} {od0 an0 : Option Addr} {sl0 : Array (Option Value)} {oc0 kV0 dc0 pm0 cd0 ct0 : Value}
    (a0 : PySem.W.nsIn K mainGlobals "fraction_of" = some (some (.ref f0))) (l0 : K.lookup f0 = some ⟨oc0, od0, .func (PySem.W.fnOf "fraction_of" "fraction_of" (defArgs s_fraction_of) (defBody s_fraction_of) (defScope s_fraction_of) .none kV0 dc0 pm0 an0 cd0 ct0), sl0⟩) (c0 : PySem.W.codeIn K cd0 "fraction_of" = true) (k0 : PySem.W.keepIn K (.ref f0) = true)
    {f1 : Addr} {od1 an1 : Option Addr} {sl1 : Array (Option Value)} {oc1 kV1 dc1 pm1 cd1 ct1 : Value}
    (a1 : PySem.W.nsIn K mainGlobals "is_whole" = some (some (.ref f1))) (l1 : K.lookup f1 = some ⟨oc1, od1, .func (PySem.W.fnOf "is_whole" "is_whole" (defArgs s_is_whole) (defBody s_is_whole) (defScope s_is_whole) .none kV1 dc1 pm1 an1 cd1 ct1), sl1⟩) (c1 : PySem.W.codeIn K cd1 "is_whole" = true) (k1 : PySem.W.keepIn K (.ref f1) = true)
    {f2 : Addr} {od2 an2 : Option Addr} {sl2 : Array (Option Value)} {oc2 kV2 dc2 pm2 cd2 ct2 : Value}
    (a2 : PySem.W.nsIn K mainGlobals "neighbours" = some (some (.ref f2))) (l2 : K.lookup f2 = some ⟨oc2, od2, .func (PySem.W.fnOf "neighbours" "neighbours" (defArgs s_neighbours) (defBody s_neighbours) (defScope s_neighbours) .none kV2 dc2 pm2 an2 cd2 ct2), sl2⟩) (c2 : PySem.W.codeIn K cd2 "neighbours" = true) (k2 : PySem.W.keepIn K (.ref f2) = true)
    {f3 : Addr} {od3 an3 : Option Addr} {sl3 : Array (Option Value)} {oc3 kV3 dc3 pm3 cd3 ct3 : Value}
    (a3 : PySem.W.nsIn K mainGlobals "refuse_no_house" = some (some (.ref f3))) (l3 : K.lookup f3 = some ⟨oc3, od3, .func (PySem.W.fnOf "refuse_no_house" "refuse_no_house" (defArgs s_refuse_no_house) (defBody s_refuse_no_house) (defScope s_refuse_no_house) .none kV3 dc3 pm3 an3 cd3 ct3), sl3⟩) (c3 : PySem.W.codeIn K cd3 "refuse_no_house" = true) (k3 : PySem.W.keepIn K (.ref f3) = true)
    {f4 : Addr} {od4 an4 : Option Addr} {sl4 : Array (Option Value)} {oc4 kV4 dc4 pm4 cd4 ct4 : Value}
    (a4 : PySem.W.nsIn K mainGlobals "tied_to" = some (some (.ref f4))) (l4 : K.lookup f4 = some ⟨oc4, od4, .func (PySem.W.fnOf "tied_to" "tied_to" (defArgs s_tied_to) (defBody s_tied_to) (defScope s_tied_to) .none kV4 dc4 pm4 an4 cd4 ct4), sl4⟩) (c4 : PySem.W.codeIn K cd4 "tied_to" = true) (k4 : PySem.W.keepIn K (.ref f4) = true)
    {f5 : Addr} {od5 an5 : Option Addr} {sl5 : Array (Option Value)} {oc5 kV5 dc5 pm5 cd5 ct5 : Value}
    (a5 : PySem.W.nsIn K mainGlobals "refuse_alike" = some (some (.ref f5))) (l5 : K.lookup f5 = some ⟨oc5, od5, .func (PySem.W.fnOf "refuse_alike" "refuse_alike" (defArgs s_refuse_alike) (defBody s_refuse_alike) (defScope s_refuse_alike) .none kV5 dc5 pm5 an5 cd5 ct5), sl5⟩) (c5 : PySem.W.codeIn K cd5 "refuse_alike" = true) (k5 : PySem.W.keepIn K (.ref f5) = true)
    {f6 : Addr} {od6 an6 : Option Addr} {sl6 : Array (Option Value)} {oc6 kV6 dc6 pm6 cd6 ct6 : Value}
    (a6 : PySem.W.nsIn K mainGlobals "latest_of" = some (some (.ref f6))) (l6 : K.lookup f6 = some ⟨oc6, od6, .func (PySem.W.fnOf "latest_of" "latest_of" (defArgs s_latest_of) (defBody s_latest_of) (defScope s_latest_of) .none kV6 dc6 pm6 an6 cd6 ct6), sl6⟩) (c6 : PySem.W.codeIn K cd6 "latest_of" = true) (k6 : PySem.W.keepIn K (.ref f6) = true)
    {f7 : Addr} {od7 an7 : Option Addr} {sl7 : Array (Option Value)} {oc7 kV7 dc7 pm7 cd7 ct7 : Value}
    (a7 : PySem.W.nsIn K mainGlobals "row_by" = some (some (.ref f7))) (l7 : K.lookup f7 = some ⟨oc7, od7, .func (PySem.W.fnOf "row_by" "row_by" (defArgs s_row_by) (defBody s_row_by) (defScope s_row_by) .none kV7 dc7 pm7 an7 cd7 ct7), sl7⟩) (c7 : PySem.W.codeIn K cd7 "row_by" = true) (k7 : PySem.W.keepIn K (.ref f7) = true)
    {f8 : Addr} {od8 an8 : Option Addr} {sl8 : Array (Option Value)} {oc8 kV8 dc8 pm8 cd8 ct8 : Value}
    (a8 : PySem.W.nsIn K mainGlobals "rows_along" = some (some (.ref f8))) (l8 : K.lookup f8 = some ⟨oc8, od8, .func (PySem.W.fnOf "rows_along" "rows_along" (defArgs s_rows_along) (defBody s_rows_along) (defScope s_rows_along) .none kV8 dc8 pm8 an8 cd8 ct8), sl8⟩) (c8 : PySem.W.codeIn K cd8 "rows_along" = true) (k8 : PySem.W.keepIn K (.ref f8) = true)
    {f9 : Addr} {od9 an9 : Option Addr} {sl9 : Array (Option Value)} {oc9 kV9 dc9 pm9 cd9 ct9 : Value}
    (a9 : PySem.W.nsIn K mainGlobals "rounds_by" = some (some (.ref f9))) (l9 : K.lookup f9 = some ⟨oc9, od9, .func (PySem.W.fnOf "rounds_by" "rounds_by" (defArgs s_rounds_by) (defBody s_rounds_by) (defScope s_rounds_by) .none kV9 dc9 pm9 an9 cd9 ct9), sl9⟩) (c9 : PySem.W.codeIn K cd9 "rounds_by" = true) (k9 : PySem.W.keepIn K (.ref f9) = true)
    {f10 : Addr} {od10 an10 : Option Addr} {sl10 : Array (Option Value)} {oc10 kV10 dc10 pm10 cd10 ct10 : Value}
    (a10 : PySem.W.nsIn K mainGlobals "latest_by" = some (some (.ref f10))) (l10 : K.lookup f10 = some ⟨oc10, od10, .func (PySem.W.fnOf "latest_by" "latest_by" (defArgs s_latest_by) (defBody s_latest_by) (defScope s_latest_by) .none kV10 dc10 pm10 an10 cd10 ct10), sl10⟩) (c10 : PySem.W.codeIn K cd10 "latest_by" = true) (k10 : PySem.W.keepIn K (.ref f10) = true)
    {f11 : Addr} {od11 an11 : Option Addr} {sl11 : Array (Option Value)} {oc11 kV11 dc11 pm11 cd11 ct11 : Value}
    (a11 : PySem.W.nsIn K mainGlobals "rows_of_orders" = some (some (.ref f11))) (l11 : K.lookup f11 = some ⟨oc11, od11, .func (PySem.W.fnOf "rows_of_orders" "rows_of_orders" (defArgs s_rows_of_orders) (defBody s_rows_of_orders) (defScope s_rows_of_orders) .none kV11 dc11 pm11 an11 cd11 ct11), sl11⟩) (c11 : PySem.W.codeIn K cd11 "rows_of_orders" = true) (k11 : PySem.W.keepIn K (.ref f11) = true)
    {f12 : Addr} {od12 an12 : Option Addr} {sl12 : Array (Option Value)} {oc12 kV12 dc12 pm12 cd12 ct12 : Value}
    (a12 : PySem.W.nsIn K mainGlobals "mean_of" = some (some (.ref f12))) (l12 : K.lookup f12 = some ⟨oc12, od12, .func (PySem.W.fnOf "mean_of" "mean_of" (defArgs s_mean_of) (defBody s_mean_of) (defScope s_mean_of) .none kV12 dc12 pm12 an12 cd12 ct12), sl12⟩) (c12 : PySem.W.codeIn K cd12 "mean_of" = true) (k12 : PySem.W.keepIn K (.ref f12) = true)
    {f13 : Addr} {od13 an13 : Option Addr} {sl13 : Array (Option Value)} {oc13 kV13 dc13 pm13 cd13 ct13 : Value}
    (a13 : PySem.W.nsIn K mainGlobals "gone_first" = some (some (.ref f13))) (l13 : K.lookup f13 = some ⟨oc13, od13, .func (PySem.W.fnOf "gone_first" "gone_first" (defArgs s_gone_first) (defBody s_gone_first) (defScope s_gone_first) .none kV13 dc13 pm13 an13 cd13 ct13), sl13⟩) (c13 : PySem.W.codeIn K cd13 "gone_first" = true) (k13 : PySem.W.keepIn K (.ref f13) = true)
    {f14 : Addr} {od14 an14 : Option Addr} {sl14 : Array (Option Value)} {oc14 kV14 dc14 pm14 cd14 ct14 : Value}
    (a14 : PySem.W.nsIn K mainGlobals "chance_in" = some (some (.ref f14))) (l14 : K.lookup f14 = some ⟨oc14, od14, .func (PySem.W.fnOf "chance_in" "chance_in" (defArgs s_chance_in) (defBody s_chance_in) (defScope s_chance_in) .none kV14 dc14 pm14 an14 cd14 ct14), sl14⟩) (c14 : PySem.W.codeIn K cd14 "chance_in" = true) (k14 : PySem.W.keepIn K (.ref f14) = true)
    {f15 : Addr} {od15 an15 : Option Addr} {sl15 : Array (Option Value)} {oc15 kV15 dc15 pm15 cd15 ct15 : Value}
    (a15 : PySem.W.nsIn K mainGlobals "mean_size" = some (some (.ref f15))) (l15 : K.lookup f15 = some ⟨oc15, od15, .func (PySem.W.fnOf "mean_size" "mean_size" (defArgs s_mean_size) (defBody s_mean_size) (defScope s_mean_size) .none kV15 dc15 pm15 an15 cd15 ct15), sl15⟩) (c15 : PySem.W.codeIn K cd15 "mean_size" = true) (k15 : PySem.W.keepIn K (.ref f15) = true)
    {f16 : Addr} {od16 an16 : Option Addr} {sl16 : Array (Option Value)} {oc16 kV16 dc16 pm16 cd16 ct16 : Value}
    (a16 : PySem.W.nsIn K mainGlobals "mean_latest" = some (some (.ref f16))) (l16 : K.lookup f16 = some ⟨oc16, od16, .func (PySem.W.fnOf "mean_latest" "mean_latest" (defArgs s_mean_latest) (defBody s_mean_latest) (defScope s_mean_latest) .none kV16 dc16 pm16 an16 cd16 ct16), sl16⟩) (c16 : PySem.W.codeIn K cd16 "mean_latest" = true) (k16 : PySem.W.keepIn K (.ref f16) = true)
    {f17 : Addr} {od17 an17 : Option Addr} {sl17 : Array (Option Value)} {oc17 kV17 dc17 pm17 cd17 ct17 : Value}
    (a17 : PySem.W.nsIn K mainGlobals "mean_gone" = some (some (.ref f17))) (l17 : K.lookup f17 = some ⟨oc17, od17, .func (PySem.W.fnOf "mean_gone" "mean_gone" (defArgs s_mean_gone) (defBody s_mean_gone) (defScope s_mean_gone) .none kV17 dc17 pm17 an17 cd17 ct17), sl17⟩) (c17 : PySem.W.codeIn K cd17 "mean_gone" = true) (k17 : PySem.W.keepIn K (.ref f17) = true)
    {f18 : Addr} {od18 an18 : Option Addr} {sl18 : Array (Option Value)} {oc18 kV18 dc18 pm18 cd18 ct18 : Value}
    (a18 : PySem.W.nsIn K mainGlobals "names_along" = some (some (.ref f18))) (l18 : K.lookup f18 = some ⟨oc18, od18, .func (PySem.W.fnOf "names_along" "names_along" (defArgs s_names_along) (defBody s_names_along) (defScope s_names_along) .none kV18 dc18 pm18 an18 cd18 ct18), sl18⟩) (c18 : PySem.W.codeIn K cd18 "names_along" = true) (k18 : PySem.W.keepIn K (.ref f18) = true)
    {f19 : Addr} {od19 an19 : Option Addr} {sl19 : Array (Option Value)} {oc19 kV19 dc19 pm19 cd19 ct19 : Value}
    (a19 : PySem.W.nsIn K mainGlobals "most_latest" = some (some (.ref f19))) (l19 : K.lookup f19 = some ⟨oc19, od19, .func (PySem.W.fnOf "most_latest" "most_latest" (defArgs s_most_latest) (defBody s_most_latest) (defScope s_most_latest) .none kV19 dc19 pm19 an19 cd19 ct19), sl19⟩) (c19 : PySem.W.codeIn K cd19 "most_latest" = true) (k19 : PySem.W.keepIn K (.ref f19) = true)
    {f20 : Addr} {od20 an20 : Option Addr} {sl20 : Array (Option Value)} {oc20 kV20 dc20 pm20 cd20 ct20 : Value}
    (a20 : PySem.W.nsIn K mainGlobals "_law_blend" = some (some (.ref f20))) (l20 : K.lookup f20 = some ⟨oc20, od20, .func (PySem.W.fnOf "_law_blend" "_law_blend" (defArgs s__law_blend) (defBody s__law_blend) (defScope s__law_blend) .none kV20 dc20 pm20 an20 cd20 ct20), sl20⟩) (c20 : PySem.W.codeIn K cd20 "_law_blend" = true) (k20 : PySem.W.keepIn K (.ref f20) = true)
    {f21 : Addr} {od21 an21 : Option Addr} {sl21 : Array (Option Value)} {oc21 kV21 dc21 pm21 cd21 ct21 : Value}
    (a21 : PySem.W.nsIn K mainGlobals "_law_pot" = some (some (.ref f21))) (l21 : K.lookup f21 = some ⟨oc21, od21, .func (PySem.W.fnOf "_law_pot" "_law_pot" (defArgs s__law_pot) (defBody s__law_pot) (defScope s__law_pot) .none kV21 dc21 pm21 an21 cd21 ct21), sl21⟩) (c21 : PySem.W.codeIn K cd21 "_law_pot" = true) (k21 : PySem.W.keepIn K (.ref f21) = true)
    {f22 : Addr} {od22 an22 : Option Addr} {sl22 : Array (Option Value)} {oc22 kV22 dc22 pm22 cd22 ct22 : Value}
    (a22 : PySem.W.nsIn K mainGlobals "_law_pick" = some (some (.ref f22))) (l22 : K.lookup f22 = some ⟨oc22, od22, .func (PySem.W.fnOf "_law_pick" "_law_pick" (defArgs s__law_pick) (defBody s__law_pick) (defScope s__law_pick) .none kV22 dc22 pm22 an22 cd22 ct22), sl22⟩) (c22 : PySem.W.codeIn K cd22 "_law_pick" = true) (k22 : PySem.W.keepIn K (.ref f22) = true)
    {f23 : Addr} {od23 an23 : Option Addr} {sl23 : Array (Option Value)} {oc23 kV23 dc23 pm23 cd23 ct23 : Value}
    (a23 : PySem.W.nsIn K mainGlobals "_law_web" = some (some (.ref f23))) (l23 : K.lookup f23 = some ⟨oc23, od23, .func (PySem.W.fnOf "_law_web" "_law_web" (defArgs s__law_web) (defBody s__law_web) (defScope s__law_web) .none kV23 dc23 pm23 an23 cd23 ct23), sl23⟩) (c23 : PySem.W.codeIn K cd23 "_law_web" = true) (k23 : PySem.W.keepIn K (.ref f23) = true)
    {f24 : Addr} {od24 an24 : Option Addr} {sl24 : Array (Option Value)} {oc24 kV24 dc24 pm24 cd24 ct24 : Value}
    (a24 : PySem.W.nsIn K mainGlobals "_law_kind" = some (some (.ref f24))) (l24 : K.lookup f24 = some ⟨oc24, od24, .func (PySem.W.fnOf "_law_kind" "_law_kind" (defArgs s__law_kind) (defBody s__law_kind) (defScope s__law_kind) .none kV24 dc24 pm24 an24 cd24 ct24), sl24⟩) (c24 : PySem.W.codeIn K cd24 "_law_kind" = true) (k24 : PySem.W.keepIn K (.ref f24) = true)
    {f25 : Addr} {od25 an25 : Option Addr} {sl25 : Array (Option Value)} {oc25 kV25 dc25 pm25 cd25 ct25 : Value}
    (a25 : PySem.W.nsIn K mainGlobals "_law_lowest" = some (some (.ref f25))) (l25 : K.lookup f25 = some ⟨oc25, od25, .func (PySem.W.fnOf "_law_lowest" "_law_lowest" (defArgs s__law_lowest) (defBody s__law_lowest) (defScope s__law_lowest) .none kV25 dc25 pm25 an25 cd25 ct25), sl25⟩) (c25 : PySem.W.codeIn K cd25 "_law_lowest" = true) (k25 : PySem.W.keepIn K (.ref f25) = true)
    {f26 : Addr} {od26 an26 : Option Addr} {sl26 : Array (Option Value)} {oc26 kV26 dc26 pm26 cd26 ct26 : Value}
    (a26 : PySem.W.nsIn K mainGlobals "_law_added" = some (some (.ref f26))) (l26 : K.lookup f26 = some ⟨oc26, od26, .func (PySem.W.fnOf "_law_added" "_law_added" (defArgs s__law_added) (defBody s__law_added) (defScope s__law_added) .none kV26 dc26 pm26 an26 cd26 ct26), sl26⟩) (c26 : PySem.W.codeIn K cd26 "_law_added" = true) (k26 : PySem.W.keepIn K (.ref f26) = true)
    {f27 : Addr} {od27 an27 : Option Addr} {sl27 : Array (Option Value)} {oc27 kV27 dc27 pm27 cd27 ct27 : Value}
    (a27 : PySem.W.nsIn K mainGlobals "_law_at_most" = some (some (.ref f27))) (l27 : K.lookup f27 = some ⟨oc27, od27, .func (PySem.W.fnOf "_law_at_most" "_law_at_most" (defArgs s__law_at_most) (defBody s__law_at_most) (defScope s__law_at_most) .none kV27 dc27 pm27 an27 cd27 ct27), sl27⟩) (c27 : PySem.W.codeIn K cd27 "_law_at_most" = true) (k27 : PySem.W.keepIn K (.ref f27) = true)
    {f28 : Addr} {od28 an28 : Option Addr} {sl28 : Array (Option Value)} {oc28 kV28 dc28 pm28 cd28 ct28 : Value}
    (a28 : PySem.W.nsIn K mainGlobals "_law_places" = some (some (.ref f28))) (l28 : K.lookup f28 = some ⟨oc28, od28, .func (PySem.W.fnOf "_law_places" "_law_places" (defArgs s__law_places) (defBody s__law_places) (defScope s__law_places) .none kV28 dc28 pm28 an28 cd28 ct28), sl28⟩) (c28 : PySem.W.codeIn K cd28 "_law_places" = true) (k28 : PySem.W.keepIn K (.ref f28) = true)
    {f29 : Addr} {od29 an29 : Option Addr} {sl29 : Array (Option Value)} {oc29 kV29 dc29 pm29 cd29 ct29 : Value}
    (a29 : PySem.W.nsIn K mainGlobals "_law_refused" = some (some (.ref f29))) (l29 : K.lookup f29 = some ⟨oc29, od29, .func (PySem.W.fnOf "_law_refused" "_law_refused" (defArgs s__law_refused) (defBody s__law_refused) (defScope s__law_refused) .none kV29 dc29 pm29 an29 cd29 ct29), sl29⟩) (c29 : PySem.W.codeIn K cd29 "_law_refused" = true) (k29 : PySem.W.keepIn K (.ref f29) = true)
    {f30 : Addr} {od30 an30 : Option Addr} {sl30 : Array (Option Value)} {oc30 kV30 dc30 pm30 cd30 ct30 : Value}
    (a30 : PySem.W.nsIn K mainGlobals "_law_same_turned" = some (some (.ref f30))) (l30 : K.lookup f30 = some ⟨oc30, od30, .func (PySem.W.fnOf "_law_same_turned" "_law_same_turned" (defArgs s__law_same_turned) (defBody s__law_same_turned) (defScope s__law_same_turned) .none kV30 dc30 pm30 an30 cd30 ct30), sl30⟩) (c30 : PySem.W.codeIn K cd30 "_law_same_turned" = true) (k30 : PySem.W.keepIn K (.ref f30) = true)
    {f31 : Addr} {od31 an31 : Option Addr} {sl31 : Array (Option Value)} {oc31 kV31 dc31 pm31 cd31 ct31 : Value}
    (a31 : PySem.W.nsIn K mainGlobals "law" = some (some (.ref f31))) (l31 : K.lookup f31 = some ⟨oc31, od31, .func (PySem.W.fnOf "law" "law" (defArgs s_law) (defBody s_law) (defScope s_law) .none kV31 dc31 pm31 an31 cd31 ct31), sl31⟩) (c31 : PySem.W.codeIn K cd31 "law" = true) (k31 : PySem.W.keepIn K (.ref f31) = true)
    {C_ApartError C_NoHouse C_NoTie C_NoSet C_NoHues C_NoStep C_NoText C_NoRow C_NoName : Addr}
    (gc_ApartError : PySem.W.nsIn K mainGlobals "ApartError" = some (some (.ref C_ApartError))) (kc_ApartError : PySem.W.keepIn K (.ref C_ApartError) = true) (yc_ApartError : ExcC K C_ApartError) (tc_ApartError : PySem.W.typeIn K (.ref C_ApartError) = some (.type "type"))
    (xc_ApartError : PySem.W.excIn K C_ApartError [.type "ValueError", .type "Exception", .type "BaseException", .type "object"] "ValueError.__new__" = true)
    (w_ApartError_ApartError : PySem.W.kitOne K (.ref C_ApartError) (.ref C_ApartError) = some true)
    (w_ApartError_NoHouse : PySem.W.kitOne K (.ref C_ApartError) (.ref C_NoHouse) = some false)
    (w_ApartError_NoTie : PySem.W.kitOne K (.ref C_ApartError) (.ref C_NoTie) = some false)
    (w_ApartError_NoSet : PySem.W.kitOne K (.ref C_ApartError) (.ref C_NoSet) = some false)
    (w_ApartError_NoHues : PySem.W.kitOne K (.ref C_ApartError) (.ref C_NoHues) = some false)
    (w_ApartError_NoStep : PySem.W.kitOne K (.ref C_ApartError) (.ref C_NoStep) = some false)
    (w_ApartError_NoText : PySem.W.kitOne K (.ref C_ApartError) (.ref C_NoText) = some false)
    (w_ApartError_NoRow : PySem.W.kitOne K (.ref C_ApartError) (.ref C_NoRow) = some false)
    (w_ApartError_NoName : PySem.W.kitOne K (.ref C_ApartError) (.ref C_NoName) = some false)
    (wv_ApartError : PySem.W.kitOne K (.ref C_ApartError) (.type "ValueError") = some true) (we_ApartError : PySem.W.exmOne K (.ref C_ApartError) (.ref C_ApartError) = some true)
    (gc_NoHouse : PySem.W.nsIn K mainGlobals "NoHouse" = some (some (.ref C_NoHouse))) (kc_NoHouse : PySem.W.keepIn K (.ref C_NoHouse) = true) (yc_NoHouse : ExcC K C_NoHouse) (tc_NoHouse : PySem.W.typeIn K (.ref C_NoHouse) = some (.type "type"))
    (xc_NoHouse : PySem.W.excIn K C_NoHouse [.type "ValueError", .type "Exception", .type "BaseException", .type "object"] "ValueError.__new__" = true)
    (w_NoHouse_ApartError : PySem.W.kitOne K (.ref C_NoHouse) (.ref C_ApartError) = some true)
    (w_NoHouse_NoHouse : PySem.W.kitOne K (.ref C_NoHouse) (.ref C_NoHouse) = some true)
    (w_NoHouse_NoTie : PySem.W.kitOne K (.ref C_NoHouse) (.ref C_NoTie) = some false)
    (w_NoHouse_NoSet : PySem.W.kitOne K (.ref C_NoHouse) (.ref C_NoSet) = some false)
    (w_NoHouse_NoHues : PySem.W.kitOne K (.ref C_NoHouse) (.ref C_NoHues) = some false)
    (w_NoHouse_NoStep : PySem.W.kitOne K (.ref C_NoHouse) (.ref C_NoStep) = some false)
    (w_NoHouse_NoText : PySem.W.kitOne K (.ref C_NoHouse) (.ref C_NoText) = some false)
    (w_NoHouse_NoRow : PySem.W.kitOne K (.ref C_NoHouse) (.ref C_NoRow) = some false)
    (w_NoHouse_NoName : PySem.W.kitOne K (.ref C_NoHouse) (.ref C_NoName) = some false)
    (wv_NoHouse : PySem.W.kitOne K (.ref C_NoHouse) (.type "ValueError") = some true) (we_NoHouse : PySem.W.exmOne K (.ref C_NoHouse) (.ref C_ApartError) = some true)
    (gc_NoTie : PySem.W.nsIn K mainGlobals "NoTie" = some (some (.ref C_NoTie))) (kc_NoTie : PySem.W.keepIn K (.ref C_NoTie) = true) (yc_NoTie : ExcC K C_NoTie) (tc_NoTie : PySem.W.typeIn K (.ref C_NoTie) = some (.type "type"))
    (xc_NoTie : PySem.W.excIn K C_NoTie [.type "ValueError", .type "Exception", .type "BaseException", .type "object"] "ValueError.__new__" = true)
    (w_NoTie_ApartError : PySem.W.kitOne K (.ref C_NoTie) (.ref C_ApartError) = some true)
    (w_NoTie_NoHouse : PySem.W.kitOne K (.ref C_NoTie) (.ref C_NoHouse) = some false)
    (w_NoTie_NoTie : PySem.W.kitOne K (.ref C_NoTie) (.ref C_NoTie) = some true)
    (w_NoTie_NoSet : PySem.W.kitOne K (.ref C_NoTie) (.ref C_NoSet) = some false)
    (w_NoTie_NoHues : PySem.W.kitOne K (.ref C_NoTie) (.ref C_NoHues) = some false)
    (w_NoTie_NoStep : PySem.W.kitOne K (.ref C_NoTie) (.ref C_NoStep) = some false)
    (w_NoTie_NoText : PySem.W.kitOne K (.ref C_NoTie) (.ref C_NoText) = some false)
    (w_NoTie_NoRow : PySem.W.kitOne K (.ref C_NoTie) (.ref C_NoRow) = some false)
    (w_NoTie_NoName : PySem.W.kitOne K (.ref C_NoTie) (.ref C_NoName) = some false)
    (wv_NoTie : PySem.W.kitOne K (.ref C_NoTie) (.type "ValueError") = some true) (we_NoTie : PySem.W.exmOne K (.ref C_NoTie) (.ref C_ApartError) = some true)
    (gc_NoSet : PySem.W.nsIn K mainGlobals "NoSet" = some (some (.ref C_NoSet))) (kc_NoSet : PySem.W.keepIn K (.ref C_NoSet) = true) (yc_NoSet : ExcC K C_NoSet) (tc_NoSet : PySem.W.typeIn K (.ref C_NoSet) = some (.type "type"))
    (xc_NoSet : PySem.W.excIn K C_NoSet [.type "ValueError", .type "Exception", .type "BaseException", .type "object"] "ValueError.__new__" = true)
    (w_NoSet_ApartError : PySem.W.kitOne K (.ref C_NoSet) (.ref C_ApartError) = some true)
    (w_NoSet_NoHouse : PySem.W.kitOne K (.ref C_NoSet) (.ref C_NoHouse) = some false)
    (w_NoSet_NoTie : PySem.W.kitOne K (.ref C_NoSet) (.ref C_NoTie) = some false)
    (w_NoSet_NoSet : PySem.W.kitOne K (.ref C_NoSet) (.ref C_NoSet) = some true)
    (w_NoSet_NoHues : PySem.W.kitOne K (.ref C_NoSet) (.ref C_NoHues) = some false)
    (w_NoSet_NoStep : PySem.W.kitOne K (.ref C_NoSet) (.ref C_NoStep) = some false)
    (w_NoSet_NoText : PySem.W.kitOne K (.ref C_NoSet) (.ref C_NoText) = some false)
    (w_NoSet_NoRow : PySem.W.kitOne K (.ref C_NoSet) (.ref C_NoRow) = some false)
    (w_NoSet_NoName : PySem.W.kitOne K (.ref C_NoSet) (.ref C_NoName) = some false)
    (wv_NoSet : PySem.W.kitOne K (.ref C_NoSet) (.type "ValueError") = some true) (we_NoSet : PySem.W.exmOne K (.ref C_NoSet) (.ref C_ApartError) = some true)
    (gc_NoHues : PySem.W.nsIn K mainGlobals "NoHues" = some (some (.ref C_NoHues))) (kc_NoHues : PySem.W.keepIn K (.ref C_NoHues) = true) (yc_NoHues : ExcC K C_NoHues) (tc_NoHues : PySem.W.typeIn K (.ref C_NoHues) = some (.type "type"))
    (xc_NoHues : PySem.W.excIn K C_NoHues [.type "ValueError", .type "Exception", .type "BaseException", .type "object"] "ValueError.__new__" = true)
    (w_NoHues_ApartError : PySem.W.kitOne K (.ref C_NoHues) (.ref C_ApartError) = some true)
    (w_NoHues_NoHouse : PySem.W.kitOne K (.ref C_NoHues) (.ref C_NoHouse) = some false)
    (w_NoHues_NoTie : PySem.W.kitOne K (.ref C_NoHues) (.ref C_NoTie) = some false)
    (w_NoHues_NoSet : PySem.W.kitOne K (.ref C_NoHues) (.ref C_NoSet) = some false)
    (w_NoHues_NoHues : PySem.W.kitOne K (.ref C_NoHues) (.ref C_NoHues) = some true)
    (w_NoHues_NoStep : PySem.W.kitOne K (.ref C_NoHues) (.ref C_NoStep) = some false)
    (w_NoHues_NoText : PySem.W.kitOne K (.ref C_NoHues) (.ref C_NoText) = some false)
    (w_NoHues_NoRow : PySem.W.kitOne K (.ref C_NoHues) (.ref C_NoRow) = some false)
    (w_NoHues_NoName : PySem.W.kitOne K (.ref C_NoHues) (.ref C_NoName) = some false)
    (wv_NoHues : PySem.W.kitOne K (.ref C_NoHues) (.type "ValueError") = some true) (we_NoHues : PySem.W.exmOne K (.ref C_NoHues) (.ref C_ApartError) = some true)
    (gc_NoStep : PySem.W.nsIn K mainGlobals "NoStep" = some (some (.ref C_NoStep))) (kc_NoStep : PySem.W.keepIn K (.ref C_NoStep) = true) (yc_NoStep : ExcC K C_NoStep) (tc_NoStep : PySem.W.typeIn K (.ref C_NoStep) = some (.type "type"))
    (xc_NoStep : PySem.W.excIn K C_NoStep [.type "ValueError", .type "Exception", .type "BaseException", .type "object"] "ValueError.__new__" = true)
    (w_NoStep_ApartError : PySem.W.kitOne K (.ref C_NoStep) (.ref C_ApartError) = some true)
    (w_NoStep_NoHouse : PySem.W.kitOne K (.ref C_NoStep) (.ref C_NoHouse) = some false)
    (w_NoStep_NoTie : PySem.W.kitOne K (.ref C_NoStep) (.ref C_NoTie) = some false)
    (w_NoStep_NoSet : PySem.W.kitOne K (.ref C_NoStep) (.ref C_NoSet) = some false)
    (w_NoStep_NoHues : PySem.W.kitOne K (.ref C_NoStep) (.ref C_NoHues) = some false)
    (w_NoStep_NoStep : PySem.W.kitOne K (.ref C_NoStep) (.ref C_NoStep) = some true)
    (w_NoStep_NoText : PySem.W.kitOne K (.ref C_NoStep) (.ref C_NoText) = some false)
    (w_NoStep_NoRow : PySem.W.kitOne K (.ref C_NoStep) (.ref C_NoRow) = some false)
    (w_NoStep_NoName : PySem.W.kitOne K (.ref C_NoStep) (.ref C_NoName) = some false)
    (wv_NoStep : PySem.W.kitOne K (.ref C_NoStep) (.type "ValueError") = some true) (we_NoStep : PySem.W.exmOne K (.ref C_NoStep) (.ref C_ApartError) = some true)
    (gc_NoText : PySem.W.nsIn K mainGlobals "NoText" = some (some (.ref C_NoText))) (kc_NoText : PySem.W.keepIn K (.ref C_NoText) = true) (yc_NoText : ExcC K C_NoText) (tc_NoText : PySem.W.typeIn K (.ref C_NoText) = some (.type "type"))
    (xc_NoText : PySem.W.excIn K C_NoText [.type "ValueError", .type "Exception", .type "BaseException", .type "object"] "ValueError.__new__" = true)
    (w_NoText_ApartError : PySem.W.kitOne K (.ref C_NoText) (.ref C_ApartError) = some true)
    (w_NoText_NoHouse : PySem.W.kitOne K (.ref C_NoText) (.ref C_NoHouse) = some false)
    (w_NoText_NoTie : PySem.W.kitOne K (.ref C_NoText) (.ref C_NoTie) = some false)
    (w_NoText_NoSet : PySem.W.kitOne K (.ref C_NoText) (.ref C_NoSet) = some false)
    (w_NoText_NoHues : PySem.W.kitOne K (.ref C_NoText) (.ref C_NoHues) = some false)
    (w_NoText_NoStep : PySem.W.kitOne K (.ref C_NoText) (.ref C_NoStep) = some false)
    (w_NoText_NoText : PySem.W.kitOne K (.ref C_NoText) (.ref C_NoText) = some true)
    (w_NoText_NoRow : PySem.W.kitOne K (.ref C_NoText) (.ref C_NoRow) = some false)
    (w_NoText_NoName : PySem.W.kitOne K (.ref C_NoText) (.ref C_NoName) = some false)
    (wv_NoText : PySem.W.kitOne K (.ref C_NoText) (.type "ValueError") = some true) (we_NoText : PySem.W.exmOne K (.ref C_NoText) (.ref C_ApartError) = some true)
    (gc_NoRow : PySem.W.nsIn K mainGlobals "NoRow" = some (some (.ref C_NoRow))) (kc_NoRow : PySem.W.keepIn K (.ref C_NoRow) = true) (yc_NoRow : ExcC K C_NoRow) (tc_NoRow : PySem.W.typeIn K (.ref C_NoRow) = some (.type "type"))
    (xc_NoRow : PySem.W.excIn K C_NoRow [.type "ValueError", .type "Exception", .type "BaseException", .type "object"] "ValueError.__new__" = true)
    (w_NoRow_ApartError : PySem.W.kitOne K (.ref C_NoRow) (.ref C_ApartError) = some true)
    (w_NoRow_NoHouse : PySem.W.kitOne K (.ref C_NoRow) (.ref C_NoHouse) = some false)
    (w_NoRow_NoTie : PySem.W.kitOne K (.ref C_NoRow) (.ref C_NoTie) = some false)
    (w_NoRow_NoSet : PySem.W.kitOne K (.ref C_NoRow) (.ref C_NoSet) = some false)
    (w_NoRow_NoHues : PySem.W.kitOne K (.ref C_NoRow) (.ref C_NoHues) = some false)
    (w_NoRow_NoStep : PySem.W.kitOne K (.ref C_NoRow) (.ref C_NoStep) = some false)
    (w_NoRow_NoText : PySem.W.kitOne K (.ref C_NoRow) (.ref C_NoText) = some false)
    (w_NoRow_NoRow : PySem.W.kitOne K (.ref C_NoRow) (.ref C_NoRow) = some true)
    (w_NoRow_NoName : PySem.W.kitOne K (.ref C_NoRow) (.ref C_NoName) = some false)
    (wv_NoRow : PySem.W.kitOne K (.ref C_NoRow) (.type "ValueError") = some true) (we_NoRow : PySem.W.exmOne K (.ref C_NoRow) (.ref C_ApartError) = some true)
    (gc_NoName : PySem.W.nsIn K mainGlobals "NoName" = some (some (.ref C_NoName))) (kc_NoName : PySem.W.keepIn K (.ref C_NoName) = true) (yc_NoName : ExcC K C_NoName) (tc_NoName : PySem.W.typeIn K (.ref C_NoName) = some (.type "type"))
    {fI ccI cdaI : Addr} {q1I q2I p0I p1I p2I p3I p4I p5I p6I p7I p8I p9I : Pos} {textI fileI : Str} {dVI kVI docI pmI ctI ocI : Value} {anI odI : Option Addr} {oslI : Array (Option Value)}
    (iI : PySem.W.findIn K (.ref C_NoName) "__init__" = some (some (.ref fI))) (tyI : PySem.W.typeIn K (.ref fI) = some (.type "function"))
    (lkI : K.lookup fI = some ⟨ocI, odI, .func (supFd "__init__" "NoName.__init__" q1I q2I p0I p1I p2I p3I p4I p5I p6I p7I p8I p9I textI dVI kVI docI pmI ctI anI ccI cdaI), oslI⟩)
    (oxI : OexC K C_NoName) (supI : SupC P K C_NoName fI ccI cdaI "NoName.__init__" fileI) (noI : PySem.W.findIn K (.ref C_NoName) "number" = some none) (evI : SupEval textI p0I p1I p2I p3I p4I) (dvI : dVI = .none)
    (w_NoName_ApartError : PySem.W.kitOne K (.ref C_NoName) (.ref C_ApartError) = some true)
    (w_NoName_NoHouse : PySem.W.kitOne K (.ref C_NoName) (.ref C_NoHouse) = some false)
    (w_NoName_NoTie : PySem.W.kitOne K (.ref C_NoName) (.ref C_NoTie) = some false)
    (w_NoName_NoSet : PySem.W.kitOne K (.ref C_NoName) (.ref C_NoSet) = some false)
    (w_NoName_NoHues : PySem.W.kitOne K (.ref C_NoName) (.ref C_NoHues) = some false)
    (w_NoName_NoStep : PySem.W.kitOne K (.ref C_NoName) (.ref C_NoStep) = some false)
    (w_NoName_NoText : PySem.W.kitOne K (.ref C_NoName) (.ref C_NoText) = some false)
    (w_NoName_NoRow : PySem.W.kitOne K (.ref C_NoName) (.ref C_NoRow) = some false)
    (w_NoName_NoName : PySem.W.kitOne K (.ref C_NoName) (.ref C_NoName) = some true)
    (wv_NoName : PySem.W.kitOne K (.ref C_NoName) (.type "ValueError") = some true) (we_NoName : PySem.W.exmOne K (.ref C_NoName) (.ref C_ApartError) = some true)
    (gt_permutations : PySem.W.nsIn K mainGlobals "permutations" = some (some (.type "itertools.permutations")))
    (gt_gcd : PySem.W.nsIn K mainGlobals "gcd" = some (some (.builtin "math.gcd")))
    (z_ValueError : PySem.W.nsIn K mainGlobals "ValueError" = some none)
    (z_set : PySem.W.nsIn K mainGlobals "set" = some none)
    (z_enumerate : PySem.W.nsIn K mainGlobals "enumerate" = some none)
    (z_max : PySem.W.nsIn K mainGlobals "max" = some none)
    (z_sorted : PySem.W.nsIn K mainGlobals "sorted" = some none)
    (z_len : PySem.W.nsIn K mainGlobals "len" = some none)
    (z_list : PySem.W.nsIn K mainGlobals "list" = some none)
    (z_range : PySem.W.nsIn K mainGlobals "range" = some none)
    (z_isinstance : PySem.W.nsIn K mainGlobals "isinstance" = some none)
    (z_int : PySem.W.nsIn K mainGlobals "int" = some none)
    (z_sum : PySem.W.nsIn K mainGlobals "sum" = some none)
    (z_tuple : PySem.W.nsIn K mainGlobals "tuple" = some none)
    (z_bool : PySem.W.nsIn K mainGlobals "bool" = some none)
    (z_min : PySem.W.nsIn K mainGlobals "min" = some none)
    (z_super : PySem.W.nsIn K mainGlobals "super" = some none)
    : ∃ fd : FuncData, (∀ (s : Shared) (v : Value), BindsTo s fd ⟨[v], []⟩ [("script", v)]) ∧ ∀ base : Heap, K.In base → base.Ns mainGlobals mg → FnOk P w K mg base CX0 8 fa fd ["script"] (sp_law K) := by
  have e := hfa.symm.trans (PySem.W.mg_of X G a31)
  cases e
  have F0 := fun_mk (st := s_fraction_of) l0 c0 k0
  have F1 := fun_mk (st := s_is_whole) l1 c1 k1
  have F2 := fun_mk (st := s_neighbours) l2 c2 k2
  have F3 := fun_mk (st := s_refuse_no_house) l3 c3 k3
  have F4 := fun_mk (st := s_tied_to) l4 c4 k4
  have F5 := fun_mk (st := s_refuse_alike) l5 c5 k5
  have F6 := fun_mk (st := s_latest_of) l6 c6 k6
  have F7 := fun_mk (st := s_row_by) l7 c7 k7
  have F8 := fun_mk (st := s_rows_along) l8 c8 k8
  have F9 := fun_mk (st := s_rounds_by) l9 c9 k9
  have F10 := fun_mk (st := s_latest_by) l10 c10 k10
  have F11 := fun_mk (st := s_rows_of_orders) l11 c11 k11
  have F12 := fun_mk (st := s_mean_of) l12 c12 k12
  have F13 := fun_mk (st := s_gone_first) l13 c13 k13
  have F14 := fun_mk (st := s_chance_in) l14 c14 k14
  have F15 := fun_mk (st := s_mean_size) l15 c15 k15
  have F16 := fun_mk (st := s_mean_latest) l16 c16 k16
  have F17 := fun_mk (st := s_mean_gone) l17 c17 k17
  have F18 := fun_mk (st := s_names_along) l18 c18 k18
  have F19 := fun_mk (st := s_most_latest) l19 c19 k19
  have F20 := fun_mk (st := s__law_blend) l20 c20 k20
  have F21 := fun_mk (st := s__law_pot) l21 c21 k21
  have F22 := fun_mk (st := s__law_pick) l22 c22 k22
  have F23 := fun_mk (st := s__law_web) l23 c23 k23
  have F24 := fun_mk (st := s__law_kind) l24 c24 k24
  have F25 := fun_mk (st := s__law_lowest) l25 c25 k25
  have F26 := fun_mk (st := s__law_added) l26 c26 k26
  have F27 := fun_mk (st := s__law_at_most) l27 c27 k27
  have F28 := fun_mk (st := s__law_places) l28 c28 k28
  have F29 := fun_mk (st := s__law_refused) l29 c29 k29
  have F30 := fun_mk (st := s__law_same_turned) l30 c30 k30
  have F31 := fun_mk (st := s_law) l31 c31 k31
  subst dvI
  have b0 := F0.binds (ps := ["over", "under"]) fun _ _ _ _ _ _ us hl => match us, hl with | [_, _], _ => rfl
  have b1 := F1.binds (ps := ["thing"]) fun _ _ _ _ _ _ us hl => match us, hl with | [_], _ => rfl
  have b2 := F2.binds (ps := ["web"]) fun _ _ _ _ _ _ us hl => match us, hl with | [_], _ => rfl
  have b3 := F3.binds (ps := ["web", "house"]) fun _ _ _ _ _ _ us hl => match us, hl with | [_, _], _ => rfl
  have b4 := F4.binds (ps := ["web", "house"]) fun _ _ _ _ _ _ us hl => match us, hl with | [_, _], _ => rfl
  have b5 := F5.binds (ps := ["names"]) fun _ _ _ _ _ _ us hl => match us, hl with | [_], _ => rfl
  have b6 := F6.binds (ps := ["rows"]) fun _ _ _ _ _ _ us hl => match us, hl with | [_], _ => rfl
  have b7 := F7.binds (ps := ["rows"]) fun _ _ _ _ _ _ us hl => match us, hl with | [_], _ => rfl
  have b8 := F8.binds (ps := ["near", "order"]) fun _ _ _ _ _ _ us hl => match us, hl with | [_, _], _ => rfl
  have b9 := F9.binds (ps := ["web", "names"]) fun _ _ _ _ _ _ us hl => match us, hl with | [_, _], _ => rfl
  have b10 := F10.binds (ps := ["web", "names"]) fun _ _ _ _ _ _ us hl => match us, hl with | [_, _], _ => rfl
  have b11 := F11.binds (ps := ["web"]) fun _ _ _ _ _ _ us hl => match us, hl with | [_], _ => rfl
  have b12 := F12.binds (ps := ["numbers"]) fun _ _ _ _ _ _ us hl => match us, hl with | [_], _ => rfl
  have b13 := F13.binds (ps := ["web", "rows"]) fun _ _ _ _ _ _ us hl => match us, hl with | [_, _], _ => rfl
  have b14 := F14.binds (ps := ["web", "house"]) fun _ _ _ _ _ _ us hl => match us, hl with | [_, _], _ => rfl
  have b15 := F15.binds (ps := ["web"]) fun _ _ _ _ _ _ us hl => match us, hl with | [_], _ => rfl
  have b16 := F16.binds (ps := ["web"]) fun _ _ _ _ _ _ us hl => match us, hl with | [_], _ => rfl
  have b17 := F17.binds (ps := ["web"]) fun _ _ _ _ _ _ us hl => match us, hl with | [_], _ => rfl
  have b18 := F18.binds (ps := ["order"]) fun _ _ _ _ _ _ us hl => match us, hl with | [_], _ => rfl
  have b19 := F19.binds (ps := ["web"]) fun _ _ _ _ _ _ us hl => match us, hl with | [_], _ => rfl
  have b20 := F20.binds (ps := ["cell", "at"]) fun _ _ _ _ _ _ us hl => match us, hl with | [_, _], _ => rfl
  have b21 := F21.binds (ps := ["script"]) fun _ _ _ _ _ _ us hl => match us, hl with | [_], _ => rfl
  have b22 := F22.binds (ps := ["pot", "upto"]) fun _ _ _ _ _ _ us hl => match us, hl with | [_, _], _ => rfl
  have b23 := F23.binds (ps := ["pot", "most"]) fun _ _ _ _ _ _ us hl => match us, hl with | [_, _], _ => rfl
  have b24 := F24.binds (ps := ["caught"]) fun _ _ _ _ _ _ us hl => match us, hl with | [_], _ => rfl
  have b25 := F25.binds (ps := ["over", "under"]) fun _ _ _ _ _ _ us hl => match us, hl with | [_, _], _ => rfl
  have b26 := F26.binds (ps := ["fractions"]) fun _ _ _ _ _ _ us hl => match us, hl with | [_], _ => rfl
  have b27 := F27.binds (ps := ["one", "other"]) fun _ _ _ _ _ _ us hl => match us, hl with | [_, _], _ => rfl
  have b28 := F28.binds (ps := ["pot", "many"]) fun _ _ _ _ _ _ us hl => match us, hl with | [_, _], _ => rfl
  have b29 := F29.binds (ps := ["web", "house"]) fun _ _ _ _ _ _ us hl => match us, hl with | [_, _], _ => rfl
  have b30 := F30.binds (ps := ["web", "places"]) fun _ _ _ _ _ _ us hl => match us, hl with | [_, _], _ => rfl
  have T : Env K mg := { a_fraction_of := _, fd_fraction_of := _, F_fraction_of := F0, b_fraction_of := b0, g_fraction_of := PySem.W.mg_of X G a0, a_is_whole := _, fd_is_whole := _, F_is_whole := F1, b_is_whole := b1, g_is_whole := PySem.W.mg_of X G a1, a_neighbours := _, fd_neighbours := _, F_neighbours := F2, b_neighbours := b2, g_neighbours := PySem.W.mg_of X G a2, a_refuse_no_house := _, fd_refuse_no_house := _, F_refuse_no_house := F3, b_refuse_no_house := b3, g_refuse_no_house := PySem.W.mg_of X G a3, a_tied_to := _, fd_tied_to := _, F_tied_to := F4, b_tied_to := b4, g_tied_to := PySem.W.mg_of X G a4, a_refuse_alike := _, fd_refuse_alike := _, F_refuse_alike := F5, b_refuse_alike := b5, g_refuse_alike := PySem.W.mg_of X G a5, a_latest_of := _, fd_latest_of := _, F_latest_of := F6, b_latest_of := b6, g_latest_of := PySem.W.mg_of X G a6, a_row_by := _, fd_row_by := _, F_row_by := F7, b_row_by := b7, g_row_by := PySem.W.mg_of X G a7, a_rows_along := _, fd_rows_along := _, F_rows_along := F8, b_rows_along := b8, g_rows_along := PySem.W.mg_of X G a8, a_rounds_by := _, fd_rounds_by := _, F_rounds_by := F9, b_rounds_by := b9, g_rounds_by := PySem.W.mg_of X G a9, a_latest_by := _, fd_latest_by := _, F_latest_by := F10, b_latest_by := b10, g_latest_by := PySem.W.mg_of X G a10, a_rows_of_orders := _, fd_rows_of_orders := _, F_rows_of_orders := F11, b_rows_of_orders := b11, g_rows_of_orders := PySem.W.mg_of X G a11, a_mean_of := _, fd_mean_of := _, F_mean_of := F12, b_mean_of := b12, g_mean_of := PySem.W.mg_of X G a12, a_gone_first := _, fd_gone_first := _, F_gone_first := F13, b_gone_first := b13, g_gone_first := PySem.W.mg_of X G a13, a_chance_in := _, fd_chance_in := _, F_chance_in := F14, b_chance_in := b14, g_chance_in := PySem.W.mg_of X G a14, a_mean_size := _, fd_mean_size := _, F_mean_size := F15, b_mean_size := b15, g_mean_size := PySem.W.mg_of X G a15, a_mean_latest := _, fd_mean_latest := _, F_mean_latest := F16, b_mean_latest := b16, g_mean_latest := PySem.W.mg_of X G a16, a_mean_gone := _, fd_mean_gone := _, F_mean_gone := F17, b_mean_gone := b17, g_mean_gone := PySem.W.mg_of X G a17, a_names_along := _, fd_names_along := _, F_names_along := F18, b_names_along := b18, g_names_along := PySem.W.mg_of X G a18, a_most_latest := _, fd_most_latest := _, F_most_latest := F19, b_most_latest := b19, g_most_latest := PySem.W.mg_of X G a19, a__law_blend := _, fd__law_blend := _, F__law_blend := F20, b__law_blend := b20, g__law_blend := PySem.W.mg_of X G a20, a__law_pot := _, fd__law_pot := _, F__law_pot := F21, b__law_pot := b21, g__law_pot := PySem.W.mg_of X G a21, a__law_pick := _, fd__law_pick := _, F__law_pick := F22, b__law_pick := b22, g__law_pick := PySem.W.mg_of X G a22, a__law_web := _, fd__law_web := _, F__law_web := F23, b__law_web := b23, g__law_web := PySem.W.mg_of X G a23, a__law_kind := _, fd__law_kind := _, F__law_kind := F24, b__law_kind := b24, g__law_kind := PySem.W.mg_of X G a24, a__law_lowest := _, fd__law_lowest := _, F__law_lowest := F25, b__law_lowest := b25, g__law_lowest := PySem.W.mg_of X G a25, a__law_added := _, fd__law_added := _, F__law_added := F26, b__law_added := b26, g__law_added := PySem.W.mg_of X G a26, a__law_at_most := _, fd__law_at_most := _, F__law_at_most := F27, b__law_at_most := b27, g__law_at_most := PySem.W.mg_of X G a27, a__law_places := _, fd__law_places := _, F__law_places := F28, b__law_places := b28, g__law_places := PySem.W.mg_of X G a28, a__law_refused := _, fd__law_refused := _, F__law_refused := F29, b__law_refused := b29, g__law_refused := PySem.W.mg_of X G a29, a__law_same_turned := _, fd__law_same_turned := _, F__law_same_turned := F30, b__law_same_turned := b30, g__law_same_turned := PySem.W.mg_of X G a30, c_ApartError := _, g_ApartError := PySem.W.mg_of X G gc_ApartError, kp_ApartError := kc_ApartError, y_ApartError := yc_ApartError, ty_ApartError := tc_ApartError, x_ApartError := xc_ApartError, k_ApartError_ApartError := w_ApartError_ApartError, k_ApartError_NoHouse := w_ApartError_NoHouse, k_ApartError_NoTie := w_ApartError_NoTie, k_ApartError_NoSet := w_ApartError_NoSet, k_ApartError_NoHues := w_ApartError_NoHues, k_ApartError_NoStep := w_ApartError_NoStep, k_ApartError_NoText := w_ApartError_NoText, k_ApartError_NoRow := w_ApartError_NoRow, k_ApartError_NoName := w_ApartError_NoName, kv_ApartError := wv_ApartError, e_ApartError := we_ApartError, c_NoHouse := _, g_NoHouse := PySem.W.mg_of X G gc_NoHouse, kp_NoHouse := kc_NoHouse, y_NoHouse := yc_NoHouse, ty_NoHouse := tc_NoHouse, x_NoHouse := xc_NoHouse, k_NoHouse_ApartError := w_NoHouse_ApartError, k_NoHouse_NoHouse := w_NoHouse_NoHouse, k_NoHouse_NoTie := w_NoHouse_NoTie, k_NoHouse_NoSet := w_NoHouse_NoSet, k_NoHouse_NoHues := w_NoHouse_NoHues, k_NoHouse_NoStep := w_NoHouse_NoStep, k_NoHouse_NoText := w_NoHouse_NoText, k_NoHouse_NoRow := w_NoHouse_NoRow, k_NoHouse_NoName := w_NoHouse_NoName, kv_NoHouse := wv_NoHouse, e_NoHouse := we_NoHouse, c_NoTie := _, g_NoTie := PySem.W.mg_of X G gc_NoTie, kp_NoTie := kc_NoTie, y_NoTie := yc_NoTie, ty_NoTie := tc_NoTie, x_NoTie := xc_NoTie, k_NoTie_ApartError := w_NoTie_ApartError, k_NoTie_NoHouse := w_NoTie_NoHouse, k_NoTie_NoTie := w_NoTie_NoTie, k_NoTie_NoSet := w_NoTie_NoSet, k_NoTie_NoHues := w_NoTie_NoHues, k_NoTie_NoStep := w_NoTie_NoStep, k_NoTie_NoText := w_NoTie_NoText, k_NoTie_NoRow := w_NoTie_NoRow, k_NoTie_NoName := w_NoTie_NoName, kv_NoTie := wv_NoTie, e_NoTie := we_NoTie, c_NoSet := _, g_NoSet := PySem.W.mg_of X G gc_NoSet, kp_NoSet := kc_NoSet, y_NoSet := yc_NoSet, ty_NoSet := tc_NoSet, x_NoSet := xc_NoSet, k_NoSet_ApartError := w_NoSet_ApartError, k_NoSet_NoHouse := w_NoSet_NoHouse, k_NoSet_NoTie := w_NoSet_NoTie, k_NoSet_NoSet := w_NoSet_NoSet, k_NoSet_NoHues := w_NoSet_NoHues, k_NoSet_NoStep := w_NoSet_NoStep, k_NoSet_NoText := w_NoSet_NoText, k_NoSet_NoRow := w_NoSet_NoRow, k_NoSet_NoName := w_NoSet_NoName, kv_NoSet := wv_NoSet, e_NoSet := we_NoSet, c_NoHues := _, g_NoHues := PySem.W.mg_of X G gc_NoHues, kp_NoHues := kc_NoHues, y_NoHues := yc_NoHues, ty_NoHues := tc_NoHues, x_NoHues := xc_NoHues, k_NoHues_ApartError := w_NoHues_ApartError, k_NoHues_NoHouse := w_NoHues_NoHouse, k_NoHues_NoTie := w_NoHues_NoTie, k_NoHues_NoSet := w_NoHues_NoSet, k_NoHues_NoHues := w_NoHues_NoHues, k_NoHues_NoStep := w_NoHues_NoStep, k_NoHues_NoText := w_NoHues_NoText, k_NoHues_NoRow := w_NoHues_NoRow, k_NoHues_NoName := w_NoHues_NoName, kv_NoHues := wv_NoHues, e_NoHues := we_NoHues, c_NoStep := _, g_NoStep := PySem.W.mg_of X G gc_NoStep, kp_NoStep := kc_NoStep, y_NoStep := yc_NoStep, ty_NoStep := tc_NoStep, x_NoStep := xc_NoStep, k_NoStep_ApartError := w_NoStep_ApartError, k_NoStep_NoHouse := w_NoStep_NoHouse, k_NoStep_NoTie := w_NoStep_NoTie, k_NoStep_NoSet := w_NoStep_NoSet, k_NoStep_NoHues := w_NoStep_NoHues, k_NoStep_NoStep := w_NoStep_NoStep, k_NoStep_NoText := w_NoStep_NoText, k_NoStep_NoRow := w_NoStep_NoRow, k_NoStep_NoName := w_NoStep_NoName, kv_NoStep := wv_NoStep, e_NoStep := we_NoStep, c_NoText := _, g_NoText := PySem.W.mg_of X G gc_NoText, kp_NoText := kc_NoText, y_NoText := yc_NoText, ty_NoText := tc_NoText, x_NoText := xc_NoText, k_NoText_ApartError := w_NoText_ApartError, k_NoText_NoHouse := w_NoText_NoHouse, k_NoText_NoTie := w_NoText_NoTie, k_NoText_NoSet := w_NoText_NoSet, k_NoText_NoHues := w_NoText_NoHues, k_NoText_NoStep := w_NoText_NoStep, k_NoText_NoText := w_NoText_NoText, k_NoText_NoRow := w_NoText_NoRow, k_NoText_NoName := w_NoText_NoName, kv_NoText := wv_NoText, e_NoText := we_NoText, c_NoRow := _, g_NoRow := PySem.W.mg_of X G gc_NoRow, kp_NoRow := kc_NoRow, y_NoRow := yc_NoRow, ty_NoRow := tc_NoRow, x_NoRow := xc_NoRow, k_NoRow_ApartError := w_NoRow_ApartError, k_NoRow_NoHouse := w_NoRow_NoHouse, k_NoRow_NoTie := w_NoRow_NoTie, k_NoRow_NoSet := w_NoRow_NoSet, k_NoRow_NoHues := w_NoRow_NoHues, k_NoRow_NoStep := w_NoRow_NoStep, k_NoRow_NoText := w_NoRow_NoText, k_NoRow_NoRow := w_NoRow_NoRow, k_NoRow_NoName := w_NoRow_NoName, kv_NoRow := wv_NoRow, e_NoRow := we_NoRow, c_NoName := _, g_NoName := PySem.W.mg_of X G gc_NoName, kp_NoName := kc_NoName, y_NoName := yc_NoName, ty_NoName := tc_NoName, fi_NoName := fI, fdi_NoName := _, iC_NoName := iI, tI_NoName := tyI, bi_NoName := .all (fun us hl => match us, hl with | [_, _], _ => rfl), ox_NoName := oxI, no_NoName := noI, I_NoName := fun h => sup_ok supI lkI noI h evI, k_NoName_ApartError := w_NoName_ApartError, k_NoName_NoHouse := w_NoName_NoHouse, k_NoName_NoTie := w_NoName_NoTie, k_NoName_NoSet := w_NoName_NoSet, k_NoName_NoHues := w_NoName_NoHues, k_NoName_NoStep := w_NoName_NoStep, k_NoName_NoText := w_NoName_NoText, k_NoName_NoRow := w_NoName_NoRow, k_NoName_NoName := w_NoName_NoName, kv_NoName := wv_NoName, e_NoName := we_NoName, g_permutations := PySem.W.mg_of X G gt_permutations, g_gcd := PySem.W.mg_of X G gt_gcd, n_ValueError := PySem.W.mg_none_of X G z_ValueError, n_set := PySem.W.mg_none_of X G z_set, n_enumerate := PySem.W.mg_none_of X G z_enumerate, n_max := PySem.W.mg_none_of X G z_max, n_sorted := PySem.W.mg_none_of X G z_sorted, n_len := PySem.W.mg_none_of X G z_len, n_list := PySem.W.mg_none_of X G z_list, n_range := PySem.W.mg_none_of X G z_range, n_isinstance := PySem.W.mg_none_of X G z_isinstance, n_int := PySem.W.mg_none_of X G z_int, n_sum := PySem.W.mg_none_of X G z_sum, n_tuple := PySem.W.mg_none_of X G z_tuple, n_bool := PySem.W.mg_none_of X G z_bool, n_min := PySem.W.mg_none_of X G z_min, n_super := PySem.W.mg_none_of X G z_super }
  exact ⟨PySem.W.fnOf "law" "law" (defArgs s_law) (defBody s_law) (defScope s_law) .none kV31 dc31 pm31 an31 cd31 ct31, fun s v => .of_eq rfl, fun base _ _ => ok_law T F31⟩
end Fa
open PySem PySem.W PyProof.Rows
set_option maxHeartbeats 0 in
theorem PySem.Challenge.cw_fullapart_k42_whole_over_all_orders_holds : PySem.Challenge.rw_fullapart_k42_whole_over_all_orders.Holds := by
  w_on; o_law; k_head; (case hw => w_witness2)
  k_fill
  refine L2.walk_of (l := PySem.Challenge.rw_fullapart_k42_whole_over_all_orders) (n := 63) (k := 8) (x := "script") (CX := fun _ => L2.CX0) (sp := fun w => Fa.sp_law _) rfl (by decide) rfl ⟨rfl, by decide, by decide⟩ (fun w h Y => PySem.W.kIn_of Y) ?F (fun _ _ a ns hl _ hS => ⟨a, ns, rfl, hS, hl, fun _ => rfl⟩) (fun _ _ _ _ _ h => h)
  case F =>
    intro w mg fa h KX G hmg
    refine' Fa.all_mk KX G hmg ?a0 ?l0 ?c0 ?k0 ?a1 ?l1 ?c1 ?k1 ?a2 ?l2 ?c2 ?k2 ?a3 ?l3 ?c3 ?k3 ?a4 ?l4 ?c4 ?k4 ?a5 ?l5 ?c5 ?k5 ?a6 ?l6 ?c6 ?k6 ?a7 ?l7 ?c7 ?k7 ?a8 ?l8 ?c8 ?k8 ?a9 ?l9 ?c9 ?k9 ?a10 ?l10 ?c10 ?k10 ?a11 ?l11 ?c11 ?k11 ?a12 ?l12 ?c12 ?k12 ?a13 ?l13 ?c13 ?k13 ?a14 ?l14 ?c14 ?k14 ?a15 ?l15 ?c15 ?k15 ?a16 ?l16 ?c16 ?k16 ?a17 ?l17 ?c17 ?k17 ?a18 ?l18 ?c18 ?k18 ?a19 ?l19 ?c19 ?k19 ?a20 ?l20 ?c20 ?k20 ?a21 ?l21 ?c21 ?k21 ?a22 ?l22 ?c22 ?k22 ?a23 ?l23 ?c23 ?k23 ?a24 ?l24 ?c24 ?k24 ?a25 ?l25 ?c25 ?k25 ?a26 ?l26 ?c26 ?k26 ?a27 ?l27 ?c27 ?k27 ?a28 ?l28 ?c28 ?k28 ?a29 ?l29 ?c29 ?k29 ?a30 ?l30 ?c30 ?k30 ?a31 ?l31 ?c31 ?k31 ?gc_ApartError ?kc_ApartError ?yc_ApartError ?tc_ApartError ?xc_ApartError ?w_ApartError_ApartError ?w_ApartError_NoHouse ?w_ApartError_NoTie ?w_ApartError_NoSet ?w_ApartError_NoHues ?w_ApartError_NoStep ?w_ApartError_NoText ?w_ApartError_NoRow ?w_ApartError_NoName ?wv_ApartError ?we_ApartError ?gc_NoHouse ?kc_NoHouse ?yc_NoHouse ?tc_NoHouse ?xc_NoHouse ?w_NoHouse_ApartError ?w_NoHouse_NoHouse ?w_NoHouse_NoTie ?w_NoHouse_NoSet ?w_NoHouse_NoHues ?w_NoHouse_NoStep ?w_NoHouse_NoText ?w_NoHouse_NoRow ?w_NoHouse_NoName ?wv_NoHouse ?we_NoHouse ?gc_NoTie ?kc_NoTie ?yc_NoTie ?tc_NoTie ?xc_NoTie ?w_NoTie_ApartError ?w_NoTie_NoHouse ?w_NoTie_NoTie ?w_NoTie_NoSet ?w_NoTie_NoHues ?w_NoTie_NoStep ?w_NoTie_NoText ?w_NoTie_NoRow ?w_NoTie_NoName ?wv_NoTie ?we_NoTie ?gc_NoSet ?kc_NoSet ?yc_NoSet ?tc_NoSet ?xc_NoSet ?w_NoSet_ApartError ?w_NoSet_NoHouse ?w_NoSet_NoTie ?w_NoSet_NoSet ?w_NoSet_NoHues ?w_NoSet_NoStep ?w_NoSet_NoText ?w_NoSet_NoRow ?w_NoSet_NoName ?wv_NoSet ?we_NoSet ?gc_NoHues ?kc_NoHues ?yc_NoHues ?tc_NoHues ?xc_NoHues ?w_NoHues_ApartError ?w_NoHues_NoHouse ?w_NoHues_NoTie ?w_NoHues_NoSet ?w_NoHues_NoHues ?w_NoHues_NoStep ?w_NoHues_NoText ?w_NoHues_NoRow ?w_NoHues_NoName ?wv_NoHues ?we_NoHues ?gc_NoStep ?kc_NoStep ?yc_NoStep ?tc_NoStep ?xc_NoStep ?w_NoStep_ApartError ?w_NoStep_NoHouse ?w_NoStep_NoTie ?w_NoStep_NoSet ?w_NoStep_NoHues ?w_NoStep_NoStep ?w_NoStep_NoText ?w_NoStep_NoRow ?w_NoStep_NoName ?wv_NoStep ?we_NoStep ?gc_NoText ?kc_NoText ?yc_NoText ?tc_NoText ?xc_NoText ?w_NoText_ApartError ?w_NoText_NoHouse ?w_NoText_NoTie ?w_NoText_NoSet ?w_NoText_NoHues ?w_NoText_NoStep ?w_NoText_NoText ?w_NoText_NoRow ?w_NoText_NoName ?wv_NoText ?we_NoText ?gc_NoRow ?kc_NoRow ?yc_NoRow ?tc_NoRow ?xc_NoRow ?w_NoRow_ApartError ?w_NoRow_NoHouse ?w_NoRow_NoTie ?w_NoRow_NoSet ?w_NoRow_NoHues ?w_NoRow_NoStep ?w_NoRow_NoText ?w_NoRow_NoRow ?w_NoRow_NoName ?wv_NoRow ?we_NoRow ?gc_NoName ?kc_NoName ?yc_NoName ?tc_NoName ?iI ?tyI ?lkI ?oxI ?supI ?noI ?evI ?dvI ?w_NoName_ApartError ?w_NoName_NoHouse ?w_NoName_NoTie ?w_NoName_NoSet ?w_NoName_NoHues ?w_NoName_NoStep ?w_NoName_NoText ?w_NoName_NoRow ?w_NoName_NoName ?wv_NoName ?we_NoName ?gt_permutations ?gt_gcd ?z_ValueError ?z_set ?z_enumerate ?z_max ?z_sorted ?z_len ?z_list ?z_range ?z_isinstance ?z_int ?z_sum ?z_tuple ?z_bool ?z_min ?z_super
    (case a0 => k_is); (case l0 => k_is); (case c0 => k_is); (case k0 => k_is); (case a1 => k_is); (case l1 => k_is); (case c1 => k_is); (case k1 => k_is); (case a2 => k_is); (case l2 => k_is); (case c2 => k_is); (case k2 => k_is); (case a3 => k_is); (case l3 => k_is); (case c3 => k_is); (case k3 => k_is); (case a4 => k_is); (case l4 => k_is); (case c4 => k_is); (case k4 => k_is); (case a5 => k_is); (case l5 => k_is); (case c5 => k_is); (case k5 => k_is); (case a6 => k_is); (case l6 => k_is); (case c6 => k_is); (case k6 => k_is); (case a7 => k_is); (case l7 => k_is); (case c7 => k_is); (case k7 => k_is); (case a8 => k_is); (case l8 => k_is); (case c8 => k_is); (case k8 => k_is); (case a9 => k_is); (case l9 => k_is); (case c9 => k_is); (case k9 => k_is); (case a10 => k_is); (case l10 => k_is); (case c10 => k_is); (case k10 => k_is); (case a11 => k_is); (case l11 => k_is); (case c11 => k_is); (case k11 => k_is); (case a12 => k_is); (case l12 => k_is); (case c12 => k_is); (case k12 => k_is); (case a13 => k_is); (case l13 => k_is); (case c13 => k_is); (case k13 => k_is); (case a14 => k_is); (case l14 => k_is); (case c14 => k_is); (case k14 => k_is); (case a15 => k_is); (case l15 => k_is); (case c15 => k_is); (case k15 => k_is); (case a16 => k_is); (case l16 => k_is); (case c16 => k_is); (case k16 => k_is); (case a17 => k_is); (case l17 => k_is); (case c17 => k_is); (case k17 => k_is); (case a18 => k_is); (case l18 => k_is); (case c18 => k_is); (case k18 => k_is); (case a19 => k_is); (case l19 => k_is); (case c19 => k_is); (case k19 => k_is); (case a20 => k_is); (case l20 => k_is); (case c20 => k_is); (case k20 => k_is); (case a21 => k_is); (case l21 => k_is); (case c21 => k_is); (case k21 => k_is); (case a22 => k_is); (case l22 => k_is); (case c22 => k_is); (case k22 => k_is); (case a23 => k_is); (case l23 => k_is); (case c23 => k_is); (case k23 => k_is); (case a24 => k_is); (case l24 => k_is); (case c24 => k_is); (case k24 => k_is); (case a25 => k_is); (case l25 => k_is); (case c25 => k_is); (case k25 => k_is); (case a26 => k_is); (case l26 => k_is); (case c26 => k_is); (case k26 => k_is); (case a27 => k_is); (case l27 => k_is); (case c27 => k_is); (case k27 => k_is); (case a28 => k_is); (case l28 => k_is); (case c28 => k_is); (case k28 => k_is); (case a29 => k_is); (case l29 => k_is); (case c29 => k_is); (case k29 => k_is); (case a30 => k_is); (case l30 => k_is); (case c30 => k_is); (case k30 => k_is); (case a31 => k_is); (case l31 => k_is); (case c31 => k_is); (case k31 => k_is); (case gc_ApartError => k_is); (case kc_ApartError => k_is); (case tc_ApartError => k_is); (case gc_NoHouse => k_is); (case kc_NoHouse => k_is); (case tc_NoHouse => k_is); (case gc_NoTie => k_is); (case kc_NoTie => k_is); (case tc_NoTie => k_is); (case gc_NoSet => k_is); (case kc_NoSet => k_is); (case tc_NoSet => k_is); (case gc_NoHues => k_is); (case kc_NoHues => k_is); (case tc_NoHues => k_is); (case gc_NoStep => k_is); (case kc_NoStep => k_is); (case tc_NoStep => k_is); (case gc_NoText => k_is); (case kc_NoText => k_is); (case tc_NoText => k_is); (case gc_NoRow => k_is); (case kc_NoRow => k_is); (case tc_NoRow => k_is); (case gc_NoName => k_is); (case kc_NoName => k_is); (case tc_NoName => k_is); (case iI => k_is); (case tyI => k_is); (case lkI => k_is); (case noI => k_is); (case gt_permutations => k_is); (case gt_gcd => k_is); (case z_ValueError => k_is); (case z_set => k_is); (case z_enumerate => k_is); (case z_max => k_is); (case z_sorted => k_is); (case z_len => k_is); (case z_list => k_is); (case z_range => k_is); (case z_isinstance => k_is); (case z_int => k_is); (case z_sum => k_is); (case z_tuple => k_is); (case z_bool => k_is); (case z_min => k_is); (case z_super => k_is); (case yc_ApartError => exact ⟨by k_is, by k_is, by k_is, by k_is, by k_is, by k_is, by k_is, by k_is⟩); (case xc_ApartError => kernel_rfl); (case w_ApartError_ApartError => exact Fa.kit_self); (case w_ApartError_NoHouse => exact Fa.kit_ne (by decide) (by k_is) (by k_is) (by k_is)); (case w_ApartError_NoTie => exact Fa.kit_ne (by decide) (by k_is) (by k_is) (by k_is)); (case w_ApartError_NoSet => exact Fa.kit_ne (by decide) (by k_is) (by k_is) (by k_is)); (case w_ApartError_NoHues => exact Fa.kit_ne (by decide) (by k_is) (by k_is) (by k_is)); (case w_ApartError_NoStep => exact Fa.kit_ne (by decide) (by k_is) (by k_is) (by k_is)); (case w_ApartError_NoText => exact Fa.kit_ne (by decide) (by k_is) (by k_is) (by k_is)); (case w_ApartError_NoRow => exact Fa.kit_ne (by decide) (by k_is) (by k_is) (by k_is)); (case w_ApartError_NoName => exact Fa.kit_ne (by decide) (by k_is) (by k_is) (by k_is)); (case wv_ApartError => exact Fa.kit_type (by decide +kernel) (by k_is)); (case we_ApartError => exact PySem.W.exm_ref (by k_is) (by k_is) (by k_is) (by k_is)); (case yc_NoHouse => exact ⟨by k_is, by k_is, by k_is, by k_is, by k_is, by k_is, by k_is, by k_is⟩); (case xc_NoHouse => kernel_rfl); (case w_NoHouse_ApartError => exact Fa.kit_ne (by decide) (by k_is) (by k_is) (by k_is)); (case w_NoHouse_NoHouse => exact Fa.kit_self); (case w_NoHouse_NoTie => exact Fa.kit_ne (by decide) (by k_is) (by k_is) (by k_is)); (case w_NoHouse_NoSet => exact Fa.kit_ne (by decide) (by k_is) (by k_is) (by k_is)); (case w_NoHouse_NoHues => exact Fa.kit_ne (by decide) (by k_is) (by k_is) (by k_is)); (case w_NoHouse_NoStep => exact Fa.kit_ne (by decide) (by k_is) (by k_is) (by k_is)); (case w_NoHouse_NoText => exact Fa.kit_ne (by decide) (by k_is) (by k_is) (by k_is)); (case w_NoHouse_NoRow => exact Fa.kit_ne (by decide) (by k_is) (by k_is) (by k_is)); (case w_NoHouse_NoName => exact Fa.kit_ne (by decide) (by k_is) (by k_is) (by k_is)); (case wv_NoHouse => exact Fa.kit_type (by decide +kernel) (by k_is)); (case we_NoHouse => exact PySem.W.exm_ref (by k_is) (by k_is) (by k_is) (by k_is)); (case yc_NoTie => exact ⟨by k_is, by k_is, by k_is, by k_is, by k_is, by k_is, by k_is, by k_is⟩); (case xc_NoTie => kernel_rfl); (case w_NoTie_ApartError => exact Fa.kit_ne (by decide) (by k_is) (by k_is) (by k_is)); (case w_NoTie_NoHouse => exact Fa.kit_ne (by decide) (by k_is) (by k_is) (by k_is)); (case w_NoTie_NoTie => exact Fa.kit_self); (case w_NoTie_NoSet => exact Fa.kit_ne (by decide) (by k_is) (by k_is) (by k_is)); (case w_NoTie_NoHues => exact Fa.kit_ne (by decide) (by k_is) (by k_is) (by k_is)); (case w_NoTie_NoStep => exact Fa.kit_ne (by decide) (by k_is) (by k_is) (by k_is)); (case w_NoTie_NoText => exact Fa.kit_ne (by decide) (by k_is) (by k_is) (by k_is)); (case w_NoTie_NoRow => exact Fa.kit_ne (by decide) (by k_is) (by k_is) (by k_is)); (case w_NoTie_NoName => exact Fa.kit_ne (by decide) (by k_is) (by k_is) (by k_is)); (case wv_NoTie => exact Fa.kit_type (by decide +kernel) (by k_is)); (case we_NoTie => exact PySem.W.exm_ref (by k_is) (by k_is) (by k_is) (by k_is)); (case yc_NoSet => exact ⟨by k_is, by k_is, by k_is, by k_is, by k_is, by k_is, by k_is, by k_is⟩); (case xc_NoSet => kernel_rfl); (case w_NoSet_ApartError => exact Fa.kit_ne (by decide) (by k_is) (by k_is) (by k_is)); (case w_NoSet_NoHouse => exact Fa.kit_ne (by decide) (by k_is) (by k_is) (by k_is)); (case w_NoSet_NoTie => exact Fa.kit_ne (by decide) (by k_is) (by k_is) (by k_is)); (case w_NoSet_NoSet => exact Fa.kit_self); (case w_NoSet_NoHues => exact Fa.kit_ne (by decide) (by k_is) (by k_is) (by k_is)); (case w_NoSet_NoStep => exact Fa.kit_ne (by decide) (by k_is) (by k_is) (by k_is)); (case w_NoSet_NoText => exact Fa.kit_ne (by decide) (by k_is) (by k_is) (by k_is)); (case w_NoSet_NoRow => exact Fa.kit_ne (by decide) (by k_is) (by k_is) (by k_is)); (case w_NoSet_NoName => exact Fa.kit_ne (by decide) (by k_is) (by k_is) (by k_is)); (case wv_NoSet => exact Fa.kit_type (by decide +kernel) (by k_is)); (case we_NoSet => exact PySem.W.exm_ref (by k_is) (by k_is) (by k_is) (by k_is)); (case yc_NoHues => exact ⟨by k_is, by k_is, by k_is, by k_is, by k_is, by k_is, by k_is, by k_is⟩); (case xc_NoHues => kernel_rfl); (case w_NoHues_ApartError => exact Fa.kit_ne (by decide) (by k_is) (by k_is) (by k_is)); (case w_NoHues_NoHouse => exact Fa.kit_ne (by decide) (by k_is) (by k_is) (by k_is)); (case w_NoHues_NoTie => exact Fa.kit_ne (by decide) (by k_is) (by k_is) (by k_is)); (case w_NoHues_NoSet => exact Fa.kit_ne (by decide) (by k_is) (by k_is) (by k_is)); (case w_NoHues_NoHues => exact Fa.kit_self); (case w_NoHues_NoStep => exact Fa.kit_ne (by decide) (by k_is) (by k_is) (by k_is)); (case w_NoHues_NoText => exact Fa.kit_ne (by decide) (by k_is) (by k_is) (by k_is)); (case w_NoHues_NoRow => exact Fa.kit_ne (by decide) (by k_is) (by k_is) (by k_is)); (case w_NoHues_NoName => exact Fa.kit_ne (by decide) (by k_is) (by k_is) (by k_is)); (case wv_NoHues => exact Fa.kit_type (by decide +kernel) (by k_is)); (case we_NoHues => exact PySem.W.exm_ref (by k_is) (by k_is) (by k_is) (by k_is)); (case yc_NoStep => exact ⟨by k_is, by k_is, by k_is, by k_is, by k_is, by k_is, by k_is, by k_is⟩); (case xc_NoStep => kernel_rfl); (case w_NoStep_ApartError => exact Fa.kit_ne (by decide) (by k_is) (by k_is) (by k_is)); (case w_NoStep_NoHouse => exact Fa.kit_ne (by decide) (by k_is) (by k_is) (by k_is)); (case w_NoStep_NoTie => exact Fa.kit_ne (by decide) (by k_is) (by k_is) (by k_is)); (case w_NoStep_NoSet => exact Fa.kit_ne (by decide) (by k_is) (by k_is) (by k_is)); (case w_NoStep_NoHues => exact Fa.kit_ne (by decide) (by k_is) (by k_is) (by k_is)); (case w_NoStep_NoStep => exact Fa.kit_self); (case w_NoStep_NoText => exact Fa.kit_ne (by decide) (by k_is) (by k_is) (by k_is)); (case w_NoStep_NoRow => exact Fa.kit_ne (by decide) (by k_is) (by k_is) (by k_is)); (case w_NoStep_NoName => exact Fa.kit_ne (by decide) (by k_is) (by k_is) (by k_is)); (case wv_NoStep => exact Fa.kit_type (by decide +kernel) (by k_is)); (case we_NoStep => exact PySem.W.exm_ref (by k_is) (by k_is) (by k_is) (by k_is)); (case yc_NoText => exact ⟨by k_is, by k_is, by k_is, by k_is, by k_is, by k_is, by k_is, by k_is⟩); (case xc_NoText => kernel_rfl); (case w_NoText_ApartError => exact Fa.kit_ne (by decide) (by k_is) (by k_is) (by k_is)); (case w_NoText_NoHouse => exact Fa.kit_ne (by decide) (by k_is) (by k_is) (by k_is)); (case w_NoText_NoTie => exact Fa.kit_ne (by decide) (by k_is) (by k_is) (by k_is)); (case w_NoText_NoSet => exact Fa.kit_ne (by decide) (by k_is) (by k_is) (by k_is)); (case w_NoText_NoHues => exact Fa.kit_ne (by decide) (by k_is) (by k_is) (by k_is)); (case w_NoText_NoStep => exact Fa.kit_ne (by decide) (by k_is) (by k_is) (by k_is)); (case w_NoText_NoText => exact Fa.kit_self); (case w_NoText_NoRow => exact Fa.kit_ne (by decide) (by k_is) (by k_is) (by k_is)); (case w_NoText_NoName => exact Fa.kit_ne (by decide) (by k_is) (by k_is) (by k_is)); (case wv_NoText => exact Fa.kit_type (by decide +kernel) (by k_is)); (case we_NoText => exact PySem.W.exm_ref (by k_is) (by k_is) (by k_is) (by k_is)); (case yc_NoRow => exact ⟨by k_is, by k_is, by k_is, by k_is, by k_is, by k_is, by k_is, by k_is⟩); (case xc_NoRow => kernel_rfl); (case w_NoRow_ApartError => exact Fa.kit_ne (by decide) (by k_is) (by k_is) (by k_is)); (case w_NoRow_NoHouse => exact Fa.kit_ne (by decide) (by k_is) (by k_is) (by k_is)); (case w_NoRow_NoTie => exact Fa.kit_ne (by decide) (by k_is) (by k_is) (by k_is)); (case w_NoRow_NoSet => exact Fa.kit_ne (by decide) (by k_is) (by k_is) (by k_is)); (case w_NoRow_NoHues => exact Fa.kit_ne (by decide) (by k_is) (by k_is) (by k_is)); (case w_NoRow_NoStep => exact Fa.kit_ne (by decide) (by k_is) (by k_is) (by k_is)); (case w_NoRow_NoText => exact Fa.kit_ne (by decide) (by k_is) (by k_is) (by k_is)); (case w_NoRow_NoRow => exact Fa.kit_self); (case w_NoRow_NoName => exact Fa.kit_ne (by decide) (by k_is) (by k_is) (by k_is)); (case wv_NoRow => exact Fa.kit_type (by decide +kernel) (by k_is)); (case we_NoRow => exact PySem.W.exm_ref (by k_is) (by k_is) (by k_is) (by k_is)); (case yc_NoName => exact ⟨by k_is, by k_is, by k_is, by k_is, by k_is, by k_is, by k_is, by k_is⟩); (case oxI => exact ⟨⟨_, _, _, _, _, _, _, _, _, _, _, _, _, _, _, by k_is, by first | rfl | decide +kernel⟩, by k_is, by k_is, by k_is, by k_is⟩); (case supI => exact ⟨⟨⟨_, _, _, _, _, _, _, _, _, _, _, _, _, _, _, by k_is, by first | rfl | decide +kernel⟩, by k_is, by k_is, by k_is, by k_is⟩, by k_is, by first | ks_is | kernel_rfl, by k_is, by k_is, ⟨_, _, _, by k_is⟩, ⟨_, _, _, _, _, by k_is, by first | rfl | k_is⟩, by first | rfl | decide +kernel, by first | rfl | decide +kernel, by k_is⟩); (case evI => exact fun env => ⟨_, rfl⟩); (case dvI => exact rfl); (case w_NoName_ApartError => exact Fa.kit_ne (by decide) (by k_is) (by k_is) (by k_is)); (case w_NoName_NoHouse => exact Fa.kit_ne (by decide) (by k_is) (by k_is) (by k_is)); (case w_NoName_NoTie => exact Fa.kit_ne (by decide) (by k_is) (by k_is) (by k_is)); (case w_NoName_NoSet => exact Fa.kit_ne (by decide) (by k_is) (by k_is) (by k_is)); (case w_NoName_NoHues => exact Fa.kit_ne (by decide) (by k_is) (by k_is) (by k_is)); (case w_NoName_NoStep => exact Fa.kit_ne (by decide) (by k_is) (by k_is) (by k_is)); (case w_NoName_NoText => exact Fa.kit_ne (by decide) (by k_is) (by k_is) (by k_is)); (case w_NoName_NoRow => exact Fa.kit_ne (by decide) (by k_is) (by k_is) (by k_is)); (case w_NoName_NoName => exact Fa.kit_self); (case wv_NoName => exact Fa.kit_type (by decide +kernel) (by k_is)); (case we_NoName => exact PySem.W.exm_ref (by k_is) (by k_is) (by k_is) (by k_is))
