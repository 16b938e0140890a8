import PyProof.Rows.All
import Wide.All
import OpenK.AllK
import Wide.FinOn
import HandS.ForMost
import HandS.Evl
import HandS.Wide
import HandS.Walk
import HandS.Conv
import HandS.IsInst
import HandS.Zip
import HandS.Deep
import HandS.SetFor
import HandS.Strs
import HandS.TupSets
import HandS.TupAny
import HandS.TupLe
import HandS.SortOrd
import HandS.SortRule
import HandS.SortInts
import HandS.SortKw
import HandS.Keys
import HandS.Flow
import HandS.SetKeys
import HandS.EndBits
import KE.DataMinMax
import KE.SortData
import PyProof.CallFns
import HandS.Exc
import HandS.ExcIs
import HandS.TryOnly
import HandS.ExcInit
import KE.KExcSuper
import KE.KExcIs
import HandS.ExcValue
import HandS.ExcField
import HandS.RaiseMore
import HandS.RaiseOp
import HandS.ExcOwn
import HandS.WordsExc
import PyProof.ZipIter
import PyProof.FactsBase
import PyProof.TableTree
import PyProof.FactsTree
import PyProof.PlainAttrs
import HandS.DictSubView0
import HandS.DictComp
import HandS.Style
import HandS.ListItems
import HandS.Text
import HandS.FStr
import HandS.Gcd
import HandS.Iter
import PySem.Challenge.RW_fullapart_k72_whole_written_and_read
set_option Elab.async false
set_option linter.all false
set_option maxRecDepth 100000
set_option maxHeartbeats 5000000
section
namespace PySem.F
/-! ### facts of itertools.combinations -/
theorem slot_comb_init : Slot "itertools.combinations" "__init__" "object.__init__" :=
  .of (owner := "object") (n := "__init__") (by rw [typeLookup_type, builtinLookup_eq_fast]; kernel_rfl) (by decide +kernel) (by decide +kernel) (by decide +kernel)
    (by first | exact .inl (by decide +kernel) | exact .inr (by decide +kernel)) (by rw [isSubtype_type]; kernel_rfl)
theorem slot_comb_next : Slot "itertools.combinations" "__next__" "itertools.combinations.__next__" :=
  .of (owner := "itertools.combinations") (n := "__next__") (by rw [typeLookup_type, builtinLookup_eq_fast]; kernel_rfl) (by decide +kernel) (by decide +kernel) (by decide +kernel)
    (by first | exact .inl (by decide +kernel) | exact .inr (by decide +kernel)) (by rw [isSubtype_type]; kernel_rfl)
theorem slot_comb_iter : Slot "itertools.combinations" "__iter__" "itertools.combinations.__iter__" :=
  .of (owner := "itertools.combinations") (n := "__iter__") (by rw [typeLookup_type, builtinLookup_eq_fast]; kernel_rfl) (by decide +kernel) (by decide +kernel) (by decide +kernel)
    (by first | exact .inl (by decide +kernel) | exact .inr (by decide +kernel)) (by rw [isSubtype_type]; kernel_rfl)
theorem entry_comb_next : entryFor table "itertools.combinations.__next__" = some Builtin.«itertools.combinations.__next__» := entryFor_of_tree (by kernel_rfl)
theorem entry_comb_new : entryFor table "itertools.combinations.__new__" = some Builtin.«itertools.combinations.__new__» := entryFor_of_tree (by kernel_rfl)
theorem entry_comb_iter : entryFor table "itertools.combinations.__iter__" = some Builtin.«dict_keyiterator.__iter__» :=
  entryFor_alias (id' := "dict_keyiterator.__iter__") (by kernel_rfl) (by first | rfl | decide +kernel | (unfold String.splitOn; simp +decide [String.splitOnAux])) (by decide +kernel) (by kernel_rfl)
theorem mro_comb : mroOf (.type "itertools.combinations") = pure [.type "itertools.combinations", .type "object"] := by rw [mroOf_type]; kernel_rfl
theorem lookup_comb_new : typeLookup (.type "itertools.combinations") "__new__" = pure (some (.builtin "itertools.combinations.__new__")) := by rw [typeLookup_type, builtinLookup_eq_fast]; kernel_rfl
theorem called_comb : TypeCalled "itertools.combinations" "itertools.combinations.__new__" "object.__init__" :=
  ⟨by decide +kernel, by decide +kernel, ⟨_, _, mro_comb⟩, madeBy_type mro_comb lookup_comb_new (by decide +kernel), by decide +kernel, by rw [isSubtype_type]; kernel_rfl, slot_comb_init⟩
theorem typeCall_comb_2 (a b : Value) : checkTypeCall "itertools.combinations" ⟨[a, b], []⟩ = pure () := by kernel_rfl
theorem newCall_comb_2 (a b : Value) : checkBuiltinCall "itertools.combinations.__new__" ⟨[.type "itertools.combinations", a, b], []⟩ = pure () := by kernel_rfl
end PySem.F

end
section
namespace PySem
open Sem (wp)
namespace F
theorem owner_comb : Manifest.owners.lookup (String.ofList ['s', 'n', 'o', 'i', 't', 'a', 'n', 'i', 'b', 'm', 'o', 'c', '.', 's', 'l', 'o', 'o', 't', 'r', 'e', 't', 'i'].reverse) = some Manifest.sig_itertools_combinations := by kernel_rfl
theorem args_comb_next_1 (a : Value) : argsOk "itertools.combinations.__next__" ⟨[a], []⟩ := by
  unfold argsOk; rw [signature?_of (id := "itertools.combinations.__next__") (n := ['_', '_', 't', 'x', 'e', 'n', '_', '_']) (o := ['s', 'n', 'o', 'i', 't', 'a', 'n', 'i', 'b', 'm', 'o', 'c', '.', 's', 'l', 'o', 'o', 't', 'r', 'e', 't', 'i']) (by kernel_rfl) owner_comb]; kernel_rfl
theorem args_comb_iter_1 (a : Value) : argsOk "itertools.combinations.__iter__" ⟨[a], []⟩ := by
  unfold argsOk; rw [signature?_of (id := "itertools.combinations.__iter__") (n := ['_', '_', 'r', 'e', 't', 'i', '_', '_']) (o := ['s', 'n', 'o', 'i', 't', 'a', 'n', 'i', 'b', 'm', 'o', 'c', '.', 's', 'l', 'o', 'o', 't', 'r', 'e', 't', 'i']) (by kernel_rfl) owner_comb]; kernel_rfl
end F
abbrev IsComb (h : Heap) (z pl : Addr) (st : Int) (res : Value) (i j : Nat) : Prop :=
  h.get? z = some { cls := .type "itertools.combinations", dict := none, data := .fields #[.ref pl, rawInt st, res, rawInt i, rawInt j], slots := #[] }
section
variable {prog : Program} {w : World} {A : Around} {E : Value → Shared → Prop} {s : Shared}
theorem wpAny_pyIter_comb {z pl : Addr} {st : Int} {res : Value} {i j : Nat} {Q : Value → Shared → Prop} (hz : IsComb s.heap z pl st res i j) (h : Q (.ref z) s) : wpAny (model prog w) A (pyIter (.ref z)) Q E s := by
  have hT : s.TypeIs (.ref z) "itertools.combinations" := ⟨_, hz, rfl⟩
  refine wpAny_pyIter_slot hT F.slot_comb_iter (wpAny_call_entry F.slot_comb_iter hT F.entry_comb_iter ?_ (F.args_comb_iter_1 _))
  show wpAny _ _ (ret (.ref z)) _ _ s
  exact wpAny_pure ⟨_, rfl, "itertools.combinations", _, hT, F.slot_comb_next.lookup, h⟩
theorem comb_hand {z pl : Addr} {items : Array Value} {o : Obj} {n0 : Nat} {res : Value} {i j : Nat} {Q : Value → Shared → Prop} (hz : IsComb s.heap z pl 1 res i j) (hp : s.heap.get? pl = some o) (hd : o.data = .seq items n0) (hne : z ≠ pl)
    (hQ : ∀ h', IsComb h' z pl 1 (.ref s.heap.objs.size) i j → h'.get? s.heap.objs.size = some { cls := .type "tuple", data := .seq #[items.getD i .none, items.getD j .none] } → h'.objs.size = s.heap.objs.size + 1 →
      (∀ c x, c ≠ z → s.heap.get? c = some x → h'.get? c = some x) → Q (.ref s.heap.objs.size) { s with heap := h' }) :
    wpAny (model prog w) A (do
        let result ← (do let items ← Builtin.Itertools.itPoolItems (.ref pl); newTuple ([i, j].map fun i => items.getD i .none))
        let before ← field (.ref z) 2
        setField (.ref z) 2 result
        letGo [before] [result]
        ret result) (fun r s' => ∃ v, r = .done (.ret v) ∧ Q v s') E s := by
  refine wpAny_bind ?_
  refine wpAny_bind ?_
  unfold Builtin.Itertools.itPoolItems
  refine wpAny_bind (wpAny_seqItems hp hd ?_)
  refine wpAny_pure ?_
  refine wpAny_newTuple ?_ (by show 2 ≤ sizeLine; decide)
  have hz1 : IsComb (s.heap.push { cls := .type "tuple", data := .seq ([i, j].map fun i => items.getD i .none).toArray }) z pl 1 res i j := Heap.get?_push_of_some _ hz
  refine wpAny_bind (wpAny_field hz1 rfl (x := res) rfl ?_)
  refine wpAny_bind (wpAny_setField_rec hz1 (by simp) fun h2 hz2 hs2 => ?_)
  refine wpAny_bind (wpAny_letGo ?_)
  have hzl : z < s.heap.objs.size := Heap.lt_size hz
  refine wpAny_pure ⟨_, rfl, hQ h2 hz2 ?_ ?_ fun c x hc e => ?_⟩
  · exact hs2.extBut _ _ (Nat.ne_of_gt hzl) (Heap.get?_push_size _ rfl)
  · rw [hs2.1, Heap.size_push]
  · exact hs2.extBut _ _ hc (Heap.get?_push_of_some _ e)
theorem comb_next0 {z pl : Addr} {items : Array Value} {o : Obj} {n0 : Nat} {res : Value} {i j : Nat} {Q : Value → Shared → Prop} (hz : IsComb s.heap z pl 0 res i j) (hp : s.heap.get? pl = some o) (hd : o.data = .seq items n0) (hne : z ≠ pl)
    (hQ : ∀ h', IsComb h' z pl 1 (.ref s.heap.objs.size) i j → h'.get? s.heap.objs.size = some { cls := .type "tuple", data := .seq #[items.getD i .none, items.getD j .none] } → h'.objs.size = s.heap.objs.size + 1 →
      (∀ c x, c ≠ z → s.heap.get? c = some x → h'.get? c = some x) → Q (.ref s.heap.objs.size) { s with heap := h' }) :
    wpAny (model prog w) A (Builtin.«itertools.combinations.__next__» ⟨[.ref z], []⟩) (fun r s' => ∃ v, r = .done (.ret v) ∧ Q v s') E s := by
  show wpAny _ _ (field (.ref z) 0 >>= _) _ _ _
  refine wpAny_bind (wpAny_field hz rfl (x := .ref pl) rfl ?_)
  refine wpAny_bind ?_
  unfold Builtin.Itertools.itNumbersFrom
  refine wpAny_bind (wpAny_load hz ?_)
  refine wpAny_pure ?_
  show wpAny _ _ (Builtin.Itertools.itIntField (.ref z) 1 >>= _) _ _ _
  refine wpAny_bind ?_
  unfold Builtin.Itertools.itIntField
  refine wpAny_bind (wpAny_field hz rfl (x := rawInt 0) rfl ?_)
  refine wpAny_pure ?_
  show wpAny _ _ (setField (.ref z) 1 (rawInt 1) >>= _) _ _ _
  refine wpAny_bind (wpAny_setField_rec hz (by simp) fun h1 hz1 hs1 => ?_)
  replace hz1 : IsComb h1 z pl 1 res i j := hz1
  refine comb_hand (s := { s with heap := h1 }) hz1 (hs1.extBut _ _ hne.symm hp) hd hne fun h' a1 a2 a3 a4 => ?_
  have sz : h1.objs.size = s.heap.objs.size := hs1.1
  show Q (.ref h1.objs.size) _
  rw [sz] at a1 a2 a3 ⊢
  exact hQ h' a1 a2 a3 fun c x hc e => a4 c x hc (hs1.extBut _ _ hc e)
def ncomb (n : Nat) (indices : List Nat) : Option (List Nat) :=
  let r := indices.length
  match (List.range r).reverse.find? fun i => indices.getD i 0 != i + n - r with
  | none => none
  | some i => some (indices.take i ++ (List.range (r - i)).map (indices.getD i 0 + 1 + ·))
theorem ncomb_inc {n i j : Nat} (h : j + 1 < n) : ncomb n [i, j] = some [i, j + 1] := by
  have e : ((j != 1 + n - 2) : Bool) = true := by simp; omega
  show (match ([1, 0] : List Nat).find? fun k => [i, j].getD k 0 != k + n - 2 with | none => none | some k => some ([i, j].take k ++ (List.range (2 - k)).map ([i, j].getD k 0 + 1 + ·))) = _
  rw [List.find?_cons_of_pos (by simpa using e)]
  rfl
theorem ncomb_row {n i j : Nat} (h : j + 1 = n) (g : i + 2 < n) : ncomb n [i, j] = some [i + 1, i + 2] := by
  have e : ((j != 1 + n - 2) : Bool) = false := by simp; omega
  have e2 : ((i != 0 + n - 2) : Bool) = true := by simp; omega
  show (match ([1, 0] : List Nat).find? fun k => [i, j].getD k 0 != k + n - 2 with | none => none | some k => some ([i, j].take k ++ (List.range (2 - k)).map ([i, j].getD k 0 + 1 + ·))) = _
  rw [List.find?_cons_of_neg (by simpa using e), List.find?_cons_of_pos (by simpa using e2)]
  rfl
theorem ncomb_end {n i j : Nat} (h : j + 1 = n) (g : i + 2 = n) : ncomb n [i, j] = none := by
  have e : ((j != 1 + n - 2) : Bool) = false := by simp; omega
  have e2 : ((i != 0 + n - 2) : Bool) = false := by simp; omega
  show (match ([1, 0] : List Nat).find? fun k => [i, j].getD k 0 != k + n - 2 with | none => none | some k => some ([i, j].take k ++ (List.range (2 - k)).map ([i, j].getD k 0 + 1 + ·))) = _
  rw [List.find?_cons_of_neg (by simpa using e), List.find?_cons_of_neg (by simpa using e2)]
  rfl
theorem comb_next1 {z pl : Addr} {items : Array Value} {o : Obj} {n0 : Nat} {res : Value} {i j i' j' : Nat} {Q : Value → Shared → Prop} (hz : IsComb s.heap z pl 1 res i j) (hp : s.heap.get? pl = some o) (hd : o.data = .seq items n0) (hne : z ≠ pl) (hst : ncomb items.size [i, j] = some [i', j'])
    (hQ : ∀ h', IsComb h' z pl 1 (.ref s.heap.objs.size) i' j' → h'.get? s.heap.objs.size = some { cls := .type "tuple", data := .seq #[items.getD i' .none, items.getD j' .none] } → h'.objs.size = s.heap.objs.size + 1 →
      (∀ c x, c ≠ z → s.heap.get? c = some x → h'.get? c = some x) → Q (.ref s.heap.objs.size) { s with heap := h' }) :
    wpAny (model prog w) A (Builtin.«itertools.combinations.__next__» ⟨[.ref z], []⟩) (fun r s' => ∃ v, r = .done (.ret v) ∧ Q v s') E s := by
  show wpAny _ _ (field (.ref z) 0 >>= _) _ _ _
  refine wpAny_bind (wpAny_field hz rfl (x := .ref pl) rfl ?_)
  refine wpAny_bind ?_
  unfold Builtin.Itertools.itNumbersFrom
  refine wpAny_bind (wpAny_load hz ?_)
  refine wpAny_pure ?_
  show wpAny _ _ (Builtin.Itertools.itIntField (.ref z) 1 >>= _) _ _ _
  refine wpAny_bind ?_
  unfold Builtin.Itertools.itIntField
  refine wpAny_bind (wpAny_field hz rfl (x := rawInt 1) rfl ?_)
  refine wpAny_pure ?_
  show wpAny _ _ (Builtin.Itertools.itPoolItems (.ref pl) >>= _) _ _ _
  refine wpAny_bind ?_
  unfold Builtin.Itertools.itPoolItems
  refine wpAny_bind (wpAny_seqItems hp hd ?_)
  refine wpAny_pure ?_
  show wpAny _ _ (match ncomb items.size [(i : Int).toNat, (j : Int).toNat] with
    | some next => (Builtin.Itertools.itSetNumbersFrom (.ref z) 3 next >>= fun _ => (do
        let result ← (do let items ← Builtin.Itertools.itPoolItems (.ref pl); newTuple (next.map fun i => items.getD i .none))
        let before ← field (.ref z) 2
        setField (.ref z) 2 result
        letGo [before] [result]
        ret result))
    | none => (setField (.ref z) 1 (rawInt 2) >>= fun _ => Builtin.Itertools.itStop)) _ _ s
  rw [Int.toNat_natCast, Int.toNat_natCast, hst]
  refine wpAny_bind ?_
  unfold Builtin.Itertools.itSetNumbersFrom
  refine wpAny_updateFields hz rfl ?_ (by show 5 ≤ sizeLine + 3; decide)
  have hz1 : IsComb (s.heap.update z (Obj.mapFields fun fs => fs.extract 0 3 ++ ([i', j'].map fun (n : Nat) => rawInt n).toArray)) z pl 1 res i' j' := Heap.get?_update_self _ hz rfl
  have sb : Heap.SameBut z s.heap (s.heap.update z (Obj.mapFields fun fs => fs.extract 0 3 ++ ([i', j'].map fun (n : Nat) => rawInt n).toArray)) := Heap.SameBut.update ..
  refine comb_hand hz1 (sb.extBut _ _ hne.symm hp) hd hne fun h' a1 a2 a3 a4 => ?_
  have sz := sb.1
  show Q (.ref (s.heap.update z (Obj.mapFields fun fs => fs.extract 0 3 ++ ([i', j'].map fun (n : Nat) => rawInt n).toArray)).objs.size) _
  rw [sz] at a1 a2 a3 ⊢
  exact hQ h' a1 a2 a3 fun c x hc e => a4 c x hc (sb.extBut _ _ hc e)
theorem comb_next_end {z pl : Addr} {items : Array Value} {o : Obj} {n0 : Nat} {res : Value} {i j : Nat} {Q : Fin → Shared → Prop} (hh : A.handled = none) (hz : IsComb s.heap z pl 1 res i j) (hp : s.heap.get? pl = some o) (hd : o.data = .seq items n0) (hst : ncomb items.size [i, j] = none)
    (hE : ∀ h' e, (∀ c x, c ≠ z → s.heap.get? c = some x → h'.get? c = some x) → (∃ o, h'.get? e = some o ∧ o.cls = .type "StopIteration") → E (.ref e) { s with heap := h' }) :
    wpAny (model prog w) A (Builtin.«itertools.combinations.__next__» ⟨[.ref z], []⟩) Q E s := by
  show wpAny _ _ (field (.ref z) 0 >>= _) _ _ _
  refine wpAny_bind (wpAny_field hz rfl (x := .ref pl) rfl ?_)
  refine wpAny_bind ?_
  unfold Builtin.Itertools.itNumbersFrom
  refine wpAny_bind (wpAny_load hz ?_)
  refine wpAny_pure ?_
  show wpAny _ _ (Builtin.Itertools.itIntField (.ref z) 1 >>= _) _ _ _
  refine wpAny_bind ?_
  unfold Builtin.Itertools.itIntField
  refine wpAny_bind (wpAny_field hz rfl (x := rawInt 1) rfl ?_)
  refine wpAny_pure ?_
  show wpAny _ _ (Builtin.Itertools.itPoolItems (.ref pl) >>= _) _ _ _
  refine wpAny_bind ?_
  unfold Builtin.Itertools.itPoolItems
  refine wpAny_bind (wpAny_seqItems hp hd ?_)
  refine wpAny_pure ?_
  show wpAny _ _ (match ncomb items.size [(i : Int).toNat, (j : Int).toNat] with
    | some next => (Builtin.Itertools.itSetNumbersFrom (.ref z) 3 next >>= fun _ => (do
        let result ← (do let items ← Builtin.Itertools.itPoolItems (.ref pl); newTuple (next.map fun i => items.getD i .none))
        let before ← field (.ref z) 2
        setField (.ref z) 2 result
        letGo [before] [result]
        ret result))
    | none => (setField (.ref z) 1 (rawInt 2) >>= fun _ => Builtin.Itertools.itStop)) _ _ s
  rw [Int.toNat_natCast, Int.toNat_natCast, hst]
  refine wpAny_bind (wpAny_setField_rec hz (by simp) fun h1 hz1 hs1 => ?_)
  refine DVw.raise_stop hh fun h' e oe k1 k2 k3 => hE h' e (fun c x hc g => k1 c x (hs1.extBut _ _ hc g)) ⟨oe, k2, k3⟩
theorem pyNext_comb_item {z pl : Addr} {items : Array Value} {o : Obj} {n0 : Nat} {st : Int} {res : Value} {i j i' j' : Nat} {Q : Option Value → Shared → Prop} (hz : IsComb s.heap z pl st res i j) (hp : s.heap.get? pl = some o) (hd : o.data = .seq items n0) (hne : z ≠ pl)
    (hst : (st = 0 ∧ i' = i ∧ j' = j) ∨ (st = 1 ∧ ncomb items.size [i, j] = some [i', j']))
    (hQ : ∀ h', IsComb h' z pl 1 (.ref s.heap.objs.size) i' j' → h'.get? s.heap.objs.size = some { cls := .type "tuple", data := .seq #[items.getD i' .none, items.getD j' .none] } → h'.objs.size = s.heap.objs.size + 1 →
      (∀ c x, c ≠ z → s.heap.get? c = some x → h'.get? c = some x) → Q (some (.ref s.heap.objs.size)) { s with heap := h' }) :
    wpAny (model prog w) A (pyNext (.ref z)) Q E s := by
  have hT : s.TypeIs (.ref z) "itertools.combinations" := ⟨_, hz, rfl⟩
  unfold pyNext
  refine wpAny_bind (wpAny_attempt (wpAny_callSpecial?_slot (name := Str.ofString "__next__") hT F.slot_comb_next
    (wpAny_call_entry F.slot_comb_next hT F.entry_comb_next ?_ (F.args_comb_next_1 _))))
  rcases hst with ⟨rfl, rfl, rfl⟩ | ⟨rfl, hst⟩
  · exact comb_next0 hz hp hd hne fun h' a1 a2 a3 a4 => wpAny_pure (hQ h' a1 a2 a3 a4)
  · exact comb_next1 hz hp hd hne hst fun h' a1 a2 a3 a4 => wpAny_pure (hQ h' a1 a2 a3 a4)
theorem pyNext_comb_end {z pl : Addr} {items : Array Value} {o : Obj} {n0 : Nat} {res : Value} {i j : Nat} {Q : Option Value → Shared → Prop} (hh : A.handled = none) (hz : IsComb s.heap z pl 1 res i j) (hp : s.heap.get? pl = some o) (hd : o.data = .seq items n0) (hst : ncomb items.size [i, j] = none)
    (hQ : ∀ h', (∀ c x, c ≠ z → s.heap.get? c = some x → h'.get? c = some x) → Q none { s with heap := h' }) : wpAny (model prog w) A (pyNext (.ref z)) Q E s := by
  have hT : s.TypeIs (.ref z) "itertools.combinations" := ⟨_, hz, rfl⟩
  unfold pyNext
  refine wpAny_bind (wpAny_attempt (wpAny_callSpecial?_slot (name := Str.ofString "__next__") hT F.slot_comb_next
    (wpAny_call_entry F.slot_comb_next hT F.entry_comb_next (comb_next_end hh hz hp hd hst fun h' e hk he => ?_) (F.args_comb_next_1 _))))
  obtain ⟨o, ho, hc⟩ := he
  refine wpAny_bind (wpAny_isInstance (T := "StopIteration") (b := true) ⟨o, ho, hc⟩ isSubtype_stop ?_)
  exact wpAny_pure (hQ _ hk)
end
end PySem

end
section
namespace L2
open PySem PySem.Spec PyProof.Rows
section
variable {prog : Program} {w : World} {A : Around} {E : Value → Shared → Prop} {s : Shared} {r : Addr} {a b c : Int} {t u v : Tok} {n : Nat}
def poolR (short : String) (args : Args) : Sem (Value × Value × Nat × Nat) := do
  let (cls, rest) ← Builtin.Itertools.itClassAndRest short args
  let [some iterable, some rV] ← Builtin.Itertools.itBindNamed short ["iterable", "r"] 2 2 rest args.kw | unsupported "internal:itertools.combinations.__new__"
  let r ← Builtin.Itertools.itSsizeArg rV
  let items ← collect iterable
  if r < 0 then rule "itertools.combinations.negative-r"; raiseError "ValueError" "r must be non-negative"
  if Builtin.Itertools.itTooMany r then unsupported s!"itertools.{short}.__new__:memory"
  return (cls, ← newTuple items, items.length, r.toNat)
theorem comb_new {k : Tok} {Q : Value → Shared → Prop} (hh : A.handled = none) (hr : IsRange s.heap r a b c t u v) (hsmall : Builtin.Range.small a b c = true) (hn : Builtin.Range.rangeSize a b c = n) (hlen : n ≤ 2 ^ 24)
    (hQ : ∀ (h' : Heap) (tk : Nat) (acc : Array Value), (∀ b o, s.heap.get? b = some o → h'.get? b = some o) → ItemsOf (fun i v => ∃ t, v = .int (a + i * c) t) acc n →
      Q (.ref (h'.objs.size + 1)) { s with heap := (h'.push { cls := .type "tuple", data := .seq acc }).push { cls := .type "itertools.combinations", data := .fields #[.ref h'.objs.size, rawInt (if 2 > n then 2 else 0), .none, rawInt 0, rawInt 1] }, toks := tk }) :
    wpAny (model prog w) A (Builtin.«itertools.combinations.__new__» ⟨[.type "itertools.combinations", .ref r, .int 2 k], []⟩) (fun f s' => ∃ v, f = .done (.ret v) ∧ Q v s') E s := by
  have hsub : isSubtype (.type "itertools.combinations") (.type "itertools.combinations") = pure true := by rw [isSubtype_type]; kernel_rfl
  unfold Builtin.«itertools.combinations.__new__»
  refine wpAny_bind ?_
  show wpAny _ _ (poolR "combinations" ⟨[.type "itertools.combinations", .ref r, .int 2 k], []⟩) _ _ s
  unfold poolR
  refine wpAny_bind ?_
  unfold Builtin.Itertools.itClassAndRest
  have eT : ("itertools." ++ "combinations" : String) = "itertools.combinations" := by decide +kernel
  rw [eT]
  wp_walk using collect_range hh hr hsmall hn hlen
  intro h' tk acc hk hacc
  have e2 : ¬ ((2 : Int) < 0) := by decide
  rw [if_neg e2, if_neg (by decide)]
  refine wpAny_bind (wpAny_newTuple ?_ (by rw [Array.length_toList, hacc.1, sizeLine_eq]; omega))
  refine wpAny_pure ?_
  have el : acc.toList.length = n := by rw [Array.length_toList, hacc.1]
  show wpAny _ _ (Builtin.Itertools.itNewRecord (.type "itertools.combinations") ([.ref h'.objs.size, rawInt (if 2 > acc.toList.length then 2 else 0), .none] ++ [rawInt 0, rawInt 1]) >>= fun v => ret v) _ _ _
  rw [el]
  refine wpAny_bind ?_
  unfold Builtin.Itertools.itNewRecord
  rw [if_pos (by decide +kernel)]
  have ea : acc.toList.toArray = acc := by simp
  rw [ea]
  refine wpAny_newObj_type ?_ (by show 5 ≤ sizeLine + 2; decide)
  refine wpAny_pure ⟨_, rfl, ?_⟩
  have q := hQ h' tk acc hk hacc
  have sz : (h'.push { cls := .type "tuple", data := .seq acc }).objs.size = h'.objs.size + 1 := Heap.size_push ..
  show Q (.ref (h'.push { cls := .type "tuple", data := .seq acc }).objs.size) _
  rw [sz]
  exact q
theorem call_comb {k : Tok} {Q : Value → Shared → Prop} (hh : A.handled = none) (hr : IsRange s.heap r a b c t u v) (hsmall : Builtin.Range.small a b c = true) (hn : Builtin.Range.rangeSize a b c = n) (hlen : n ≤ 2 ^ 24)
    (hQ : ∀ (h' : Heap) (tk : Nat) (acc : Array Value), (∀ b o, s.heap.get? b = some o → h'.get? b = some o) → ItemsOf (fun i v => ∃ t, v = .int (a + i * c) t) acc n →
      Q (.ref (h'.objs.size + 1)) { s with heap := (h'.push { cls := .type "tuple", data := .seq acc }).push { cls := .type "itertools.combinations", data := .fields #[.ref h'.objs.size, rawInt (if 2 > n then 2 else 0), .none, rawInt 0, rawInt 1] }, toks := tk }) :
    wpAny (model prog w) A (call (.type "itertools.combinations") [.ref r, .int 2 k]) Q E s := by
  refine callType_newIn F.called_comb (by decide) (F.typeCall_comb_2 _ _) (F.newCall_comb_2 _ _) (fun obj => F.args_object_init_3 obj _ _) F.entry_comb_new
    (S := fun A R s' => A.handled = none ∧ s' = s ∧ ∀ (h' : Heap) (tk : Nat) (acc : Array Value), (∀ b o, s.heap.get? b = some o → h'.get? b = some o) → ItemsOf (fun i v => ∃ t, v = .int (a + i * c) t) acc n →
      R (.ok (.ret (.ref (h'.objs.size + 1)))) { s with heap := (h'.push { cls := .type "tuple", data := .seq acc }).push { cls := .type "itertools.combinations", data := .fields #[.ref h'.objs.size, rawInt (if 2 > n then 2 else 0), .none, rawInt 0, rawInt 1] }, toks := tk }) ?_ ?_
  · refine .of_wp fun A R s' h => ?_
    obtain ⟨h1, rfl, h2⟩ := h
    refine wpAny_mono (comb_new (A := A.in1) h1 hr hsmall hn hlen (Q := fun v s' => R (.ok (.ret v)) s') fun h' tk acc hk hacc => h2 h' tk acc hk hacc) (fun f s' q => ?_) fun _ _ z => z
    obtain ⟨v, rfl, q⟩ := q
    exact ⟨_, rfl, q⟩
  · refine ⟨hh, rfl, fun h' tk acc hk hacc => ?_⟩
    have g : ((h'.push { cls := .type "tuple", data := .seq acc }).push { cls := .type "itertools.combinations", data := .fields #[.ref h'.objs.size, rawInt (if 2 > n then 2 else 0), .none, rawInt 0, rawInt 1] }).get? (h'.push { cls := .type "tuple", data := .seq acc }).objs.size = some { cls := .type "itertools.combinations", data := .fields #[.ref h'.objs.size, rawInt (if 2 > n then 2 else 0), .none, rawInt 0, rawInt 1] } := Heap.get?_push_size _ rfl
    rw [show (h'.push { cls := .type "tuple", data := .seq acc }).objs.size = h'.objs.size + 1 from Heap.size_push ..] at g
    exact ⟨⟨_, g, rfl⟩, hQ h' tk acc hk hacc⟩
end
end L2

end
section
namespace L2
open PySem PySem.Spec PyProof.Rows
section
variable {prog : Program} {w : World} {A : Around} {E : Value → Shared → Prop} {s : Shared}
theorem comb_next_over {z pl : Addr} {res : Value} {i j : Nat} {Q : Fin → Shared → Prop} (hh : A.handled = none) (hz : IsComb s.heap z pl 2 res i j)
    (hE : ∀ h' e, (∀ c x, s.heap.get? c = some x → h'.get? c = some x) → (∃ o, h'.get? e = some o ∧ o.cls = .type "StopIteration") → E (.ref e) { s with heap := h' }) :
    wpAny (model prog w) A (Builtin.«itertools.combinations.__next__» ⟨[.ref z], []⟩) Q E s := by
  show wpAny _ _ (field (.ref z) 0 >>= _) _ _ _
  refine wpAny_bind (wpAny_field hz rfl (x := .ref pl) rfl ?_)
  refine wpAny_bind ?_
  unfold Builtin.Itertools.itNumbersFrom
  refine wpAny_bind (wpAny_load hz ?_)
  refine wpAny_pure ?_
  show wpAny _ _ (Builtin.Itertools.itIntField (.ref z) 1 >>= _) _ _ _
  refine wpAny_bind ?_
  unfold Builtin.Itertools.itIntField
  refine wpAny_bind (wpAny_field hz rfl (x := rawInt 2) rfl ?_)
  refine wpAny_pure ?_
  show wpAny _ _ (rule "itertools.combinations.ended" >>= fun _ => Builtin.Itertools.itStop) _ _ s
  refine wpAny_bind (wpAny_rule ?_)
  refine DVw.raise_stop hh fun h' e oe k1 k2 k3 => hE h' e k1 ⟨oe, k2, k3⟩
theorem pyNext_comb_over {z pl : Addr} {res : Value} {i j : Nat} {Q : Option Value → Shared → Prop} (hh : A.handled = none) (hz : IsComb s.heap z pl 2 res i j)
    (hQ : ∀ h', (∀ c x, s.heap.get? c = some x → h'.get? c = some x) → Q none { s with heap := h' }) : wpAny (model prog w) A (pyNext (.ref z)) Q E s := by
  have hT : s.TypeIs (.ref z) "itertools.combinations" := ⟨_, hz, rfl⟩
  unfold pyNext
  refine wpAny_bind (wpAny_attempt (wpAny_callSpecial?_slot (name := Str.ofString "__next__") hT PySem.F.slot_comb_next
    (wpAny_call_entry PySem.F.slot_comb_next hT PySem.F.entry_comb_next (comb_next_over hh hz fun h' e hk he => ?_) (PySem.F.args_comb_next_1 _))))
  obtain ⟨o, ho, hc⟩ := he
  refine wpAny_bind (wpAny_isInstance (T := "StopIteration") (b := true) ⟨o, ho, hc⟩ isSubtype_stop ?_)
  exact wpAny_pure (hQ _ hk)
end
end L2

end
section
namespace L2
open PySem PySem.Spec PyProof.Rows
/-! ### the pairs as they come -/
def nextC (n : Nat) (p : Nat × Nat) : Option (Nat × Nat) := if p.2 + 1 < n then some (p.1, p.2 + 1) else if p.1 + 2 < n then some (p.1 + 1, p.1 + 2) else none
def atC (n : Nat) : Nat → Option (Nat × Nat)
  | 0 => if 2 ≤ n then some (0, 1) else none
  | k + 1 => (atC n k).bind (nextC n)
theorem atC_ok {n : Nat} : ∀ {k : Nat} {p : Nat × Nat}, atC n k = some p → p.1 < p.2 ∧ p.2 < n
  | 0, p, h => by
    unfold atC at h
    split at h
    · cases h; exact ⟨by decide, by show 1 < n; omega⟩
    · cases h
  | k + 1, p, h => by
    unfold atC at h
    cases q : atC n k with
    | none => rw [q] at h; cases h
    | some r =>
      rw [q] at h
      have h : nextC n r = some p := h
      have := atC_ok q
      unfold nextC at h
      split at h
      · cases h; simp only; omega
      · split at h
        · cases h; simp only; omega
        · cases h
theorem ncomb_next {n : Nat} {p : Nat × Nat} (h1 : p.1 < p.2) (h2 : p.2 < n) : ncomb n [p.1, p.2] = (nextC n p).map fun q => [q.1, q.2] := by
  unfold nextC
  by_cases a : p.2 + 1 < n
  · rw [if_pos a, ncomb_inc a]; rfl
  · rw [if_neg a]
    by_cases b : p.1 + 2 < n
    · rw [if_pos b, ncomb_row (by omega) b]; rfl
    · rw [if_neg b, ncomb_end (by omega) (by omega)]; rfl
/-- the pairs of the numbers below n, each a new tuple -/
def ItCm (n : Nat) : It :=
  ⟨fun k _ => (atC n k).isSome = true, fun k H v H' => ∃ T p, v = .ref T ∧ H T = none ∧ atC n k = some p ∧ H' = upd H T (.tup [.int (p.1 : Int), .int (p.2 : Int)]), fun k _ => atC n k = none⟩
def CombTn (n : Nat) (z pl : Addr) (k : Nat) (h : Heap) : Prop :=
  z ≠ pl ∧ (∃ acc, h.get? pl = some { cls := .type "tuple", data := .seq acc } ∧ ItemsOf (fun i v => ∃ t, v = .int (0 + i * 1) t) acc n) ∧
  ((n < 2 ∧ k = 0 ∧ IsComb h z pl 2 .none 0 1) ∨ (2 ≤ n ∧ k = 0 ∧ IsComb h z pl 0 .none 0 1) ∨ ∃ k' p res, k = k' + 1 ∧ atC n k' = some p ∧ IsComb h z pl 1 res p.1 p.2)
theorem CombTn.rec {n : Nat} {z pl : Addr} {k : Nat} {h : Heap} (t : CombTn n z pl k h) : ∃ st res i j, IsComb h z pl st res i j := by
  obtain ⟨_, _, a | a | ⟨k', p, res, _, _, a⟩⟩ := t
  · exact ⟨_, _, _, _, a.2.2⟩
  · exact ⟨_, _, _, _, a.2.2⟩
  · exact ⟨_, _, _, _, a⟩
theorem turn_comb {P : Program} {w : World} {K : PySem.W.Frag} {elts : List Expr} {kk : Nat} {tpos : Pos} {n : Nat} {z pl : Addr} :
    Turn P w K (.Tuple elts kk tpos) (ItCm n) [z, pl] z (CombTn n z pl) where
  mem := by simp
  obj := fun i h st c hc => by
    obtain ⟨s1, r1, i1, j1, hz⟩ := st.rec
    obtain ⟨acc, hp, _⟩ := st.2.1
    have e' : c = z ∨ c = pl := by simpa using hc
    rcases e' with q | q
    · rw [q]; exact ⟨_, hz, fun v q => nomatch q⟩
    · rw [q]; exact ⟨_, hp, fun v q => nomatch q⟩
  keep := fun i h h' st k => by
    obtain ⟨ne, ⟨acc, hp, ho⟩, a | a | ⟨k', p, res, b1, b2, a⟩⟩ := st
    · exact ⟨ne, ⟨acc, k pl (by simp) _ hp, ho⟩, .inl ⟨a.1, a.2.1, k z (by simp) _ a.2.2⟩⟩
    · exact ⟨ne, ⟨acc, k pl (by simp) _ hp, ho⟩, .inr (.inl ⟨a.1, a.2.1, k z (by simp) _ a.2.2⟩)⟩
    · exact ⟨ne, ⟨acc, k pl (by simp) _ hp, ho⟩, .inr (.inr ⟨k', p, res, b1, b2, k z (by simp) _ a⟩)⟩
  item := by
    intro X hP hw hK hc i pins s σ H E I hf st hg
    subst hP hw hK
    obtain ⟨p, hat⟩ : ∃ p, atC n i = some p := Option.isSome_iff_exists.mp hg
    have okp := atC_ok hat
    have st0 := st
    obtain ⟨ne, ⟨acc, hp, ho⟩, hc3⟩ := st
    have sz : acc.size = n := ho.1
    obtain ⟨s1, r1, i1, j1, hz, hst⟩ : ∃ st res i1 j1, IsComb s.heap z pl st res i1 j1 ∧ ((st = 0 ∧ p.1 = i1 ∧ p.2 = j1) ∨ (st = 1 ∧ ncomb acc.size [i1, j1] = some [p.1, p.2])) := by
      rcases hc3 with a | a | ⟨k', p0, res, b1, b2, a⟩
      · rw [a.2.1] at hat
        unfold atC at hat
        rw [if_neg (by omega)] at hat
        cases hat
      · rw [a.2.1] at hat
        unfold atC at hat
        rw [if_pos a.1] at hat
        cases hat
        exact ⟨_, _, _, _, a.2.2, .inl ⟨rfl, rfl, rfl⟩⟩
      · subst b1
        have hat : (atC n k').bind (nextC n) = some p := hat
        rw [b2] at hat
        have hat : nextC n p0 = some p := hat
        have ok0 := atC_ok b2
        exact ⟨_, _, _, _, a, .inr ⟨rfl, by rw [sz, ncomb_next ok0.1 ok0.2, hat]; rfl⟩⟩
    refine pyNext_comb_item hz hp rfl ne hst fun h' g1 g2 g3 g4 => ?_
    refine ⟨_, rfl, ?_⟩
    unfold letOwnedTupleGo
    refine wpAny_bind (wpAny_load g1 ?_)
    show wpAny _ _ (if (["enumerate", "zip", "dict_itemiterator", "dict_reverseitemiterator", "odict_iterator", "itertools.zip_longest", "itertools.pairwise"].contains "itertools.combinations" && _) = true then _ else _) _ _ _
    rw [if_neg (by simp)]
    refine wpAny_pure ?_
    have val : ∀ m, m < n → ∃ t, acc.getD m .none = .int (m : Int) t := fun m hm => by
      have hlt : m < acc.size := by omega
      obtain ⟨t, e⟩ := ho.2 m acc[m] (by simp [hlt])
      refine ⟨t, ?_⟩
      rw [Array.getD_eq_getD_getElem?, Array.getElem?_eq_getElem hlt]
      show acc[m] = _
      rw [e]
      congr 1
      omega
    obtain ⟨t1, e1⟩ := val p.1 (by omega)
    obtain ⟨t2, e2⟩ := val p.2 okp.2
    rw [e1, e2] at g2
    have hzl : z < s.heap.objs.size := Heap.lt_size hz
    have hpl : pl < s.heap.objs.size := Heap.lt_size hp
    have new : ObjOk X.prog X.w (upd H s.heap.objs.size (.tup [.int (p.1 : Int), .int (p.2 : Int)])) h' s.heap.objs.size (.tup [.int (p.1 : Int), .int (p.2 : Int)]) :=
      ⟨by show 2 ≤ sizeLine; decide, [.int p.1 t1, .int p.2 t2], .cons ⟨_, rfl⟩ (.cons ⟨_, rfl⟩ .nil), ⟨_, g2, rfl, _, rfl⟩⟩
    have I1 : Inv X pins σ (upd H s.heap.objs.size (.tup [.int (p.1 : Int), .int (p.2 : Int)])) { s with heap := h' } :=
      I.turnedNew (t' := s.toks) (ch := [z, pl]) (fun c o hb q => g4 c o (fun q' => hb (by simp [q'])) q) hf (Nat.le_refl _) new
    refine ⟨.ref s.heap.objs.size, _, I1, rfl, ⟨_, p, rfl, I.hok.fresh (Nat.le_refl _), hat, rfl⟩, ⟨ne, ⟨acc, g4 _ _ ne.symm hp, ho⟩, .inr (.inr ⟨i, p, _, rfl, hat, g1⟩)⟩, fun c hcm => ?_⟩
    have hlt : c < s.heap.objs.size := by
      have e' : c = z ∨ c = pl := by simpa using hcm
      rcases e' with q | q
      · rw [q]; exact hzl
      · rw [q]; exact hpl
    rw [upd_ne (Nat.ne_of_lt hlt)]
    exact (hf c hcm).1
  done := by
    intro X hP hw hK hc i pins s σ H E I hf st hg
    subst hP hw hK
    have hg : atC n i = none := hg
    obtain ⟨ne, ⟨acc, hp, ho⟩, a | a | ⟨k', p, res, b1, b2, a⟩⟩ := st
    · exact pyNext_comb_over (I.ok.hd hc) a.2.2 fun h' hk => ⟨rfl, I.turnedL (t' := s.toks) (ch := [z, pl]) (fun c o hb q => hk c o q) hf⟩
    · rw [a.2.1] at hg
      unfold atC at hg
      rw [if_pos a.1] at hg
      cases hg
    · subst b1
      have hn : nextC n p = none := by
        have hg : (atC n k').bind (nextC n) = none := hg
        rw [b2] at hg
        exact hg
      have okp := atC_ok b2
      have sz : acc.size = n := ho.1
      exact pyNext_comb_end (I.ok.hd hc) a hp rfl (by rw [sz, ncomb_next okp.1 okp.2, hn]; rfl) fun h' hk => ⟨rfl, I.turnedL (t' := s.toks) (ch := [z, pl]) (fun c o hb q => hk c o (fun q' => hb (by simp [q'])) q) hf⟩
  self := fun A i s Q E st h => by
    obtain ⟨s1, r1, i1, j1, hz⟩ := st.rec
    exact wpAny_pyIter_comb hz h
end L2

end
section
namespace L2
open PySem PySem.Spec PyProof.Rows
section
variable {X : Cx}
/-- combinations(range(b), 2) -/
def iComb (f : L2.St → Hp → (Int → Int → Hp → Prop) → Prop) : TI := fun σ H R => f σ H fun a b H1 => RgOk a b ∧ a = 0 ∧ R (ItCm b.toNat) H1
theorem pi_comb {e : Expr} {te : L2.St → Hp → (Int → Int → Hp → Prop) → Prop} {elts : List Expr} {kk k2 : Nat} {p pos tpos q2 : Pos} (hc : X.calm = true) (hg : Gl X "combinations") (hm : X.mg "combinations" = some (.type "itertools.combinations")) (he : PRg X e te)
    (na : starEach [e, .Constant (.int 2) k2 q2] X.env = (false, eval e X.env) :: starEach [.Constant (.int 2) k2 q2] X.env := by rfl)
    (nb : starEach [.Constant (.int 2) k2 q2] X.env = (false, eval (.Constant (.int 2) k2 q2) X.env) :: starEach [] X.env := by rfl) (hp : (backTo pos (starEach [.Constant (.int 2) k2 q2] X.env)).any (·.1) = false := by rfl) :
    PI X (.Tuple elts kk tpos) (.Call (.Name "combinations" p) [e, .Constant (.int 2) k2 q2] [] pos) (iComb te) := by
  refine ⟨fun pins s σ H R I h => ?_⟩
  refine Call_ (ld_glob I hg hm ?_ (by decide))
  refine PyProof.Rows.callWith_type1 (args_cons (thn (he pins s σ H _ I h) fun x s1 ⟨r, a, b, t, u, v, H1, ex, hr, I1, ok, ea, q⟩ => ?_) na) na hp
  subst ex
  refine args_cons ?_ nb
  refine wpAny_Constant_int ?_
  refine args_nil ?_
  obtain ⟨b1, b2, b3, b4, b5⟩ := ok
  subst ea
  refine call_comb (s := { s1 with toks := s1.toks + 1 }) (n := (b - 0).toNat) (I1.ok.hd hc) hr (small_one b1 b2 b3 b4) (rangeSize_nat 0 b) b5 fun h' tk acc hk hacc => ?_
  have en : (b - 0).toNat = b.toNat := by congr 1; omega
  rw [en] at hacc ⊢
  have I2 : Inv X pins σ H1 { s1 with heap := h', toks := tk } := I1.kept hk
  have I3 : Inv X pins σ H1 { s1 with heap := (h'.push { cls := .type "tuple", data := .seq acc }).push { cls := .type "itertools.combinations", data := .fields #[.ref h'.objs.size, rawInt (if 2 > b.toNat then 2 else 0), .none, rawInt 0, rawInt 1] }, toks := tk } := I2.kept (t' := tk) fun c o e => Heap.get?_push_of_some _ (Heap.get?_push_of_some _ e)
  have gz : ((h'.push { cls := .type "tuple", data := .seq acc }).push { cls := .type "itertools.combinations", data := .fields #[.ref h'.objs.size, rawInt (if 2 > b.toNat then 2 else 0), .none, rawInt 0, rawInt 1] }).get? (h'.objs.size + 1) = some { cls := .type "itertools.combinations", data := .fields #[.ref h'.objs.size, rawInt (if 2 > b.toNat then 2 else 0), .none, rawInt 0, rawInt 1] } := by
    have g : ((h'.push { cls := .type "tuple", data := .seq acc }).push { cls := .type "itertools.combinations", data := .fields #[.ref h'.objs.size, rawInt (if 2 > b.toNat then 2 else 0), .none, rawInt 0, rawInt 1] }).get? (h'.push { cls := .type "tuple", data := .seq acc }).objs.size = some { cls := .type "itertools.combinations", data := .fields #[.ref h'.objs.size, rawInt (if 2 > b.toNat then 2 else 0), .none, rawInt 0, rawInt 1] } := Heap.get?_push_size _ rfl
    rw [show (h'.push { cls := .type "tuple", data := .seq acc }).objs.size = h'.objs.size + 1 from Heap.size_push ..] at g
    exact g
  have gp : ((h'.push { cls := .type "tuple", data := .seq acc }).push { cls := .type "itertools.combinations", data := .fields #[.ref h'.objs.size, rawInt (if 2 > b.toNat then 2 else 0), .none, rawInt 0, rawInt 1] }).get? h'.objs.size = some { cls := .type "tuple", data := .seq acc } := Heap.get?_push_of_some _ (Heap.get?_push_size _ rfl)
  have tn : CombTn b.toNat (h'.objs.size + 1) h'.objs.size 0 ((h'.push { cls := .type "tuple", data := .seq acc }).push { cls := .type "itertools.combinations", data := .fields #[.ref h'.objs.size, rawInt (if 2 > b.toNat then 2 else 0), .none, rawInt 0, rawInt 1] }) := by
    refine ⟨Nat.succ_ne_self _, ⟨acc, gp, hacc⟩, ?_⟩
    by_cases hb : 2 > b.toNat
    · rw [if_pos hb] at gz ⊢
      exact .inl ⟨by omega, rfl, gz⟩
    · rw [if_neg hb] at gz ⊢
      exact .inr (.inl ⟨by omega, rfl, gz⟩)
  obtain ⟨st, re, i1, j1, hz⟩ := tn.rec
  refine wpAny_pyIter_comb hz ?_
  refine ⟨h'.objs.size + 1, [h'.objs.size + 1, h'.objs.size], _, _, H1, rfl, I3, turn_comb, tn, fun c hcm => ?_, q⟩
  have hle : h'.objs.size ≤ c := by
    have e' : c = h'.objs.size + 1 ∨ c = h'.objs.size := by simpa using hcm
    rcases e' with z | z <;> rw [z]
    · exact Nat.le_succ _
    · exact Nat.le_refl _
  have hnone : H1 c = none := I2.hok.fresh hle
  exact I2.fpOk hle hnone
end
end L2

end
namespace Fa
open PySem PySem.Spec PyProof.Rows L2
def rIsNone : R2 := fun x y H Q => y = .non ∧ Q (.bl (decide (x = .non))) H
def rNotNone : R2 := fun x y H Q => y = .non ∧ Q (.bl (!decide (x = .non))) H
def rMin2 : List V → Hp → VK → Prop := fun xs H Q => ∃ i j, xs = [.int i, .int j] ∧ Q (.int (if j < i then j else i)) H
section
variable {K : PySem.W.Frag} {D : Ends} {σ : L2.St} {H : Hp} {Q : VK} {ta tb tc te : TE} {t u : TS} {b c : TT} {x y v : V} {r : R2} {i : Nat} {QB : Bool → Hp → Prop} {QA : List V → Hp → Prop}
theorem r_seq (h : t { D with nx := u D } σ H) : tSeq t u D σ H := h
theorem r_asg (h : te σ H fun x H1 => D.nx (σ.set i (some x)) H1) : tAsg te (gName i) D σ H := h
theorem r_asgG {g : TG} (h : te σ H fun x H1 => g x σ H1 D.nx) : tAsg te g D σ H := h
theorem r_par {i j : Nat} {ta : TA} (h : ta σ H fun vs H1 => ∃ v w, vs = [v, w] ∧ D.nx ((σ.set i (some v)).set j (some w)) H1) : tPar i j ta D σ H := h
theorem r_if (h : c σ H fun b H1 => if b = true then t D σ H1 else u D σ H1) : tIfS c t u D σ H := h
theorem r_ret (h : te σ H D.rt) : tRet te D σ H := h
theorem r_drop (h : te σ H fun _ H1 => D.nx σ H1) : tDrop te D σ H := h
theorem r_next (h : D.nx σ H) : tNext D σ H := h
theorem r_var (h : σ[i]? = some (some v)) (q : Q v H) : tVar i σ H Q := ⟨v, h, q⟩
theorem r_c (q : Q v H) : tC v σ H Q := q
theorem r_op (h : ta σ H fun x H1 => tb σ H1 fun y H2 => r x y H2 Q) : tOp r ta tb σ H Q := h
theorem r_un {f : V → Hp → VK → Prop} (h : ta σ H fun x H1 => f x H1 Q) : tUn f ta σ H Q := h
theorem r_I0 {g : Int → Int → V} {i j : Int} (q : Q (g i j) H) : rI0 g (.int i) (.int j) H Q := ⟨i, j, rfl, rfl, q⟩
theorem r_I {C : Int → Int → Prop} {g : Int → Int → V} {i j : Int} (hc : C i j) (q : Q (g i j) H) : rI C g (.int i) (.int j) H Q := ⟨i, j, rfl, rfl, hc, q⟩
theorem r_U {g : Int → V} {i : Int} (q : Q (g i) H) : rU g (.int i) H Q := ⟨i, rfl, q⟩
theorem r_test (h : te σ H fun x H' => ∃ k, x = .bl k ∧ QB k H') : tTest te σ H QB := h
theorem r_B (h : te σ H fun x H' => ∃ k, x = .bl k ∧ QB k H') : tB te σ H QB := h
theorem r_bl {k : Bool} {B : Bool → Prop} (q : B k) : ∃ k', V.bl k = V.bl k' ∧ B k' := ⟨k, rfl, q⟩
theorem r_eq (hs : scal x y = true) (q : Q (.bl (decide (x = y))) H) : rEq x y H Q := ⟨hs, q⟩
theorem r_ne (hs : scal x y = true) (q : Q (.bl (!decide (x = y))) H) : rNe x y H Q := ⟨hs, q⟩
theorem r_eqI {i j : Int} (q : Q (.bl (decide (i = j))) H) : rEq (.int i) (.int j) H Q := ⟨rfl, by
  have e : decide (V.int i = V.int j) = decide (i = j) := by by_cases h : i = j <;> simp [h]
  rw [e]; exact q⟩
theorem r_neI {i j : Int} (q : Q (.bl (!decide (i = j))) H) : rNe (.int i) (.int j) H Q := ⟨rfl, by
  have e : decide (V.int i = V.int j) = decide (i = j) := by by_cases h : i = j <;> simp [h]
  rw [e]; exact q⟩
theorem r_nil (q : QA [] H) : tNil σ H QA := q
theorem r_cons {tr : TA} (h : ta σ H fun x H1 => tr σ H1 fun xs H2 => QA (x :: xs) H2) : tCons ta tr σ H QA := h
theorem r_tup {ta : TA} (h : ta σ H fun xs H1 => xs.length ≤ sizeLine ∧ ∀ p, H1 p = none → Q (.ref p) (upd H1 p (.tup xs))) : tTup ta σ H Q := h
theorem r_lst {ta : TA} (h : ta σ H fun xs H1 => xs.length ≤ sizeLine ∧ ∀ p, H1 p = none → Q (.ref p) (upd H1 p (.lst xs))) : tLst ta σ H Q := h
theorem r_call {sp : Sp} {dvs : List V} {E : XK} {ta : TA} (h : ta σ H fun vs H1 => sp (vs ++ dvs) H1 Q E) : tCall sp dvs E ta σ H Q := h
theorem r_cb {f : List V → Hp → VK → Prop} {ta : TA} (h : ta σ H fun vs H1 => f vs H1 Q) : tCB f ta σ H Q := h
theorem r_and {b c : TT} (h : b σ H fun k H1 => if k = true then c σ H1 QB else QB false H1) : tAnd b c σ H QB := h
theorem r_or {b c : TT} (h : b σ H fun k H1 => if k = true then QB true H1 else c σ H1 QB) : tOr b c σ H QB := h
theorem r_not {b : TT} (h : b σ H fun k H1 => QB (!k) H1) : tNot b σ H QB := h
theorem r_andV (h : ta σ H fun x H1 => ∃ c, x = .bl c ∧ if c = true then tb σ H1 Q else Q (.bl false) H1) : tAndV ta tb σ H Q := h
theorem r_orV (h : ta σ H fun x H1 => ∃ c, x = .bl c ∧ if c = true then Q (.bl true) H1 else tb σ H1 Q) : tOrV ta tb σ H Q := h
theorem r_notV (h : ta σ H fun x H1 => ∃ c, x = .bl c ∧ Q (.bl (!c)) H1) : tNotV ta σ H Q := h
theorem r_ifE (h : b σ H fun c H1 => if c = true then ta σ H1 Q else tb σ H1 Q) : tIf b ta tb σ H Q := h
theorem r_ixL {p : Addr} {xs : List V} {i : Int} (hl : SqL K H p xs) (ha : atI xs i = some v) (q : Q v H) : rIxL K (.ref p) (.int i) H Q := ⟨p, xs, i, v, rfl, rfl, hl, ha, q⟩
theorem r_ixT {p : Addr} {xs : List V} {i : Int} (hl : SqT K H p xs) (ha : atI xs i = some v) (q : Q v H) : rIxT K (.ref p) (.int i) H Q := ⟨p, xs, i, v, rfl, rfl, hl, ha, q⟩
theorem r_gSub {to ti : TE} {ts : TSet} {QS : L2.St → Hp → Prop} (h : to σ H fun o H1 => ti σ H1 fun i H2 => ts o i v H2 fun H3 => QS σ H3) : gSub to ti ts v σ H QS := h
theorem r_setL {p : Addr} {xs : List V} {k : Int} {j : Nat} {QH : Hp → Prop} (hl : H p = some (.lst xs)) (hj : ixN xs.length k = some j) (q : QH (upd H p (.lst (xs.set j v)))) : rSetL (.ref p) (.int k) v H QH := ⟨p, xs, k, j, rfl, rfl, hl, hj, q⟩
theorem r_sl {f : V → Option Int → Option Int → Hp → VK → Prop} {tl th : TO} (h : te σ H fun x H1 => tl σ H1 fun l H2 => th σ H2 fun u H3 => f x l u H3 Q) : tSl f te tl th σ H Q := h
theorem r_noPart {QO : Option Int → Hp → Prop} (h : QO none H) : tNoPart σ H QO := h
theorem r_part {QO : Option Int → Hp → Prop} (h : te σ H fun x H1 => ∃ i, x = .int i ∧ QO (some i) H1) : tPart te σ H QO := h
theorem r_partI {i : Int} {B : Int → Prop} (q : B i) : ∃ i', V.int i = V.int i' ∧ B i' := ⟨i, rfl, q⟩
theorem r_slL {a : Addr} {xs : List V} {lo hi : Option Int} (h : SqL K H a xs) (k : ∀ p, H p = none → Q (.ref p) (upd H p (.lst (cutV xs lo hi)))) : rSlL K (.ref a) lo hi H Q := ⟨a, xs, rfl, h, k⟩
theorem r_for {wi : TI} {g : TG} (h : wi σ H fun J H1 => ∃ W : Nat → Nat → L2.St → Hp → Prop, (∃ m, W 0 m σ H1) ∧ ∀ i m σ H, W i m σ H →
  (J.stop i H ∧ D.nx σ H) ∨ (J.go i H ∧ ∃ N : L2.St → Hp → Prop, (∀ σ' H', N σ' H' → ∃ m', m' < m ∧ W (i + 1) m' σ' H') ∧ ∀ x H', J.yld i H x H' → g x σ H' fun σ2 H2 => t { D with nx := N, ct := N, bk := D.nx } σ2 H2)) : tFor wi g t D σ H := h
theorem r_iList {R : It → Hp → Prop} (h : te σ H fun x H1 => ∃ a, x = .ref a ∧ (∃ xs, SqL K H1 a xs) ∧ R (Itl K a) H1) : iList K te σ H R := h
theorem r_iTup {R : It → Hp → Prop} (h : te σ H fun x H1 => ∃ a, x = .ref a ∧ (∃ xs, SqT K H1 a xs) ∧ R (Itt K a) H1) : iTup K te σ H R := h
theorem r_iRng1 {ta : TA} {R : It → Hp → Prop} (h : ta σ H fun vs H1 => ∃ j : Int, vs = [.int j] ∧ -(2 ^ 62) ≤ j ∧ j < 2 ^ 62 ∧ R (Itr 0 j.toNat) H1) : iRng1 ta σ H R := h
theorem r_iRng2 {ta : TA} {R : It → Hp → Prop} (h : ta σ H fun vs H1 => ∃ i j : Int, vs = [.int i, .int j] ∧ (-(2 ^ 62) ≤ i ∧ i < 2 ^ 62 ∧ -(2 ^ 62) ≤ j ∧ j < 2 ^ 62) ∧ R (Itr i (j - i).toNat) H1) : iRng2 ta σ H R := h
theorem r_iEnum {ta : TA} {R : It → Hp → Prop} (h : ta σ H fun vs H1 => ∃ a xs, vs = [.ref a] ∧ SqL K H1 a xs ∧ R (Ite K a) H1) : iEnum K ta σ H R := h
theorem r_iZip {ta : TA} {R : It → Hp → Prop} (h : ta σ H fun vs H1 => ∃ a b xs ys, vs = [.ref a, .ref b] ∧ SqL K H1 a xs ∧ SqL K H1 b ys ∧ R (Itz K a b) H1) : iZip K ta σ H R := h
theorem r_gName {i : Nat} {QS : L2.St → Hp → Prop} (q : QS (σ.set i (some v)) H) : gName i v σ H QS := q
theorem r_gTup2 {i j n : Nat} {a : Addr} {QS : L2.St → Hp → Prop} (hn : 2 = n) (hs : SqT K H a [x, y]) (q : QS ((σ.set i (some x)).set j (some y)) H) : gTup K n (gCons (gName i) (gCons (gName j) gNil)) (.ref a) σ H QS :=
  ⟨a, [x, y], rfl, hs, hn, x, [y], rfl, y, [], rfl, rfl, q⟩
theorem r_bm {T : String} {f : V → List V → Hp → VK → Prop} {ta : TA} (h : te σ H fun x H1 => tyV K T x H1 ∧ ta σ H1 fun xs H2 => f x xs H2 Q) : tBM K T f te ta σ H Q := h
theorem r_bm0 {T : String} {f : V → List V → Hp → VK → Prop} (h : te σ H fun x H1 => tyV K T x H1 ∧ f x [] H1 Q) : tBM0 K T f te σ H Q := h
theorem r_app {l : Addr} {xs : List V} (h : H l = some (.lst xs)) (hz : xs.length < 100000) (q : Q .non (upd H l (.lst (xs ++ [y])))) : rAppend (.ref l) [y] H Q := ⟨l, xs, y, rfl, rfl, h, Evl.sz_lt hz, q⟩
theorem tyL {a : Addr} {xs : List V} (h : SqL K H a xs) : tyV K "list" (.ref a) H := .inl ⟨rfl, xs, h⟩
theorem r_isN {A : Prop} (q : A) : V.non = V.non ∧ A := ⟨rfl, q⟩
theorem iteRT {c : Bool} {A B : Prop} (h : c = true) (q : A) : if c = true then A else B := by rw [if_pos h]; exact q
theorem iteRF {c : Bool} {A B : Prop} (h : c = false) (q : B) : if c = true then A else B := by rw [if_neg (by rw [h]; decide)]; exact q
theorem iteB {c : Bool} {A B : Prop} (h1 : c = true → A) (h2 : c = false → B) : if c = true then A else B := by
  cases c
  · exact iteF (h2 rfl)
  · exact iteT (h1 rfl)
theorem r_isi {t' : String} {T : String} {b : Bool} (ty : TyX K H x (.type t')) (h : kitB t' T = some b) (q : Q (.bl b) H) : rIsi K [x, .ty T] H Q := ⟨x, .ty T, .type t', .type T, b, rfl, .ty T, ty, kit_ty h, q⟩
theorem r_isiT {t' : String} {T : String} (ty : TyX K H x (.type t')) (h : kitB t' T = some true) (q : Q (.bl true) H) : rIsi K [x, .ty T] H Q := r_isi ty h q
theorem r_isiF {t' : String} {T : String} (ty : TyX K H x (.type t')) (h : kitB t' T = some false) (q : Q (.bl false) H) : rIsi K [x, .ty T] H Q := r_isi ty h q
theorem tyx_L {a : Addr} {xs : List V} (h : SqL K H a xs) : TyX K H (.ref a) (.type "list") := by
  rcases h with (h | ⟨o, h⟩) | ⟨o, its, n, h, c, _⟩
  · exact .base (.lst h)
  · exact .base (.frz h)
  · exact .kList h c
theorem tyx_T {a : Addr} {xs : List V} (h : SqT K H a xs) : TyX K H (.ref a) (.type "tuple") := by
  rcases h with (h | ⟨o, h⟩) | ⟨o, its, n, h, c, _⟩
  · exact .base (.tup h)
  · exact .fTuple h
  · exact .kTuple h c
theorem walk_zipT {a b : Addr} {xs ys : List V} {n : Nat} (hn : n = min xs.length ys.length) : Walk (RZ.ItzT K a b) n (fun H => SqT K H a xs ∧ SqT K H b ys) (YPair (fun i => xs[i]?) (fun i => ys[i]?)) := by
  subst hn
  refine ⟨fun i _ hi q => ?_, fun _ q => ⟨xs, ys, q.1, q.2, by omega⟩, fun i H v H' _ q y => ?_⟩
  · have h1 : i < xs.length := by omega
    have h2 : i < ys.length := by omega
    exact ⟨xs, ys, xs[i], ys[i], q.1, q.2, by simp [h1], by simp [h2]⟩
  · obtain ⟨T', x', z, h1, h2, h3, h4, h5⟩ := y
    exact ⟨T', x', z, h1, h2, h3, h4 xs q.1, h5 ys q.2⟩
theorem r_lc {wi : TI} {g : TG} {tt : TT} {vs : List Nat} (h : wi σ H fun J H1 => ∀ D, H1 D = none → ∃ W : Nat → Nat → Hp → Prop, (∃ m, W 0 m (upd H1 D (.lst []))) ∧ ∀ i m H, W i m H →
  (J.stop i H ∧ Q (.ref D) H) ∨ (J.go i H ∧ ∃ Nx : Hp → Prop, (∀ H', Nx H' → ∃ m', m' < m ∧ W (i + 1) m' H') ∧ ∀ x H', J.yld i H x H' → g x (wipe σ vs) H' fun σ2 H2 => wipe σ2 vs = wipe σ vs ∧ tt σ2 H2 fun b H3 =>
    if b = true then te σ2 H3 fun y H4 => ∃ acc, H4 D = some (.lst acc) ∧ acc.length < sizeLine ∧ Nx (upd H4 D (.lst (acc ++ [y]))) else Nx H3)) : tLc wi g tt te vs σ H Q := h
theorem r_yes (q : QB true H) : tYes σ H QB := q
theorem r_iZipA {ta : TA} {R : It → Hp → Prop} (h : ta σ H fun vs H1 => ∃ a b xs ys, vs = [.ref a, .ref b] ∧ ((SqL K H1 a xs ∧ SqL K H1 b ys ∧ R (Itz K a b) H1) ∨ (SqT K H1 a xs ∧ SqT K H1 b ys ∧ R (RZ.ItzT K a b) H1))) : RZ.iZipA K ta σ H R := h
theorem r_lstRg {f : L2.St → Hp → (Int → Int → Hp → Prop) → Prop} (h : f σ H fun a b H1 => RgOk a b ∧ ∀ q, H1 q = none → Q (.ref q) (upd H1 q (.lst (rgV a b)))) : tLstRg f σ H Q := h
theorem r_rg1 {QR : Int → Int → Hp → Prop} (h : ta σ H fun x H1 => ∃ n, x = .int n ∧ QR 0 n H1) : tRg1 ta σ H QR := h
theorem r_min2 {i j : Int} {B : Int → Int → Prop} (q : B i j) : ∃ i' j', [V.int i, V.int j] = [V.int i', V.int j'] ∧ B i' j' := ⟨i, j, rfl, q⟩
theorem r_par2 {x y : V} {B : V → V → Prop} (q : B x y) : ∃ v w, [x, y] = [v, w] ∧ B v w := ⟨x, y, rfl, q⟩
theorem r_popAt {l : Addr} {xs : List V} {i : Int} {y : V} (h : H l = some (.lst xs)) (h0 : 0 ≤ i) (h1 : i < (xs.length : Int)) (hs : xs.length ≤ 1000000) (hy : xs[i.toNat]? = some y) (q : Q y (upd H l (.lst (xs.eraseIdx i.toNat)))) : rPopAt (.ref l) [.int i] H Q :=
  ⟨l, xs, i, i.toNat, y, rfl, rfl, h, by omega, by omega, seqIndex_of h0 h1, hy, q⟩
theorem r_len {p : Addr} {xs : List V} (hl : SqL K H p xs ∨ SqT K H p xs) (q : Q (.int (xs.length : Int)) H) : (fun xs H Q => ∃ p ys, xs = [.ref p] ∧ (SqL K H p ys ∨ SqT K H p ys) ∧ Q (.int (List.length ys : Int)) H : List V → Hp → VK → Prop) [.ref p] H Q := ⟨p, xs, rfl, hl, q⟩
end
/-- all but what stands at p is as it was -/
def ExB (p : Addr) (H H' : Hp) : Prop := ∀ a o, a ≠ p → H a = some o → H' a = some o
theorem ExB.refl (p : Addr) (H : Hp) : ExB p H H := fun _ _ _ h => h
theorem ExB.trans {p : Addr} {H H1 H2 : Hp} (a : ExB p H H1) (b : ExB p H1 H2) : ExB p H H2 := fun c o n h => b c o n (a c o n h)
theorem ExB.of {p : Addr} {H H' : Hp} (e : Evl.Ex H H') : ExB p H H' := fun a o _ h => e a o h
theorem ExB.upd {p : Addr} {H : Hp} {o : HO} : ExB p H (upd H p o) := fun a u n h => by rw [upd_ne n]; exact h
theorem ExB.new {p q : Addr} {H : Hp} {o : HO} (h : H q = none) : ExB p H (L2.upd H q o) := ExB.of (Evl.Ex.new h)
theorem ExB.mut {p q : Addr} {H H' : Hp} {o : HO} (e : ExB p H H') (h : H q = none) : ExB p H (L2.upd H' q o) := fun a u n ha => by
  rw [upd_ne (ne_of_none ha h)]
  exact e a u n ha
/-- tuples stay -/
def ExT (H H' : Hp) : Prop := ∀ a xs, H a = some (.tup xs) → H' a = some (.tup xs)
/-- the law's pot: its cells at c, a place, a rest -/
def PotC (H : Hp) (p c : Addr) : Prop := ∃ (cs : List Int) (at' r : Int), H p = some (.lst [.ref c, .int at', .int r]) ∧ H c = some (.lst (cs.map V.int)) ∧ c ≠ p ∧ 0 ≤ at' ∧ 0 ≤ r ∧ cs.length ≤ 100
theorem PotC.np {H : Hp} {p c q : Addr} (h : PotC H p c) (n : H q = none) : q ≠ p := by
  obtain ⟨cs, a, r, h1, _⟩ := h
  exact (ne_of_none h1 n).symm
theorem PotC.nc {H : Hp} {p c q : Addr} (h : PotC H p c) (n : H q = none) : q ≠ c := by
  obtain ⟨cs, a, r, h1, h2, _⟩ := h
  exact (ne_of_none h2 n).symm
theorem PotC.upd {H : Hp} {p c q : Addr} {o : HO} (h : PotC H p c) (n1 : q ≠ p) (n2 : q ≠ c) : PotC (L2.upd H q o) p c := by
  obtain ⟨cs, a, r, h1, h2, h3⟩ := h
  exact ⟨cs, a, r, by rw [upd_ne n1.symm]; exact h1, by rw [upd_ne n2.symm]; exact h2, h3⟩
theorem PotC.new {H : Hp} {p c q : Addr} {o : HO} (h : PotC H p c) (n : H q = none) : PotC (L2.upd H q o) p c := h.upd (h.np n) (h.nc n)
theorem PotC.ex {H H' : Hp} {p c : Addr} (h : PotC H p c) (e : Evl.Ex H H') : PotC H' p c := by
  obtain ⟨cs, a, r, h1, h2, h3⟩ := h
  exact ⟨cs, a, r, e _ _ h1, e _ _ h2, h3⟩
theorem PotC.t {H H' : Hp} {p c : Addr} (h : PotC H p c) (e : ExB p H H') : ExT H H' := fun a xs ha => by
  obtain ⟨cs, at', r, h1, _⟩ := h
  exact e a _ (ne_of ha h1 (by intro z; cases z)) ha
theorem ExT.trans {H H1 H2 : Hp} (a : ExT H H1) (b : ExT H1 H2) : ExT H H2 := fun x o h => b x o (a x o h)
theorem ExT.of {H H' : Hp} (e : Evl.Ex H H') : ExT H H' := fun a xs h => e a _ h
theorem ExT.lst {H : Hp} {q : Addr} {xs : List V} {o : HO} (h : H q = some (.lst xs)) : ExT H (L2.upd H q o) := fun a ys ha => by
  rw [upd_ne (ne_of ha h (by intro z; cases z))]
  exact ha
theorem small_up {u : Int} (h0 : 0 < u) (h : u ≤ 100000) : u.natAbs < 2 ^ 1000 := Nat.lt_of_lt_of_le (show u.natAbs < 100001 by omega) (by decide)
theorem atI_of {α : Type} {xs : List α} {i : Int} {v : α} (h0 : 0 ≤ i) (h : xs[i.toNat]? = some v) : atI xs i = some v := by
  have e : ((i.toNat : Nat) : Int) = i := by omega
  rw [← e]
  exact atI_nat h
theorem atI_int {cs : List Int} {i : Int} (h0 : 0 ≤ i) (h1 : i < (cs.length : Int)) : atI (cs.map V.int) i = some (.int (cs.getD i.toNat 0)) := by
  refine atI_of h0 ?_
  have hi : i.toNat < cs.length := by omega
  rw [List.getElem?_map, List.getElem?_eq_getElem hi, List.getD_eq_getElem?_getD, List.getElem?_eq_getElem hi]
  rfl
def cutG {α : Type} (xs : List α) (lo hi : Option Int) : List α := (xs.drop (HT.sIx xs.length 0 lo)).take (HT.sIx xs.length xs.length hi - HT.sIx xs.length 0 lo)
theorem cutV_map {α : Type} (f : α → V) (xs : List α) (lo hi : Option Int) : cutV (xs.map f) lo hi = (cutG xs lo hi).map f := by
  unfold cutV cutG
  rw [List.length_map, List.map_take, List.map_drop]
theorem cutG_take {α : Type} (xs : List α) (k : Nat) : cutG xs none (some (k : Int)) = xs.take k := by
  unfold cutG
  rw [HT.sIx_none, HT.sIx_nat, List.drop_zero, Nat.sub_zero]
  by_cases h : k ≤ xs.length
  · rw [Nat.min_eq_left h]
  · rw [Nat.min_eq_right (by omega), List.take_length, List.take_of_length_le (by omega)]
theorem cutG_drop {α : Type} (xs : List α) (k : Nat) : cutG xs (some (k : Int)) none = xs.drop k := by
  unfold cutG
  rw [HT.sIx_none, HT.sIx_nat]
  by_cases h : k ≤ xs.length
  · rw [Nat.min_eq_left h, List.take_of_length_le (by rw [List.length_drop]; exact Nat.le_refl _)]
  · rw [Nat.min_eq_right (by omega), List.drop_length, List.drop_of_length_le (by omega), List.take_nil]
theorem cutG_len {α : Type} (xs : List α) (i j : Nat) : (cutG xs (some (i : Int)) (some (j : Int))).length ≤ j - i ∧ (xs.length ≤ i → (cutG xs (some (i : Int)) (some (j : Int))).length = 0) := by
  unfold cutG
  rw [HT.sIx_nat, HT.sIx_nat, List.length_take, List.length_drop]
  omega
theorem dpAll_get {K : PySem.W.Frag} {H : Hp} : ∀ {xs : List V} {ds : List PyData}, DpAll K H xs ds → xs.length = ds.length ∧ ∀ (i : Nat) (x : V), xs[i]? = some x → ∃ d, ds[i]? = some d ∧ Dp K H x d
  | _, _, .nil => ⟨rfl, fun i x h => by simp at h⟩
  | _, _, .cons h t => by
    obtain ⟨e, f⟩ := dpAll_get t
    refine ⟨by simp [e], fun i x hx => ?_⟩
    cases i with
    | zero => exact ⟨_, rfl, (Option.some.inj hx) ▸ h⟩
    | succ i => exact f i x hx
mutual
theorem Dp.ex {K : PySem.W.Frag} {H H' : Hp} (e : Evl.Ex H H') : ∀ (d : PyData) (v : V), Dp K H v d → Dp K H' v d
  | .none, _, h => by cases h; exact .non
  | .bool _, _, h => by cases h; exact .bl _
  | .int _, _, h => by cases h; exact .int _
  | .str _, _, h => by cases h; exact .str _
  | .list ds, _, h => by
    cases h with
    | lst h1 h2 => exact .lst (Evl.ex_l e h1) (DpAll.ex e ds _ h2)
  | .tuple ds, _, h => by
    cases h with
    | tup h1 h2 => exact .tup (Evl.ex_t e h1) (DpAll.ex e ds _ h2)
  | .dict _, _, h => by cases h
theorem DpAll.ex {K : PySem.W.Frag} {H H' : Hp} (e : Evl.Ex H H') : ∀ (ds : List PyData) (vs : List V), DpAll K H vs ds → DpAll K H' vs ds
  | [], _, h => by cases h; exact .nil
  | d :: ds, _, h => by
    cases h with
    | cons h1 h2 => exact .cons (Dp.ex e d _ h1) (DpAll.ex e ds _ h2)
end
theorem depthAll_mem : ∀ {ds : List PyData} {d : PyData}, d ∈ ds → d.depth ≤ PyData.depthAll ds
  | x :: r, d, h => by
    rw [PyData.depthAll]
    rcases List.mem_cons.mp h with rfl | h
    · omega
    · have := depthAll_mem h
      omega
theorem inV_rep (n : Nat) : inV (.bl false) (List.replicate n (V.bl true)) = false := by
  induction n with
  | zero => rfl
  | succ n ih => rw [List.replicate_succ]; simp [inV, eqV] at ih ⊢
theorem flat_rep (n : Nat) : (List.replicate n (V.bl true)).all flatV = true := by
  induction n with
  | zero => rfl
  | succ n ih => rw [List.replicate_succ, List.all_cons, ih]; rfl
mutual
def wd : PyData → Bool
  | .list ds => decide (ds.length ≤ 100000) && wdAll ds
  | .tuple ds => decide (ds.length ≤ 100000) && wdAll ds
  | .dict _ => false
  | _ => true
def wdAll : List PyData → Bool
  | [] => true
  | d :: r => wd d && wdAll r
end
theorem wdAll_mem : ∀ {ds : List PyData} {d : PyData}, wdAll ds = true → d ∈ ds → wd d = true
  | x :: r, d, h, hd => by
    rw [wdAll, Bool.and_eq_true] at h
    rcases List.mem_cons.mp hd with rfl | hd
    · exact h.1
    · exact wdAll_mem h.2 hd
/-! ### data -/
theorem shaped_ints (cs : List Int) : SeqAt.shaped (.list (cs.map PyData.int)) = true := by
  have h1 : PyData.canLayAll0 (cs.map PyData.int) = true := by
    induction cs with
    | nil => rfl
    | cons x r ih => simp [PyData.canLayAll0, PyData.canLay0, ih]
  have h2 : PyData.depthAll (cs.map PyData.int) ≤ 1 := by
    induction cs with
    | nil => simp [PyData.depthAll]
    | cons x r ih =>
      have := ih (by rw [List.map_cons, PyData.canLayAll0, Bool.and_eq_true] at h1; exact h1.2)
      simp [PyData.depthAll, PyData.depth]
      omega
  unfold SeqAt.shaped
  rw [Bool.and_eq_true]
  refine ⟨by rw [PyData.canLay0]; exact h1, decide_eq_true ?_⟩
  rw [PyData.depth]
  omega
theorem dpAll_ints {K : PySem.W.Frag} {H : Hp} : ∀ cs : List Int, DpAll K H (cs.map V.int) (cs.map PyData.int)
  | [] => .nil
  | x :: r => .cons (.int x) (dpAll_ints r)
theorem dp_ints {K : PySem.W.Frag} {H : Hp} {c : Addr} {cs : List Int} (h : SqL K H c (cs.map V.int)) : Dp K H (.ref c) (.list (cs.map PyData.int)) := .lst h (dpAll_ints cs)
/-! ### numbers from 0 on -/
def rgI (n : Int) : List Int := (List.range n.toNat).map fun i => ((i : Nat) : Int)
theorem rgI_len (n : Int) : (rgI n).length = n.toNat := by unfold rgI; rw [List.length_map, List.length_range]
theorem rgI_mem {n x : Int} : x ∈ rgI n ↔ 0 ≤ x ∧ x < n := by
  unfold rgI
  rw [List.mem_map]
  constructor
  · rintro ⟨i, hi, rfl⟩
    rw [List.mem_range] at hi
    omega
  · rintro ⟨h0, h1⟩
    exact ⟨x.toNat, List.mem_range.mpr (by omega), by omega⟩
theorem rgI_nd (n : Int) : (rgI n).Nodup := by
  unfold rgI
  refine List.Pairwise.map _ ?_ List.nodup_range
  intro a b h e
  exact h (by omega)
theorem rgV_eq (n : Int) : rgV 0 n = (rgI n).map V.int := by
  unfold rgV rgI
  rw [List.map_map, show n - 0 = n by omega]
  congr 1
  funext i
  show V.int (0 + (i : Nat)) = V.int ((i : Nat) : Int)
  rw [Int.zero_add]
/-! ### webs -/
def Lx (a b : Int × Int) : Prop := a.1 < b.1 ∨ (a.1 = b.1 ∧ a.2 < b.2)
structure WebOk (many : Int) (ties : List (Int × Int)) : Prop where
  lo : 1 ≤ many
  hi : many ≤ 60
  ok : ∀ t ∈ ties, 0 ≤ t.1 ∧ t.1 < t.2 ∧ t.2 < many
  up : ties.Pairwise Lx
def tieD (t : Int × Int) : PyData := .tuple [.int t.1, .int t.2]
def webD (many : Int) (ties : List (Int × Int)) : PyData := .tuple [.int many, .tuple (ties.map tieD)]
/-- the pair of two houses' places, the lesser ahead, as the law's min and max tell it -/
def fP (pl : List Int) (i j : Nat) : Int × Int :=
  (if pl.getD j 0 < pl.getD i 0 then pl.getD j 0 else pl.getD i 0, if pl.getD j 0 > pl.getD i 0 then pl.getD j 0 else pl.getD i 0)
theorem nd_ix {pl : List Int} (h : pl.Nodup) {i j : Nat} (hi : i < pl.length) (hj : j < pl.length) (e : pl.getD i 0 = pl.getD j 0) : i = j := by
  rw [List.getD_eq_getElem?_getD, List.getD_eq_getElem?_getD, List.getElem?_eq_getElem hi, List.getElem?_eq_getElem hj] at e
  have e : pl[i] = pl[j] := e
  have hp := List.pairwise_iff_getElem.mp h
  rcases Nat.lt_trichotomy i j with q | q | q
  · exact absurd e (hp i j hi hj q)
  · exact q
  · exact absurd e.symm (hp j i hj hi q)
theorem fP_inj {pl : List Int} (h : pl.Nodup) {i j i' j' : Nat} (h1 : i < j) (h2 : j < pl.length) (h3 : i' < j') (h4 : j' < pl.length) (e : fP pl i j = fP pl i' j') : i = i' ∧ j = j' := by
  have e1 := congrArg Prod.fst e
  have e2 := congrArg Prod.snd e
  unfold fP at e1 e2
  simp only at e1 e2
  have ne1 : pl.getD i 0 ≠ pl.getD j 0 := fun q => by have := nd_ix h (by omega) h2 q; omega
  have ne2 : pl.getD i' 0 ≠ pl.getD j' 0 := fun q => by have := nd_ix h (by omega) h4 q; omega
  have alt : (pl.getD i 0 = pl.getD i' 0 ∧ pl.getD j 0 = pl.getD j' 0) ∨ (pl.getD i 0 = pl.getD j' 0 ∧ pl.getD j 0 = pl.getD i' 0) := by
    generalize pl.getD i 0 = a at *
    generalize pl.getD j 0 = b at *
    generalize pl.getD i' 0 = c at *
    generalize pl.getD j' 0 = d at *
    split at e1 <;> split at e2 <;> split at e1 <;> split at e2 <;> omega
  rcases alt with ⟨q1, q2⟩ | ⟨q1, q2⟩
  · exact ⟨nd_ix h (by omega) (by omega) q1, nd_ix h (by omega) (by omega) q2⟩
  · have a := nd_ix h (by omega) (by omega) q1
    have b := nd_ix h (by omega) (by omega) q2
    omega
/-- the pairs so far: unlike, each of two indexes ahead of (one, other) -/
structure PsOk (pl : List Int) (ps : List (Int × Int)) (one other : Nat) : Prop where
  nd : ps.Nodup
  of : ∀ t ∈ ps, ∃ i j : Nat, i < j ∧ j < pl.length ∧ (i < one ∨ (i = one ∧ j < other)) ∧ t = fP pl i j
theorem PsOk.mono {pl : List Int} {ps : List (Int × Int)} {a b c d : Nat} (h : PsOk pl ps a b) (hle : ∀ i j : Nat, i < j → j < pl.length → (i < a ∨ (i = a ∧ j < b)) → (i < c ∨ (i = c ∧ j < d))) : PsOk pl ps c d :=
  ⟨h.nd, fun t ht => by
    obtain ⟨i, j, h1, h2, h3, h4⟩ := h.of t ht
    exact ⟨i, j, h1, h2, hle i j h1 h2 h3, h4⟩⟩
theorem PsOk.snoc {pl : List Int} {ps : List (Int × Int)} {a b : Nat} (hn : pl.Nodup) (h : PsOk pl ps a b) (hab : a < b) (hb : b < pl.length) : PsOk pl (ps ++ [fP pl a b]) a (b + 1) := by
  refine ⟨?_, fun t ht => ?_⟩
  · refine List.nodup_append.mpr ⟨h.nd, by simp, fun x hx y hy e => ?_⟩
    rw [List.mem_singleton] at hy
    subst hy
    obtain ⟨i, j, h1, h2, h3, h4⟩ := h.of x hx
    rw [e] at h4
    have := fP_inj hn hab hb h1 h2 h4
    omega
  · rcases List.mem_append.mp ht with ht | ht
    · obtain ⟨i, j, h1, h2, h3, h4⟩ := h.of t ht
      exact ⟨i, j, h1, h2, by omega, h4⟩
    · rw [List.mem_singleton] at ht
      exact ⟨a, b, hab, hb, by omega, ht⟩
theorem PsOk.valid {pl : List Int} {ps : List (Int × Int)} {a b : Nat} {many : Int} (hp : pl.Perm (rgI many)) (h : PsOk pl ps a b) : ∀ t ∈ ps, 0 ≤ t.1 ∧ t.1 < t.2 ∧ t.2 < many := fun t ht => by
  obtain ⟨i, j, h1, h2, h3, rfl⟩ := h.of t ht
  have hn : pl.Nodup := hp.nodup_iff.mpr (rgI_nd many)
  have mem : ∀ k, k < pl.length → 0 ≤ pl.getD k 0 ∧ pl.getD k 0 < many := fun k hk => by
    rw [List.getD_eq_getElem?_getD, List.getElem?_eq_getElem hk]
    exact rgI_mem.mp (hp.mem_iff.mp (List.getElem_mem hk))
  have m1 := mem i (by omega)
  have m2 := mem j h2
  have ne : pl.getD i 0 ≠ pl.getD j 0 := fun q => by have := nd_ix hn (by omega) h2 q; omega
  unfold fP
  simp only
  generalize pl.getD i 0 = x at *
  generalize pl.getD j 0 = y at *
  split <;> split <;> omega
theorem sorted_up {ps ps' : List (Int × Int)} (hn : ps.Nodup) (hp : ps'.Perm ps) (hs : ps'.Pairwise fun a b => SrtO.lexB b a = false) : ps'.Pairwise Lx := by
  have hn' : ps'.Nodup := hp.nodup_iff.mpr hn
  refine List.Pairwise.imp₂ ?_ hs hn'
  intro a b h ne
  have := SrtO.lexB_no.mp h
  obtain ⟨a1, a2⟩ := a
  obtain ⟨b1, b2⟩ := b
  have : ¬ (a1 = b1 ∧ a2 = b2) := fun q => ne (by rw [q.1, q.2])
  unfold Lx
  simp only at *
  omega
/-! ### tuples of two on the heap -/
def TupsAt (H : Hp) (rs : List V) (ps : List (Int × Int)) : Prop := Paired (fun r (p : Int × Int) => ∃ t, r = V.ref t ∧ H t = some (.tup [.int p.1, .int p.2])) rs ps
theorem TupsAt.mono {H H' : Hp} (e : ExT H H') : ∀ {rs : List V} {ps : List (Int × Int)}, TupsAt H rs ps → TupsAt H' rs ps
  | _, _, .nil => .nil
  | _, _, .cons ⟨t, h1, h2⟩ r => .cons ⟨t, h1, e t _ h2⟩ (TupsAt.mono e r)
theorem TupsAt.snoc {H : Hp} {t : Addr} {p : Int × Int} (ht : H t = some (.tup [.int p.1, .int p.2])) : ∀ {rs : List V} {ps : List (Int × Int)}, TupsAt H rs ps → TupsAt H (rs ++ [.ref t]) (ps ++ [p])
  | _, _, .nil => .cons ⟨t, rfl, ht⟩ .nil
  | _, _, .cons h r => .cons h (TupsAt.snoc ht r)
def pairOf (H : Hp) : V → Int × Int
  | .ref t => match H t with
    | some (.tup [.int a, .int b]) => (a, b)
    | _ => (0, 0)
  | _ => (0, 0)
theorem pairOf_at {H : Hp} {t : Addr} {p : Int × Int} (h : H t = some (.tup [.int p.1, .int p.2])) : pairOf H (.ref t) = p := by
  unfold pairOf
  simp only [h]
theorem TupsAt.map : ∀ {H : Hp} {rs : List V} {ps : List (Int × Int)}, TupsAt H rs ps → rs.map (pairOf H) = ps
  | _, _, _, .nil => rfl
  | H, _, _, .cons ⟨t, h1, h2⟩ r => by
    rw [List.map_cons, TupsAt.map r, h1, pairOf_at h2]
theorem TupsAt.all : ∀ {H : Hp} {rs : List V} {ps : List (Int × Int)}, TupsAt H rs ps → ∀ x ∈ rs, ∃ t, x = V.ref t ∧ H t = some (.tup [.int (pairOf H x).1, .int (pairOf H x).2])
  | _, _, _, .cons ⟨t, h1, h2⟩ r, x, hx => by
    rcases List.mem_cons.mp hx with e | hx
    · rw [e, h1]
      exact ⟨t, rfl, by rw [pairOf_at h2]; exact h2⟩
    · exact TupsAt.all r x hx
theorem tupsAt_of {H : Hp} : ∀ rs : List V, (∀ x ∈ rs, ∃ t, x = V.ref t ∧ H t = some (.tup [.int (pairOf H x).1, .int (pairOf H x).2])) → TupsAt H rs (rs.map (pairOf H))
  | [], _ => .nil
  | x :: r, h => .cons (h x List.mem_cons_self) (tupsAt_of r fun y hy => h y (List.mem_cons_of_mem _ hy))
theorem TupsAt.dp {K : PySem.W.Frag} {H : Hp} : ∀ {rs : List V} {ps : List (Int × Int)}, TupsAt H rs ps → DpAll K H rs (ps.map tieD)
  | _, _, .nil => .nil
  | _, _, .cons ⟨t, h1, h2⟩ r => by
    rw [h1]
    exact .cons (.tup (SqT.of h2) (.cons (.int _) (.cons (.int _) .nil))) (TupsAt.dp r)
/-- what is handed back: a web at a new tuple -/
theorem web_dp {K : PySem.W.Frag} {H : Hp} {q t : Addr} {many : Int} {rs : List V} {ps : List (Int × Int)} (h1 : SqT K H q [.int many, .ref t]) (h2 : SqT K H t rs) (h3 : DpAll K H rs (ps.map tieD)) : Dp K H (.ref q) (webD many ps) :=
  .tup h1 (.cons (.int _) (.cons (.tup h2 h3) .nil))
theorem eraseIdx_perm {α : Type} : ∀ (l : List α) (k : Nat) (y : α), l[k]? = some y → (y :: l.eraseIdx k).Perm l
  | [], _, _, h => by simp at h
  | x :: r, 0, y, h => by
    have e : x = y := Option.some.inj h
    rw [e]
    exact List.Perm.refl _
  | x :: r, k + 1, y, h => by
    have ih := eraseIdx_perm r k y (by simpa using h)
    rw [List.eraseIdx_cons_succ]
    exact (List.Perm.swap x y _).trans (ih.cons x)
theorem map_eraseIdx {α β : Type} (f : α → β) : ∀ (l : List α) (k : Nat), (l.map f).eraseIdx k = (l.eraseIdx k).map f
  | [], _ => rfl
  | _ :: _, 0 => rfl
  | x :: r, k + 1 => by rw [List.map_cons, List.eraseIdx_cons_succ, List.eraseIdx_cons_succ, List.map_cons, map_eraseIdx f r k]
theorem sort_same {a b : List Int} (hp : a.Perm b) (ha : a.Pairwise (· ≤ ·)) (hb : b.Pairwise (· ≤ ·)) : a = b :=
  hp.eq_of_pairwise (fun x y _ _ h1 h2 => Int.le_antisymm h1 h2) ha hb
theorem sort_of_lt {a : List Int} (h : a.Pairwise (· < ·)) : a.Pairwise (· ≤ ·) := h.imp fun q => Int.le_of_lt q
theorem len_le_of_sub {α : Type} [DecidableEq α] : ∀ {l m : List α}, l.Nodup → (∀ x ∈ l, x ∈ m) → l.length ≤ m.length
  | [], m, _, _ => Nat.zero_le _
  | x :: r, m, hn, hs => by
    have hx : x ∈ m := hs x List.mem_cons_self
    have h1 : r.length ≤ (m.erase x).length := len_le_of_sub (List.pairwise_cons.mp hn).2 fun y hy => (List.mem_erase_of_ne fun e => (List.pairwise_cons.mp hn).1 y hy e.symm).mpr (hs y (List.mem_cons_of_mem _ hy))
    rw [List.length_erase_of_mem hx] at h1
    have := List.length_pos_of_mem hx
    rw [List.length_cons]
    omega
/-- the other house of a tie that has h -/
def oth (h : Int) (t : Int × Int) : Option Int := if t.1 = h then some t.2 else if t.2 = h then some t.1 else none
/-- the houses that h is tied to -/
def nbr (ties : List (Int × Int)) (h : Int) : List Int := ties.filterMap (oth h)
theorem nbr_snoc (ties : List (Int × Int)) (t : Int × Int) (h : Int) : nbr (ties ++ [t]) h = nbr ties h ++ (oth h t).toList := by
  unfold nbr
  rw [List.filterMap_append]
  cases e : oth h t <;> simp [e]
theorem nbr_up {many : Int} {ties : List (Int × Int)} (W : WebOk many ties) (h : Int) : (nbr ties h).Pairwise (· < ·) := by
  unfold nbr
  rw [List.pairwise_filterMap]
  have hok := W.ok
  refine List.Pairwise.imp_of_mem ?_ W.up
  intro a b ma mb hab x hx y hy
  have ha := hok a ma
  have hb := hok b mb
  unfold oth at hx hy
  unfold Lx at hab
  split at hx <;> split at hy <;> (try split at hx) <;> (try split at hy) <;> simp at hx hy <;> omega
theorem nbr_mem {ties : List (Int × Int)} {h x : Int} : x ∈ nbr ties h ↔ ∃ t ∈ ties, oth h t = some x := by
  unfold nbr
  rw [List.mem_filterMap]
theorem nbr_iff {many : Int} {ties : List (Int × Int)} (W : WebOk many ties) {h x : Int} : x ∈ nbr ties h ↔ (h, x) ∈ ties ∨ (x, h) ∈ ties := by
  rw [nbr_mem]
  constructor
  · rintro ⟨⟨a, b⟩, ht, he⟩
    unfold oth at he
    simp only at he
    split at he
    · rename_i e
      cases he
      cases e
      exact .inl ht
    · split at he
      · rename_i e
        cases he
        cases e
        exact .inr ht
      · cases he
  · rintro (ht | ht)
    · exact ⟨_, ht, by unfold oth; rw [if_pos rfl]⟩
    · have := W.ok _ ht
      exact ⟨_, ht, by unfold oth; rw [if_neg (by simp only at this ⊢; omega), if_pos rfl]⟩
theorem nbr_range {many : Int} {ties : List (Int × Int)} (W : WebOk many ties) {h x : Int} (hx : x ∈ nbr ties h) : 0 ≤ x ∧ x < many := by
  rcases (nbr_iff W).mp hx with q | q
  · have := W.ok _ q; simp only at this; omega
  · have := W.ok _ q; simp only at this; omega
theorem nbr_len {many : Int} {ties : List (Int × Int)} (W : WebOk many ties) (h : Int) : (nbr ties h).length ≤ 60 := by
  have := len_le_of_sub (l := nbr ties h) (m := rgI many) ((nbr_up W h).imp fun q => Int.ne_of_lt q) fun x hx => rgI_mem.mpr (nbr_range W hx)
  rw [rgI_len] at this
  have := W.hi
  omega
theorem ties_len {many : Int} {ties : List (Int × Int)} (W : WebOk many ties) : ties.length ≤ 3600 := by
  have hn : ties.Nodup := W.up.imp fun {a b} h => by
    rintro rfl
    unfold Lx at h
    omega
  have s : ties.length ≤ ((List.range 60).flatMap fun i => (List.range 60).map fun j => (((i : Nat) : Int), ((j : Nat) : Int))).length := by
    refine len_le_of_sub hn fun t ht => ?_
    have := W.ok t ht
    have := W.hi
    rw [List.mem_flatMap]
    refine ⟨t.1.toNat, List.mem_range.mpr (by omega), List.mem_map.mpr ⟨t.2.toNat, List.mem_range.mpr (by omega), ?_⟩⟩
    obtain ⟨a, b⟩ := t
    simp only at *
    congr 1 <;> omega
  have e : ((List.range 60).flatMap fun i => (List.range 60).map fun j => (((i : Nat) : Int), ((j : Nat) : Int))).length = 3600 := by decide +kernel
  omega
def intsD (ns : List Int) : PyData := .list (ns.map PyData.int)
/-- for each house the houses that it is tied to -/
def besD (many : Int) (ties : List (Int × Int)) : PyData := .list ((rgI many).map fun h => intsD (nbr ties h))
theorem dp_intsD {K : PySem.W.Frag} {H : Hp} {a : Addr} {ns : List Int} (h : SqL K H a (ns.map V.int)) : Dp K H (.ref a) (intsD ns) := dp_ints h
/-- what stands behind a datum that is a list of ints -/
theorem intsD_at {K : PySem.W.Frag} {H : Hp} {v : V} {ns : List Int} (h : Dp K H v (intsD ns)) : ∃ a, v = .ref a ∧ SqL K H a (ns.map V.int) := by
  unfold intsD at h
  cases h with
  | lst hs ha =>
    rename_i a xs
    have e : xs = ns.map V.int := by
      clear hs
      induction ns generalizing xs with
      | nil => cases ha; rfl
      | cons n r ih =>
        cases ha with
        | cons h1 h2 =>
          cases h1
          rw [List.map_cons, ih h2]
    subst e
    exact ⟨a, rfl, hs⟩
theorem tieD_at {K : PySem.W.Frag} {H : Hp} {v : V} {t : Int × Int} (h : Dp K H v (tieD t)) : ∃ a, v = .ref a ∧ SqT K H a [.int t.1, .int t.2] := by
  unfold tieD at h
  cases h with
  | tup hs ha =>
    cases ha with
    | cons h1 h2 =>
      cases h1
      cases h2 with
      | cons h3 h4 =>
        cases h3
        cases h4
        exact ⟨_, rfl, hs⟩
theorem webD_at {K : PySem.W.Frag} {H : Hp} {v : V} {many : Int} {ties : List (Int × Int)} (h : Dp K H v (webD many ties)) : ∃ a b xs, v = .ref a ∧ SqT K H a [.int many, .ref b] ∧ SqT K H b xs ∧ DpAll K H xs (ties.map tieD) := by
  unfold webD at h
  cases h with
  | tup hs ha =>
    cases ha with
    | cons h1 h2 =>
      cases h1
      cases h2 with
      | cons h3 h4 =>
        cases h4
        cases h3 with
        | tup h5 h6 => exact ⟨_, _, _, rfl, hs, h5, h6⟩
theorem listD_at {K : PySem.W.Frag} {H : Hp} {v : V} {ds : List PyData} (h : Dp K H v (.list ds)) : ∃ a xs, v = .ref a ∧ SqL K H a xs ∧ DpAll K H xs ds := by
  cases h with
  | lst hs ha => exact ⟨_, _, rfl, hs, ha⟩
theorem besD_at {K : PySem.W.Frag} {H : Hp} {v : V} {many : Int} {ties : List (Int × Int)} (h : Dp K H v (besD many ties)) : ∃ a xs, v = .ref a ∧ SqL K H a xs ∧ xs.length = many.toNat ∧
    ∀ i : Int, 0 ≤ i → i < many → ∃ b, atI xs i = some (.ref b) ∧ SqL K H b ((nbr ties i).map V.int) := by
  obtain ⟨a, xs, rfl, hs, ha⟩ := listD_at h
  obtain ⟨hl, hg⟩ := dpAll_get ha
  rw [List.length_map, rgI_len] at hl
  refine ⟨a, xs, rfl, hs, hl, fun i h0 h1 => ?_⟩
  have hi : i.toNat < xs.length := by omega
  obtain ⟨d, e1, e2⟩ := hg i.toNat xs[i.toNat] (List.getElem?_eq_getElem hi)
  have e3 : d = intsD (nbr ties i) := by
    rw [List.getElem?_map] at e1
    unfold rgI at e1
    rw [List.getElem?_map, List.getElem?_range (by omega)] at e1
    have := Option.some.inj e1
    rw [← this]
    simp only
    rw [show ((i.toNat : Nat) : Int) = i by omega]
  subst e3
  obtain ⟨b, e4, e5⟩ := intsD_at e2
  exact ⟨b, atI_of h0 (by rw [List.getElem?_eq_getElem hi, e4]), e5⟩
theorem dpAll_ix {K : PySem.W.Frag} {H : Hp} : ∀ {xs : List V} {ds : List PyData}, xs.length = ds.length → (∀ (i : Nat) (x : V) (d : PyData), xs[i]? = some x → ds[i]? = some d → Dp K H x d) → DpAll K H xs ds
  | [], [], _, _ => .nil
  | [], _ :: _, h, _ => by simp at h
  | _ :: _, [], h, _ => by simp at h
  | x :: xs, d :: ds, h, f => .cons (f 0 x d rfl rfl) (dpAll_ix (by simpa using h) fun i y e h1 h2 => f (i + 1) y e (by simpa using h1) (by simpa using h2))
theorem rgI_get {n : Int} {i : Nat} (h : (i : Int) < n) : (rgI n)[i]? = some (i : Int) := by
  unfold rgI
  rw [List.getElem?_map, List.getElem?_range (by omega)]
  rfl
theorem bes_dp {K : PySem.W.Frag} {H : Hp} {q : Addr} {bs : List Addr} {many : Int} {ties : List (Int × Int)} (h : SqL K H q (bs.map V.ref)) (hl : bs.length = many.toNat)
    (hb : ∀ (k : Nat) (b : Addr), bs[k]? = some b → SqL K H b ((nbr ties (k : Int)).map V.int)) : Dp K H (.ref q) (besD many ties) := by
  refine .lst h (dpAll_ix (by rw [List.length_map, List.length_map, rgI_len, hl]) fun i x d h1 h2 => ?_)
  rw [List.getElem?_map] at h1 h2
  cases e : bs[i]? with
  | none => rw [e] at h1; cases h1
  | some b =>
    rw [e] at h1
    cases h1
    have hi : i < bs.length := (List.getElem?_eq_some_iff.mp e).1
    rw [rgI_get (by omega)] at h2
    cases h2
    exact dp_intsD (hb i b e)
theorem nd_ix' {α : Type} {l : List α} (h : l.Nodup) {i j : Nat} {a : α} (hi : l[i]? = some a) (hj : l[j]? = some a) : i = j := by
  have hp := List.pairwise_iff_getElem.mp h
  obtain ⟨h1, e1⟩ := List.getElem?_eq_some_iff.mp hi
  obtain ⟨h2, e2⟩ := List.getElem?_eq_some_iff.mp hj
  rcases Nat.lt_trichotomy i j with q | q | q
  · exact absurd (e1.trans e2.symm) (hp i j h1 h2 q)
  · exact q
  · exact absurd (e2.trans e1.symm) (hp j i h2 h1 q)
/-- a list of lists: for each house the houses that it is tied to -/
def BesAt (H : Hp) (v : V) (many : Int) (ties : List (Int × Int)) : Prop := ∃ (q : Addr) (bs : List Addr), v = .ref q ∧ H q = some (.lst (bs.map V.ref)) ∧ bs.length = many.toNat ∧ ∀ (k : Nat) (b : Addr), bs[k]? = some b → H b = some (.lst ((nbr ties (k : Int)).map V.int))
theorem BesAt.dp {K : PySem.W.Frag} {H : Hp} {v : V} {many : Int} {ties : List (Int × Int)} (h : BesAt H v many ties) : Dp K H v (besD many ties) := by
  obtain ⟨q, bs, rfl, h1, h2, h3⟩ := h
  exact bes_dp (SqL.of h1) h2 fun k b hb => SqL.of (h3 k b hb)
theorem BesAt.ex {H H' : Hp} {v : V} {many : Int} {ties : List (Int × Int)} (h : BesAt H v many ties) (e : Evl.Ex H H') : BesAt H' v many ties := by
  obtain ⟨q, bs, rfl, h1, h2, h3⟩ := h
  exact ⟨q, bs, rfl, e _ _ h1, h2, fun k b hb => e _ _ (h3 k b hb)⟩
theorem BesAt.at {H : Hp} {v : V} {many : Int} {ties : List (Int × Int)} (h : BesAt H v many ties) : ∃ (q : Addr) (xs : List V), v = .ref q ∧ H q = some (.lst xs) ∧ ∀ i : Int, 0 ≤ i → i < many → ∃ b, atI xs i = some (.ref b) ∧ H b = some (.lst ((nbr ties i).map V.int)) := by
  obtain ⟨q, bs, rfl, h1, h2, h3⟩ := h
  refine ⟨q, _, rfl, h1, fun i h0 hi => ?_⟩
  have lt : i.toNat < bs.length := by omega
  refine ⟨bs[i.toNat], atI_of h0 (by rw [List.getElem?_map, List.getElem?_eq_getElem lt]; rfl), ?_⟩
  have := h3 i.toNat _ (List.getElem?_eq_getElem lt)
  rw [show ((i.toNat : Nat) : Int) = i by omega] at this
  exact this
/-! ### set(xs) of a list of ints: a set, told as the layer tells those of its own -/
abbrev emptyS (w : World) : Obj := { cls := .type "set", dict := none, data := .set #[] 0 (.fresh 0 0 (!w.params.followText "set-order")) }
section
variable {P : Program} {w : World} {A : Around} {E : Value → Shared → Prop} {s : Shared}
set_option maxHeartbeats 9000000 in
theorem call_set_ofList {a : Addr} {its : Array Value} (ks : List Int) {Q : Value → Shared → Prop} (calm : A.handled = none) (isl : s.heap.IsList a its) (are : IntsAre its.toList ks) (few : ks.length + 1 < scanBound)
    (out : ∀ (g : Heap) (tk n : Nat), SetR w g s.heap.objs.size (fun j => decide (j ∈ ks)) n → n ≤ ks.length → (∀ b o, s.heap.get? b = some o → g.get? b = some o) → Q (.ref s.heap.objs.size) { s with heap := g, toks := tk }) :
    wpAny (model P w) A (call (.type "set") [.ref a]) Q E s := by
  have size_is : its.size = ks.length := by
    have z := IntsAre.length are
    rwa [Array.length_toList] at z
  have cs := F.called_set
  obtain ⟨m1, m2, m3⟩ := cs.mro
  have made := cs.made
  have subs := cs.sub
  have nty := cs.notType
  have can := cs.canCreate
  have tcall := F.typeCall_set_1 (.ref a)
  refine wpAny_call (codeAny_of_tree ?_)
  show wpAny _ _ (callAny (Value.type "set") _) _ _ _
  refine wpAny_pure ⟨Code.quiet_builtin _ (by decide +kernel), codeAny_builtin F.entry_type_call ?_⟩
  rw [Around.under_plain (weight_type_call_type "set" [.ref a] []) rfl]
  repeat (any_goals (first | wp_step | assumption))
  refine codeAny_mono (code_set_led1 (.ref a) (E := E) (Q₁ := fun v s1 => v = .ref s.heap.objs.size ∧ s1 = { s with heap := s.heap.push (emptyS w) }) ⟨rfl, rfl⟩) fun res s1 got => ?_
  cases res with
  | error _ => exact got
  | ok flow =>
    cases flow with
    | ret v =>
      obtain ⟨rfl, rfl⟩ := got
      have at0 : (s.heap.push (emptyS w)).get? s.heap.objs.size = some (emptyS w) := Heap.get?_push_size _ rfl
      have ty0 : Shared.TypeIs { s with heap := s.heap.push (emptyS w) } (.ref s.heap.objs.size) "set" := ⟨_, at0, rfl⟩
      have ini1 := cs.init.lookup
      have ini2 := cs.init.bind (.ref s.heap.objs.size)
      repeat (any_goals (first | wp_step | assumption))
      refine codeAny_mono (codeAny_call_builtin (R := wants (fun r s2 => r = .none ∧ ∃ g tk n, s2 = { s with heap := g, toks := tk } ∧ SetR w g s.heap.objs.size (fun j => decide (j ∈ ks)) n ∧ n ≤ ks.length ∧ (∀ b o, s.heap.get? b = some o → g.get? b = some o)) E) cs.init.plain F.entry_set_init (check_set_init_1 ty0 ?_)) fun res2 s2 got2 => ?_
      · obtain ⟨ob, hob, hcl, n0, hdt⟩ := isl
        obtain ⟨k1, k2, k3, k4⟩ := ob
        simp only at hcl hdt
        subst hcl hdt
        have under : a < s.heap.objs.size := Heap.lt_size hob
        have hob2 : (s.heap.push (emptyS w)).get? a = some { cls := .type "list", dict := k2, data := .seq its n0, slots := k4 } := Heap.get?_push_of_some _ hob
        have t1 := F.sub_list_set
        have t2 := F.sub_list_frozenset
        have t3 : (Value.type "list" == Value.type "dict") = false := by decide
        have isl2 : (s.heap.push (emptyS w)).IsList a its := ⟨_, hob2, rfl, n0, rfl⟩
        unfold Builtin.«set.__init__» noKeywords Builtin.Frozenset.updateFrom
        generalize hit : pyIter = iter
        wp_walk
        subst hit
        refine wpAny_pyIter_list isl2 (wpAny_bind (wpAny_runValue ?_))
        have calm3 : A.in1.in1.in1.handled = none := by simp [calm]
        have apart : a ≠ (s.heap.push (emptyS w)).objs.size := by
          rw [Heap.size_push]
          exact Nat.ne_of_lt (Nat.lt_succ_of_lt under)
        have notin : s.heap.objs.size ∉ [(s.heap.push (emptyS w)).objs.size, a] := by
          intro m
          rw [Heap.size_push] at m
          rcases List.mem_cons.mp m with m | m
          · exact absurd m (Nat.ne_of_lt (Nat.lt_succ_self _))
          · exact absurd (List.mem_singleton.mp m) (Nat.ne_of_gt under)
        have vals : ∀ (i : Nat) (v : Value), its[i]? = some v → ∃ k t, ks[i]? = some k ∧ v = .int k t := fun i v hv => by
          have lt : i < ks.length := size_is ▸ (Array.getElem?_eq_some_iff.mp hv).1
          obtain ⟨t, e⟩ := IntsAre.int_at are i v (by rw [Array.getElem?_toList]; exact hv)
          rw [List.getD_eq_getElem?_getD, List.getElem?_eq_getElem lt] at e
          exact ⟨ks[i], t, List.getElem?_eq_getElem lt, e⟩
        refine set_update_ints (Walks.list calm3 _ a apart its).toS s.heap.objs.size notin ks size_is few vals (its.size - 0) 0 _ (by omega) (Nat.zero_le _) ⟨⟨_, Heap.get?_push_size _ rfl, rfl, rfl⟩, isl2.push _⟩ ?first ?last
        case first => exact ⟨0, Nat.le_refl 0, setR_new_at (Heap.get?_push_of_some _ at0)⟩
        case last =>
          intro s3 n3 moved le3 set3
          obtain ⟨g3, e1, e2, tk3, e3⟩ := s3
          have q1 : e1 = s.gens := moved.gens
          have q2 : e2 = s.drawn := moved.drawn
          have q3 : e3 = s.os := moved.os
          subst q1 q2 q3
          rw [size_is] at le3
          refine wpAny_pure (wpAny_pure ⟨rfl, g3, tk3, n3, rfl, set3, le3, fun b o e => ?_⟩)
          have under2 : b < s.heap.objs.size := Heap.lt_size e
          refine moved.heap b o (fun m => ?_) (Heap.get?_push_of_some _ (Heap.get?_push_of_some _ e))
          rcases List.mem_cons.mp m with m | m
          · exact absurd m (Nat.ne_of_lt under2)
          · have m := List.mem_singleton.mp m
            rw [Heap.size_push] at m
            exact absurd m (Nat.ne_of_lt (Nat.lt_succ_of_lt under2))
      · cases res2 with
        | error _ => exact got2
        | ok flow2 =>
          cases flow2 with
          | ret _ =>
            obtain ⟨rfl, g, tk, n, rfl, y1, y2, y3⟩ := got2
            repeat (any_goals (first | wp_step | assumption))
            exact out _ _ _ y1 y2 y3
          | _ => exact got2.elim
    | _ => exact got.elim
end
section
variable {X : Cx}
/-- set(xs), xs a list of ints -/
def rSetOfL (K : PySem.W.Frag) (w : World) : List V → Hp → VK → Prop := fun vs H Q => ∃ (a : Addr) (ns : List Int), vs = [.ref a] ∧ SqL K H a (ns.map V.int) ∧ ns.length ≤ 1000 ∧
  ∀ (q : Addr) (n : Nat), H q = none → n ≤ ns.length → Q (.ref q) (upd H q (SetO w q (fun j => decide (j ∈ ns)) n))
theorem cr_setL (hc : X.calm = true) : CallR X (.type "set") (rSetOfL X.K X.w) := by
  intro pins s σ H vs us Q I r h
  obtain ⟨a, ns, rfl, hs, hl, q⟩ := h
  obtain ⟨its, rv, pl, hz⟩ := I.list hs
  rw [Vals.ref1 r]
  refine call_set_ofList ns (I.ok.hd hc) pl.isList (by simpa using rv.ints) (Nat.lt_of_le_of_lt (Nat.add_le_add_right hl 1) (by decide)) fun g tk n S hn kp => ?_
  exact ⟨.ref _, _, I.laid (t' := tk) kp (Nat.le_refl _) (setO_new S), rfl, q _ n I.fresh hn⟩
end
/-! ### what a set lacks -/
def tieIn (some' : List Int) (t : Int × Int) : Bool := decide (t.1 ∈ some') && decide (t.2 ∈ some')
def firstTie (ties : List (Int × Int)) (some' : List Int) : Option (Int × Int) := ties.find? (tieIn some')
/-- a house in the set, or tied to one in it -/
def cov (ties : List (Int × Int)) (some' : List Int) (h : Int) : Bool := decide (h ∈ some') || (nbr ties h).any fun x => decide (x ∈ some')
def firstBare (many : Int) (ties : List (Int × Int)) (some' : List Int) : Option Int := (rgI many).find? fun h => !cov ties some' h
def tieO : Option (Int × Int) → PyData
  | none => .none
  | some t => tieD t
def intO : Option Int → PyData
  | none => .none
  | some i => .int i
def lacksD (many : Int) (ties : List (Int × Int)) (some' : List Int) : PyData :=
  match firstTie ties some' with
  | some t => .tuple [.str "tied", .int t.1, .int t.2]
  | none => match firstBare many ties some' with
    | some h => .tuple [.str "bare", .int h]
    | none => .none
/-- a set of houses: rising -/
structure SetOk (many : Int) (some' : List Int) : Prop where
  up : some'.Pairwise (· < ·)
  ok : ∀ h ∈ some', 0 ≤ h ∧ h < many
theorem SetOk.len {many : Int} {some' : List Int} (h : SetOk many some') (h60 : many ≤ 60) : some'.length ≤ 60 := by
  have := len_le_of_sub (l := some') (m := rgI many) (h.up.imp fun q => Int.ne_of_lt q) fun x hx => rgI_mem.mpr (h.ok x hx)
  rw [rgI_len] at this
  omega
theorem SetOk.nd {many : Int} {some' : List Int} (h : SetOk many some') : some'.Nodup := h.up.imp fun q => Int.ne_of_lt q
/-- find?, turn by turn -/
theorem find_take {α : Type} (f : α → Bool) : ∀ (l : List α) (i : Nat), (∀ x ∈ l.take i, f x = false) → ∀ x, l[i]? = some x → f x = true → l.find? f = some x
  | [], _, _, _, h, _ => by simp at h
  | y :: r, 0, _, x, h, hf => by
    have e : y = x := Option.some.inj h
    subst e
    rw [List.find?_cons, hf]
  | y :: r, i + 1, ha, x, h, hf => by
    have hy : f y = false := ha y (by simp)
    rw [List.find?_cons, hy]
    exact find_take f r i (fun z hz => ha z (by simp [hz])) x (by simpa using h) hf
theorem find_none {α : Type} (f : α → Bool) (l : List α) (h : ∀ x ∈ l, f x = false) : l.find? f = none := by
  rw [List.find?_eq_none]
  intro x hx
  rw [h x hx]
  decide
theorem take_snoc {α : Type} {l : List α} {i : Nat} {x : α} (h : l[i]? = some x) : l.take (i + 1) = l.take i ++ [x] := by rw [List.take_add_one, h]; rfl
theorem cov_iff {many : Int} {ties : List (Int × Int)} (W : WebOk many ties) {s : List Int} {h : Int} : cov ties s h = true ↔ h ∈ s ∨ ∃ t ∈ ties, (t.1 ∈ s ∧ h = t.2) ∨ (t.2 ∈ s ∧ h = t.1) := by
  unfold cov
  rw [Bool.or_eq_true, decide_eq_true_eq, List.any_eq_true]
  constructor
  · rintro (q | ⟨x, hx, q⟩)
    · exact .inl q
    · have q := of_decide_eq_true q
      rcases (nbr_iff W).mp hx with z | z
      · exact .inr ⟨_, z, .inr ⟨q, rfl⟩⟩
      · exact .inr ⟨_, z, .inl ⟨q, rfl⟩⟩
  · rintro (q | ⟨⟨a, b⟩, ht, q⟩)
    · exact .inl q
    · rcases q with ⟨q1, q2⟩ | ⟨q1, q2⟩
      · simp only at q1 q2
        subst q2
        exact .inr ⟨a, (nbr_iff W).mpr (.inr ht), decide_eq_true q1⟩
      · simp only at q1 q2
        subst q2
        exact .inr ⟨b, (nbr_iff W).mpr (.inl ht), decide_eq_true q1⟩
section
variable {K : PySem.W.Frag} {w : World} {H : Hp} {Q : VK}
theorem r_sIn {k : Int} {a : Addr} {S : Int → Bool} {n : Nat} (h : H a = some (SetO w a S n)) (q : Q (.bl (S k)) H) : rSIn w (.int k) (.ref a) H Q := ⟨k, a, S, n, rfl, rfl, h, q⟩
theorem r_sNotIn {k : Int} {a : Addr} {S : Int → Bool} {n : Nat} (h : H a = some (SetO w a S n)) (q : Q (.bl (!S k)) H) : rSNotIn w (.int k) (.ref a) H Q := ⟨k, a, S, n, rfl, rfl, h, q⟩
theorem r_sadd {σ : L2.St} {to : TE} {t : TA} (h : to σ H fun x H1 => (∃ a S n, x = V.ref a ∧ H1 a = some (SetO w a S n)) ∧ t σ H1 fun xs H2 => rSAdd w x xs H2 Q) : tSAdd w to t σ H Q := h
theorem r_setLst {a : Addr} {ns : List Int} (h : SqL K H a (ns.map V.int)) (hl : ns.length ≤ 1000) (k : ∀ (q : Addr) (n : Nat), H q = none → n ≤ ns.length → Q (.ref q) (upd H q (SetO w q (fun j => decide (j ∈ ns)) n))) : rSetOfL K w [.ref a] H Q := ⟨a, ns, rfl, h, hl, k⟩
end
theorem inV_int (a : Int) (ns : List Int) : inV (.int a) (ns.map V.int) = decide (a ∈ ns) := by
  unfold inV
  rw [List.any_map]
  induction ns with
  | nil => simp
  | cons x r ih =>
    rw [List.any_cons, ih]
    simp only [Function.comp, eqV]
    by_cases h : x = a
    · subst h; simp
    · have h' : ¬ a = x := fun e => h e.symm
      simp [h, h']
theorem flat_int (ns : List Int) : (ns.map V.int).all flatV = true := by
  rw [List.all_map]
  induction ns with
  | nil => rfl
  | cons x r ih => rw [List.all_cons, ih]; rfl
theorem eqv_nil (ns : List Int) : PyData.eqv (.list (ns.map PyData.int)) (.list []) = ns.isEmpty := by
  cases ns with
  | nil => rfl
  | cons x r => simp [PyData.eqv, PyData.eqvAll]
mutual
theorem eqv_of_eq : ∀ d : PyData, d.canLay0 = true → PyData.eqv d d = true
  | d, h => SeqAt.eqv_refl d h
end
section
variable {K : PySem.W.Frag} {H : Hp} {Q : VK}
theorem r_inI {p : Addr} {ns : List Int} {a : Int} (h : SqL K H p (ns.map V.int)) (q : Q (.bl (decide (a ∈ ns))) H) : rIn K false (.int a) (.ref p) H Q :=
  ⟨p, _, rfl, .inl h, rfl, flat_int ns, by rw [if_neg (by decide), inV_int]; exact q⟩
theorem r_notInI {p : Addr} {ns : List Int} {a : Int} (h : SqL K H p (ns.map V.int)) (q : Q (.bl (!decide (a ∈ ns))) H) : rIn K true (.int a) (.ref p) H Q :=
  ⟨p, _, rfl, .inl h, rfl, flat_int ns, by rw [if_pos rfl, inV_int]; exact q⟩
theorem r_eqNil {p q : Addr} {ns : List Int} (h : SqL K H p (ns.map V.int)) (g : SqL K H q []) (z : Q (.bl ns.isEmpty) H) : rEqD K (.ref p) (.ref q) H Q :=
  ⟨_, _, dp_ints h, dp_ints (cs := []) g, shaped_ints ns, shaped_ints [], by rw [show ([] : List Int).map PyData.int = [] from rfl, eqv_nil]; exact z⟩
theorem r_neNil {p q : Addr} {ns : List Int} (h : SqL K H p (ns.map V.int)) (g : SqL K H q []) (z : Q (.bl (!ns.isEmpty)) H) : rNeD K (.ref p) (.ref q) H Q :=
  ⟨_, _, dp_ints h, dp_ints (cs := []) g, shaped_ints ns, shaped_ints [], by rw [show ([] : List Int).map PyData.int = [] from rfl, eqv_nil]; exact z⟩
/-- [g x for x in ns if f x], ns ints, f and g changing nothing -/
theorem lc_pure {a D : Addr} {ns : List Int} {f : Int → Bool} {g : Int → V} {tt : TT} {te : TE} {vs : List Nat} {σ : L2.St} {j : Nat} {Qd : Hp → Prop} (hs : SqL K H a (ns.map V.int)) (hl : ns.length ≤ 10000) (hD : H D = none)
    (hw : ∀ x, wipe ((wipe σ vs).set j (some x)) vs = wipe σ vs) (ht : ∀ x ∈ ns, ∀ H1, Evl.Ex H H1 → ∀ QB : Bool → Hp → Prop, QB (f x) H1 → tt ((wipe σ vs).set j (some (.int x))) H1 QB)
    (he : ∀ x ∈ ns, f x = true → ∀ H1, Evl.Ex H H1 → ∀ Q : VK, Q (g x) H1 → te ((wipe σ vs).set j (some (.int x))) H1 Q) (k : ∀ H', Evl.Ex H H' → H' D = some (.lst ((ns.filter f).map g)) → Qd H') :
    ∃ W : Nat → Nat → Hp → Prop, (∃ m, W 0 m (upd H D (.lst []))) ∧ ∀ i m H, W i m H →
      ((Itl K a).stop i H ∧ Qd H) ∨ ((Itl K a).go i H ∧ ∃ Nx : Hp → Prop, (∀ H', Nx H' → ∃ m', m' < m ∧ W (i + 1) m' H') ∧ ∀ x H', (Itl K a).yld i H x H' → gName j x (wipe σ vs) H' fun σ2 H2 => wipe σ2 vs = wipe σ vs ∧ tt σ2 H2 fun b H3 =>
        if b = true then te σ2 H3 fun y H4 => ∃ acc, H4 D = some (.lst acc) ∧ acc.length < sizeLine ∧ Nx (upd H4 D (.lst (acc ++ [y]))) else Nx H3) := by
  refine lc_it (walk_list (xs := ns.map V.int)) (fun i H' => H' D = some (.lst (((ns.take i).filter f).map g)) ∧ Evl.Ex H H') ⟨upd_same, Evl.Ex.new hD⟩ (fun i H' _ h => Evl.ex_l h.2 hs) ?_ ?_
  · rintro i v H1 H2 hi ⟨h1, e1⟩ ⟨rfl, ey⟩
    rw [List.getElem?_map] at ey
    cases et : ns[i]? with
    | none => rw [et] at ey; cases ey
    | some x =>
      rw [et] at ey
      cases ey
      have hx := List.mem_of_getElem? et
      refine ⟨hw _, ht x hx H2 e1 _ ?_⟩
      have tk : ns.take (i + 1) = ns.take i ++ [x] := take_snoc et
      cases hf : f x with
      | true =>
        refine iteT (he x hx hf H2 e1 _ ⟨_, h1, Evl.sz_lt ?_, ?_, e1.mut hD⟩)
        · rw [List.length_map]
          have := List.length_filter_le f (ns.take i)
          rw [List.length_take] at this
          omega
        · rw [upd_same, tk, List.filter_append, List.filter_cons, if_pos hf, List.map_append]
          rfl
      | false =>
        refine iteF ⟨?_, e1⟩
        rw [tk, List.filter_append, List.filter_cons, if_neg (by rw [hf]; decide), List.filter_nil, List.append_nil]
        exact h1
  · rintro H' ⟨h1, e1⟩
    rw [List.length_map, List.take_length] at h1
    exact k H' e1 h1
end
theorem cov_not (ties : List (Int × Int)) (s : List Int) (h : Int) : (!cov ties s h) = ((!decide (h ∈ s)) && ((nbr ties h).filter fun x => decide (x ∈ s)).isEmpty) := by
  unfold cov
  rw [Bool.not_or]
  congr 1
  induction nbr ties h with
  | nil => rfl
  | cons x r ih =>
    rw [List.any_cons, List.filter_cons]
    by_cases q : x ∈ s
    · simp [q]
    · simp only [q, decide_false, Bool.false_or, Bool.false_eq_true, if_false]
      exact ih
/-! ### what a draw leaves as it was -/
theorem SqT.exB {K : PySem.W.Frag} {H H' : Hp} {p c a : Addr} {xs : List V} (hP : PotC H p c) (e : ExB p H H') (h : SqT K H a xs) : SqT K H' a xs := by
  obtain ⟨cs, at', r, h1, _⟩ := hP
  rcases h with (h | ⟨o, h⟩) | h
  · exact .inl (.inl (e a _ (ne_of h h1 (by intro z; cases z)) h))
  · exact .inl (.inr ⟨o, e a _ (ne_of h h1 (by intro z; cases z)) h⟩)
  · exact .inr h
theorem SqL.exB {K : PySem.W.Frag} {H H' : Hp} {p c a : Addr} {xs : List V} (hP : PotC H p c) (e : ExB p H H') (hx : ∀ q i j, xs ≠ [.ref q, .int i, .int j]) (h : SqL K H a xs) : SqL K H' a xs := by
  obtain ⟨cs, at', r, h1, _⟩ := hP
  rcases h with (h | ⟨o, h⟩) | h
  · exact .inl (.inl (e a _ (ne_of h h1 (fun z => hx _ _ _ (HO.lst.inj z))) h))
  · exact .inl (.inr ⟨o, e a _ (ne_of h h1 (by intro z; cases z)) h⟩)
  · exact .inr h
theorem ints_np {ns : List Int} : ∀ q i j, ns.map V.int ≠ [.ref q, .int i, .int j] := fun q i j h => by
  cases ns with
  | nil => cases h
  | cons x r => cases h
def potLike : List PyData → Bool
  | [.list _, .int _, .int _] => true
  | [.tuple _, .int _, .int _] => true
  | _ => false
mutual
/-- no list in it that could be the pot -/
def npD : PyData → Bool
  | .list ds => !potLike ds && npAll ds
  | .tuple ds => npAll ds
  | .dict _ => false
  | _ => true
def npAll : List PyData → Bool
  | [] => true
  | d :: r => npD d && npAll r
end
mutual
theorem Dp.exB {K : PySem.W.Frag} {H H' : Hp} {p c : Addr} (hP : PotC H p c) (e : ExB p H H') : ∀ (d : PyData) (v : V), npD d = true → Dp K H v d → Dp K H' v d
  | .none, _, _, h => by cases h; exact .non
  | .bool _, _, _, h => by cases h; exact .bl _
  | .int _, _, _, h => by cases h; exact .int _
  | .str _, _, _, h => by cases h; exact .str _
  | .list ds, _, hn, h => by
    rw [npD, Bool.and_eq_true] at hn
    cases h with
    | lst h1 h2 =>
      refine .lst (SqL.exB hP e (fun q i j z => ?_) h1) (DpAll.exB hP e ds _ hn.2 h2)
      subst z
      cases h2 with
      | cons g1 g2 =>
        cases g2 with
        | cons g3 g4 =>
          cases g4 with
          | cons g5 g6 =>
            cases g6
            cases g3
            cases g5
            cases g1 <;> exact absurd hn.1 (by simp [potLike])
  | .tuple ds, _, hn, h => by
    rw [npD] at hn
    cases h with
    | tup h1 h2 => exact .tup (SqT.exB hP e h1) (DpAll.exB hP e ds _ hn h2)
  | .dict _, _, _, h => by cases h
theorem DpAll.exB {K : PySem.W.Frag} {H H' : Hp} {p c : Addr} (hP : PotC H p c) (e : ExB p H H') : ∀ (ds : List PyData) (vs : List V), npAll ds = true → DpAll K H vs ds → DpAll K H' vs ds
  | [], _, _, h => by cases h; exact .nil
  | d :: ds, _, hn, h => by
    rw [npAll, Bool.and_eq_true] at hn
    cases h with
    | cons h1 h2 => exact .cons (Dp.exB hP e d _ hn.1 h1) (DpAll.exB hP e ds _ hn.2 h2)
end
theorem npAll_of : ∀ {ds : List PyData}, (∀ d ∈ ds, npD d = true) → npAll ds = true
  | [], _ => rfl
  | d :: r, h => by rw [npAll, h d List.mem_cons_self, npAll_of fun x hx => h x (List.mem_cons_of_mem _ hx)]; rfl
theorem np_ints (ns : List Int) : npD (intsD ns) = true := by
  unfold intsD
  rw [npD, Bool.and_eq_true]
  refine ⟨?_, npAll_of fun d hd => ?_⟩
  · cases ns with
    | nil => rfl
    | cons x r => rfl
  · obtain ⟨x, _, rfl⟩ := List.mem_map.mp hd
    rfl
theorem np_web (many : Int) (ties : List (Int × Int)) : npD (webD many ties) = true := by
  unfold webD
  simp only [npD, npAll, Bool.true_and, Bool.and_true]
  refine npAll_of fun d hd => ?_
  obtain ⟨x, _, rfl⟩ := List.mem_map.mp hd
  rfl
theorem np_bes (many : Int) (ties : List (Int × Int)) : npD (besD many ties) = true := by
  unfold besD
  rw [npD, Bool.and_eq_true]
  refine ⟨?_, npAll_of fun d hd => ?_⟩
  · cases rgI many with
    | nil => rfl
    | cons x r =>
      cases r with
      | nil => rfl
      | cons y r => rfl
  · obtain ⟨x, _, rfl⟩ := List.mem_map.mp hd
    exact np_ints _
theorem BesAt.exB {H H' : Hp} {p c : Addr} {v : V} {many : Int} {ties : List (Int × Int)} (h : BesAt H v many ties) (hP : PotC H p c) (e : ExB p H H') : BesAt H' v many ties := by
  obtain ⟨q, bs, rfl, h1, h2, h3⟩ := h
  obtain ⟨cs, a, r, g1, _⟩ := hP
  refine ⟨q, bs, rfl, e _ _ (ne_of h1 g1 fun w => ?_) h1, h2, fun k b hb => e _ _ (ne_of (h3 k b hb) g1 fun w => ints_np _ _ _ (HO.lst.inj w)) (h3 k b hb)⟩
  have w := HO.lst.inj w
  match bs, w with
  | x :: y :: r, w => injection w with _ w; injection w with w _; cases w
theorem fresh_B {H H' : Hp} {p c q : Addr} (e : ExB p H H') (hP : PotC H' p c) (h : H' q = none) : H q = none := by
  cases z : H q with
  | none => rfl
  | some u => rw [e q u (hP.np h) z] at h; cases h
/-- lists of ints at the addresses -/
def LstsAt (H : Hp) (qs : List Addr) (ss : List (List Int)) : Prop := Paired (fun q (s : List Int) => H q = some (.lst (s.map V.int))) qs ss
theorem LstsAt.mono {H H' : Hp} (e : ∀ q (s : List Int), H q = some (.lst (s.map V.int)) → H' q = some (.lst (s.map V.int))) : ∀ {qs : List Addr} {ss : List (List Int)}, LstsAt H qs ss → LstsAt H' qs ss
  | _, _, .nil => .nil
  | _, _, .cons h r => .cons (e _ _ h) (LstsAt.mono e r)
theorem LstsAt.ex {H H' : Hp} {qs : List Addr} {ss : List (List Int)} (h : LstsAt H qs ss) (e : Evl.Ex H H') : LstsAt H' qs ss := h.mono fun q s z => e q _ z
theorem LstsAt.exB {H H' : Hp} {p c : Addr} {qs : List Addr} {ss : List (List Int)} (h : LstsAt H qs ss) (hP : PotC H p c) (e : ExB p H H') : LstsAt H' qs ss := h.mono fun q s z => by
  obtain ⟨cs, a, r, h1, _⟩ := hP
  exact e q _ (ne_of z h1 fun w => ints_np _ _ _ (HO.lst.inj w)) z
theorem LstsAt.upd {H : Hp} {f x : Addr} {r : List V} {o : HO} {qs : List Addr} {ss : List (List Int)} (h : LstsAt H qs ss) (hf : H f = some (.lst (.ref x :: r))) : LstsAt (L2.upd H f o) qs ss := h.mono fun q s z => by
  rw [upd_ne (ne_of z hf fun w => by have := HO.lst.inj w; cases s <;> cases this)]
  exact z
theorem LstsAt.snoc {H : Hp} {q : Addr} {s : List Int} (hq : H q = some (.lst (s.map V.int))) : ∀ {qs : List Addr} {ss : List (List Int)}, LstsAt H qs ss → LstsAt H (qs ++ [q]) (ss ++ [s])
  | _, _, .nil => .cons hq .nil
  | _, _, .cons h r => .cons h (LstsAt.snoc hq r)
theorem LstsAt.dp {K : PySem.W.Frag} {H : Hp} : ∀ {qs : List Addr} {ss : List (List Int)}, LstsAt H qs ss → DpAll K H (qs.map V.ref) (ss.map intsD)
  | _, _, .nil => .nil
  | _, _, .cons h r => .cons (dp_intsD (SqL.of h)) (LstsAt.dp r)
theorem LstsAt.len {H : Hp} : ∀ {qs : List Addr} {ss : List (List Int)}, LstsAt H qs ss → qs.length = ss.length
  | _, _, .nil => rfl
  | _, _, .cons h r => by rw [List.length_cons, List.length_cons, LstsAt.len r]
theorem rgI_up (n : Int) : (rgI n).Pairwise (· < ·) := by
  unfold rgI
  refine List.Pairwise.map _ ?_ List.pairwise_lt_range
  intro a b h
  show (a : Int) < (b : Int)
  omega
theorem rgI_ok (n : Int) : SetOk n (rgI n) := ⟨rgI_up n, fun h hh => rgI_mem.mp hh⟩
/-- a set without the one at a place -/
def without (s : List Int) (k : Nat) : List Int := s.take k ++ s.drop (k + 1)
theorem without_sub (s : List Int) (k : Nat) : (without s k).Sublist s := by
  unfold without
  have h1 : (s.drop (k + 1)).Sublist (s.drop k) := by
    rw [show k + 1 = k + 1 from rfl, ← List.drop_drop]
    exact List.drop_sublist 1 (s.drop k)
  have h2 := List.Sublist.append_left h1 (s.take k)
  rw [List.take_append_drop] at h2
  exact h2
theorem without_ok {many : Int} {s : List Int} (h : SetOk many s) (k : Nat) : SetOk many (without s k) := ⟨h.up.sublist (without_sub s k), fun x hx => h.ok x ((without_sub s k).mem hx)⟩
theorem cut_to {s : List Int} {i : Int} (h0 : 0 ≤ i) : cutV (s.map V.int) none (some i) = (s.take i.toNat).map V.int := by
  rw [cutV_map]
  congr 1
  have e : i = ((i.toNat : Nat) : Int) := by omega
  conv => lhs; rw [e]
  exact cutG_take s i.toNat
theorem cut_from {s : List Int} {i : Int} (h0 : 0 ≤ i) : cutV (s.map V.int) (some i) none = (s.drop i.toNat).map V.int := by
  rw [cutV_map]
  congr 1
  have e : i = ((i.toNat : Nat) : Int) := by omega
  conv => lhs; rw [e]
  exact cutG_drop s i.toNat
section
variable {K : PySem.W.Frag} {w : World} {H : Hp} {Q : VK}
theorem r_cat {a b : Addr} {xs ys : List Int} (h : H a = some (.lst (xs.map V.int))) (g : H b = some (.lst (ys.map V.int))) (hl : xs.length + ys.length ≤ 100000) (k : ∀ p, H p = none → Q (.ref p) (upd H p (.lst ((xs ++ ys).map V.int)))) : rCat (.ref a) (.ref b) H Q :=
  ⟨a, b, _, _, rfl, rfl, h, g, Evl.sz_of (by rw [List.length_map, List.length_map]; exact hl), fun p hp => by rw [← List.map_append]; exact k p hp⟩
theorem r_sortSet {a : Addr} {L : List Int} {n : Nat} (h : H a = some (SetO w a (fun j => decide (j ∈ L)) n)) (hn : n < 64) (k : ∀ (ns : List Int) (p : Addr), ns.Pairwise (· < ·) → (∀ x, x ∈ ns ↔ x ∈ L) → H p = none → Q (.ref p) (upd H p (.lst (ns.map V.int)))) : rSortedSet w [.ref a] H Q :=
  ⟨a, _, n, rfl, h, hn, fun ns p h1 h2 _ hp => k ns p h1 (fun x => by rw [h2]; exact decide_eq_true_iff) hp⟩
end
theorem cut_fromG {α : Type} {f : α → V} {s : List α} {i : Int} (h0 : 0 ≤ i) : cutV (s.map f) (some i) none = (s.drop i.toNat).map f := by
  rw [cutV_map]
  congr 1
  have e : i = ((i.toNat : Nat) : Int) := by omega
  conv => lhs; rw [e]
  exact cutG_drop s i.toNat
theorem LstsAt.drop {H : Hp} : ∀ {qs : List Addr} {ss : List (List Int)} (n : Nat), LstsAt H qs ss → LstsAt H (qs.drop n) (ss.drop n)
  | _, _, 0, h => h
  | _, _, _ + 1, .nil => .nil
  | _, _, n + 1, .cons _ r => LstsAt.drop n r
theorem LstsAt.get {H : Hp} : ∀ {qs : List Addr} {ss : List (List Int)} {i : Nat} {q : Addr}, LstsAt H qs ss → qs[i]? = some q → ∃ s ∈ ss, H q = some (.lst (s.map V.int))
  | _, _, i, q, .nil, h => by simp at h
  | _, _, 0, q, .cons h r, e => by
    have e := Option.some.inj e
    rw [← e]
    exact ⟨_, List.mem_cons_self, h⟩
  | _, _, i + 1, q, .cons h r, e => by
    obtain ⟨s, h1, h2⟩ := LstsAt.get r (show _ from (by simpa using e))
    exact ⟨s, List.mem_cons_of_mem _ h1, h2⟩
theorem find_filter {α : Type} (f : α → Bool) (l : List α) : (l.find? f).isNone = (l.filter f).isEmpty := by
  induction l with
  | nil => rfl
  | cons x r ih =>
    rw [List.find?_cons, List.filter_cons]
    cases f x with
    | true => rfl
    | false => simpa using ih
theorem cov_all (ties : List (Int × Int)) (s : List Int) (h : Int) : ((nbr ties h ++ [h]).filter fun x => decide (x ∈ s)).isEmpty = !cov ties s h := by
  rw [cov_not, List.filter_append]
  generalize (nbr ties h).filter (fun x => decide (x ∈ s)) = l
  by_cases q : h ∈ s
  · cases l <;> simp [q]
  · cases l <;> simp [q]
theorem nine (i : Nat) (h : i < 5) : ∃ m : Int, atI ([.int 9, .int 9, .int 9, .int 9, .int 60] : List V) (0 + (i : Int)) = some (.int m) ∧ 1 ≤ m ∧ m ≤ 60 := by
  match i, h with
  | 0, _ => exact ⟨9, rfl, by decide, by decide⟩
  | 1, _ => exact ⟨9, rfl, by decide, by decide⟩
  | 2, _ => exact ⟨9, rfl, by decide, by decide⟩
  | 3, _ => exact ⟨9, rfl, by decide, by decide⟩
  | 4, _ => exact ⟨60, rfl, by decide, by decide⟩
theorem lacks_small (many : Int) (ties : List (Int × Int)) (s : List Int) : (lacksD many ties s).depth < 2 ∧ wd (lacksD many ties s) = true := by
  unfold lacksD
  split
  · exact ⟨by simp [PyData.depth, PyData.depthAll], by simp [wd, wdAll]⟩
  · split
    · exact ⟨by simp [PyData.depth, PyData.depthAll], by simp [wd, wdAll]⟩
    · exact ⟨by simp [PyData.depth], rfl⟩
theorem r_neSame {K : PySem.W.Frag} {H : Hp} {Q : VK} {p q : Addr} {ns : List Int} (h : SqL K H p (ns.map V.int)) (g : SqL K H q (ns.map V.int)) (z : Q (.bl false) H) : rNeD K (.ref p) (.ref q) H Q := by
  refine ⟨_, _, dp_ints h, dp_ints g, shaped_ints ns, shaped_ints ns, ?_⟩
  rw [SeqAt.eqv_refl _ (SeqAt.canLay_of_shaped (shaped_ints ns))]
  exact z
/-! ### names and rounds -/
def nmAt (names : List Int) (h : Int) : Int := names.getD h.toNat 0
structure NamesOk (many : Int) (names : List Int) : Prop where
  len : names.length = many.toNat
  nd : names.Nodup
/-- the neighbours of lesser names -/
def lessN (ties : List (Int × Int)) (names : List Int) (h : Int) : List Int := (nbr ties h).filter fun o => decide (nmAt names o < nmAt names h)
abbrev Row := Bool × Int
/-- the least, the greatest of numbers, with one ahead -/
def minL : Int → List Int → Int
  | x, [] => x
  | x, y :: r => minL (if y < x then y else x) r
def maxL : Int → List Int → Int
  | x, [] => x
  | x, y :: r => maxL (if y > x then y else x) r
theorem minL_spec : ∀ (x : Int) (r : List Int), minL x r ∈ x :: r ∧ ∀ y ∈ x :: r, minL x r ≤ y
  | x, [] => ⟨by simp [minL], fun y hy => by simp at hy; simp [minL, hy]⟩
  | x, y :: r => by
    have ih := minL_spec (if y < x then y else x) r
    unfold minL
    by_cases c : y < x
    · rw [if_pos c] at ih ⊢
      refine ⟨List.mem_cons_of_mem _ ih.1, fun z hz => ?_⟩
      have h0 := ih.2 _ List.mem_cons_self
      rcases List.mem_cons.mp hz with e | hz
      · omega
      · exact ih.2 z hz
    · rw [if_neg c] at ih ⊢
      refine ⟨?_, fun z hz => ?_⟩
      · rcases List.mem_cons.mp ih.1 with e | e
        · rw [e]; exact List.mem_cons_self
        · exact List.mem_cons_of_mem _ (List.mem_cons_of_mem _ e)
      · have h0 := ih.2 _ List.mem_cons_self
        rcases List.mem_cons.mp hz with e | hz
        · rw [e]; exact h0
        · rcases List.mem_cons.mp hz with e | hz
          · omega
          · exact ih.2 z (List.mem_cons_of_mem _ hz)
theorem maxL_spec : ∀ (x : Int) (r : List Int), maxL x r ∈ x :: r ∧ ∀ y ∈ x :: r, y ≤ maxL x r
  | x, [] => ⟨by simp [maxL], fun y hy => by simp at hy; simp [maxL, hy]⟩
  | x, y :: r => by
    have ih := maxL_spec (if y > x then y else x) r
    unfold maxL
    by_cases c : y > x
    · rw [if_pos c] at ih ⊢
      refine ⟨List.mem_cons_of_mem _ ih.1, fun z hz => ?_⟩
      have h0 := ih.2 _ List.mem_cons_self
      rcases List.mem_cons.mp hz with e | hz
      · omega
      · exact ih.2 z hz
    · rw [if_neg c] at ih ⊢
      refine ⟨?_, fun z hz => ?_⟩
      · rcases List.mem_cons.mp ih.1 with e | e
        · rw [e]; exact List.mem_cons_self
        · exact List.mem_cons_of_mem _ (List.mem_cons_of_mem _ e)
      · have h0 := ih.2 _ List.mem_cons_self
        rcases List.mem_cons.mp hz with e | hz
        · rw [e]; exact h0
        · rcases List.mem_cons.mp hz with e | hz
          · omega
          · exact ih.2 z (List.mem_cons_of_mem _ hz)
theorem minL_of {x m : Int} {r : List Int} (h1 : m ∈ x :: r) (h2 : ∀ y ∈ x :: r, m ≤ y) : m = minL x r := by
  have s := minL_spec x r
  have a := h2 _ s.1
  have b := s.2 _ h1
  omega
theorem maxL_of {x m : Int} {r : List Int} (h1 : m ∈ x :: r) (h2 : ∀ y ∈ x :: r, y ≤ m) : m = maxL x r := by
  have s := maxL_spec x r
  have a := h2 _ s.1
  have b := s.2 _ h1
  omega
def chosenIn (rows : List Row) : List Int := (rows.filter fun r => r.1).map fun r => r.2
/-- the row of a house by the rows of its neighbours of lesser names -/
def rowBy (rows : List Row) : Row :=
  match chosenIn rows with
  | x :: r => (false, minL x r)
  | [] => match rows.map (fun r => r.2) with
    | x :: r => (true, 1 + maxL x r)
    | [] => (true, 1 + 0)
def rank (many : Int) (names : List Int) (h : Int) : Nat := ((rgI many).filter fun x => decide (nmAt names x < nmAt names h)).length
theorem rank_lt {many : Int} {ties : List (Int × Int)} {names : List Int} (W : WebOk many ties) {h o : Int} (ho : o ∈ lessN ties names h) : rank many names o < rank many names h := by
  unfold lessN at ho
  rw [List.mem_filter, decide_eq_true_eq] at ho
  have hr := nbr_range W ho.1
  unfold rank
  have := len_le_of_sub (l := o :: (rgI many).filter fun x => decide (nmAt names x < nmAt names o)) (m := (rgI many).filter fun x => decide (nmAt names x < nmAt names h)) ?_ fun x hx => ?_
  · rw [List.length_cons] at this
    omega
  · refine List.pairwise_cons.mpr ⟨fun x hx e => ?_, (rgI_nd many).filter _⟩
    rw [List.mem_filter, decide_eq_true_eq] at hx
    subst e
    omega
  · rcases List.mem_cons.mp hx with e | hx
    · rw [e, List.mem_filter, decide_eq_true_eq]
      exact ⟨rgI_mem.mpr hr, ho.2⟩
    · rw [List.mem_filter, decide_eq_true_eq] at hx ⊢
      exact ⟨hx.1, by omega⟩
theorem rank_bound {many : Int} {names : List Int} {h : Int} (hh : 0 ≤ h ∧ h < many) : rank many names h < many.toNat := by
  unfold rank
  have := len_le_of_sub (l := h :: (rgI many).filter fun x => decide (nmAt names x < nmAt names h)) (m := rgI many) ?_ fun x hx => ?_
  · rw [List.length_cons, rgI_len] at this
    omega
  · refine List.pairwise_cons.mpr ⟨fun x hx e => ?_, (rgI_nd many).filter _⟩
    rw [List.mem_filter, decide_eq_true_eq] at hx
    subst e
    omega
  · rcases List.mem_cons.mp hx with e | hx
    · rw [e]; exact rgI_mem.mpr hh
    · exact (List.mem_filter.mp hx).1
def Rf (ties : List (Int × Int)) (names : List Int) : Nat → Int → Row
  | 0, _ => (true, 1)
  | k + 1, h => rowBy ((lessN ties names h).map (Rf ties names k))
theorem Rf_stable {many : Int} {ties : List (Int × Int)} {names : List Int} (W : WebOk many ties) : ∀ (k k' : Nat) (h : Int), rank many names h < k → rank many names h < k' → Rf ties names k h = Rf ties names k' h
  | 0, _, _, h, _ => absurd h (Nat.not_lt_zero _)
  | _ + 1, 0, _, _, h => absurd h (Nat.not_lt_zero _)
  | k + 1, k' + 1, h, h1, h2 => by
    rw [Rf, Rf]
    congr 1
    refine List.map_congr_left fun o ho => ?_
    have := rank_lt W ho
    exact Rf_stable W k k' o (by omega) (by omega)
/-- each house's row: the one that the points tell -/
def rowOf (many : Int) (ties : List (Int × Int)) (names : List Int) (h : Int) : Row := Rf ties names many.toNat h
theorem rowOf_eq {many : Int} {ties : List (Int × Int)} {names : List Int} (W : WebOk many ties) {h : Int} (hh : 0 ≤ h ∧ h < many) : rowOf many ties names h = rowBy ((lessN ties names h).map (rowOf many ties names)) := by
  have hb := rank_bound (names := names) hh
  unfold rowOf
  obtain ⟨k, hk⟩ : ∃ k, many.toNat = k + 1 := ⟨many.toNat - 1, by omega⟩
  rw [hk, Rf]
  congr 1
  refine List.map_congr_left fun o ho => ?_
  have := rank_lt W ho
  exact Rf_stable W k (k + 1) o (by omega) (by omega)
def rowsOf (many : Int) (ties : List (Int × Int)) (names : List Int) : List Row := (rgI many).map (rowOf many ties names)
/-- rows that are right house by house are these -/
theorem rows_unique {many : Int} {ties : List (Int × Int)} {names : List Int} (W : WebOk many ties) {f : Int → Row} (hf : ∀ h, 0 ≤ h → h < many → f h = rowBy ((lessN ties names h).map f)) : ∀ (n : Nat) (h : Int), rank many names h < n → 0 ≤ h → h < many → f h = rowOf many ties names h
  | 0, _, h, _, _ => absurd h (Nat.not_lt_zero _)
  | n + 1, h, hr, h0, h1 => by
    rw [hf h h0 h1, rowOf_eq W ⟨h0, h1⟩]
    congr 1
    refine List.map_congr_left fun o ho => ?_
    have hl := rank_lt W ho
    have hb := nbr_range W (List.mem_filter.mp ho).1
    exact rows_unique W hf n o (by omega) hb.1 hb.2
/-! ### what a row says -/
theorem rowBy_true {rows : List Row} {n : Int} (h : rowBy rows = (true, n)) : (∀ r ∈ rows, r.1 = false) ∧ (∀ r ∈ rows, r.2 < n) ∧ (rows = [] ∧ n = 1 ∨ ∃ r ∈ rows, r.2 + 1 = n) := by
  unfold rowBy at h
  cases e : chosenIn rows with
  | cons x r => rw [e] at h; cases h
  | nil =>
    rw [e] at h
    have h1 : ∀ r ∈ rows, r.1 = false := fun r hr => by
      cases q : r.1 with
      | false => rfl
      | true =>
        have : r.2 ∈ chosenIn rows := List.mem_map.mpr ⟨r, List.mem_filter.mpr ⟨hr, q⟩, rfl⟩
        rw [e] at this
        cases this
    refine ⟨h1, ?_⟩
    cases rows with
    | nil =>
      simp at h
      exact ⟨fun r hr => (by cases hr), Or.inl ⟨rfl, (by omega)⟩⟩
    | cons a t =>
      rw [List.map_cons] at h
      simp only [Prod.mk.injEq, true_and] at h
      have s := maxL_spec a.2 (t.map fun r => r.2)
      refine ⟨fun r hr => ?_, .inr ?_⟩
      · have := s.2 r.2 (by rw [← List.map_cons (f := fun r : Row => r.2)]; exact List.mem_map_of_mem hr)
        omega
      · have s1 := s.1
        rw [← List.map_cons (f := fun r : Row => r.2)] at s1
        obtain ⟨r, hr, e⟩ := List.mem_map.mp s1
        exact ⟨r, hr, by omega⟩
theorem rowBy_false {rows : List Row} {n : Int} (h : rowBy rows = (false, n)) : (∃ r ∈ rows, r = (true, n)) ∧ ∀ r ∈ rows, r.1 = true → n ≤ r.2 := by
  unfold rowBy at h
  cases e : chosenIn rows with
  | nil =>
    rw [e] at h
    simp only at h
    split at h <;> cases h
  | cons x r =>
    rw [e] at h
    simp only [Prod.mk.injEq, true_and] at h
    have s := minL_spec x r
    rw [← e] at s
    rw [h] at s
    obtain ⟨s1, s2⟩ := s
    obtain ⟨y, hy, ey⟩ := List.mem_map.mp s1
    rw [List.mem_filter] at hy
    refine ⟨⟨y, hy.1, by obtain ⟨a, b⟩ := y; simp only at hy ey; rw [hy.2, ey]⟩, fun z hz hzt => s2 z.2 (List.mem_map.mpr ⟨z, List.mem_filter.mpr ⟨hz, hzt⟩, rfl⟩)⟩
section
variable {many : Int} {ties : List (Int × Int)} {names : List Int}
theorem row_pos (W : WebOk many ties) : ∀ (n : Nat) (h : Int), rank many names h < n → 0 ≤ h → h < many → 1 ≤ (rowOf many ties names h).2
  | 0, _, h, _, _ => absurd h (Nat.not_lt_zero _)
  | n + 1, h, hr, h0, h1 => by
    have e := rowOf_eq (names := names) W ⟨h0, h1⟩
    have ih : ∀ r ∈ (lessN ties names h).map (rowOf many ties names), 1 ≤ r.2 := fun r hr' => by
      obtain ⟨o, ho, rfl⟩ := List.mem_map.mp hr'
      have hl := rank_lt W ho
      have hb := nbr_range W (List.mem_filter.mp ho).1
      exact row_pos W n o (by omega) hb.1 hb.2
    rcases hq : rowOf many ties names h with ⟨b, m⟩
    rw [hq] at e
    cases b with
    | true =>
      rcases (rowBy_true e.symm).2.2 with q | ⟨r, hr, q⟩
      · simp only; omega
      · have := ih r hr
        simp only; omega
    | false =>
      obtain ⟨⟨r, hr, q⟩, _⟩ := rowBy_false e.symm
      have := ih r hr
      rw [q] at this
      exact this
/-- a house's row is chosen in round n + 1: just where it is left ahead of it, and no neighbour left has a lesser name -/
theorem fresh_iff (W : WebOk many ties) {h n : Int} (h0 : 0 ≤ h) (h1 : h < many) (hn : 0 ≤ n) : rowOf many ties names h = (true, n + 1) ↔ n < (rowOf many ties names h).2 ∧ ∀ o ∈ lessN ties names h, (rowOf many ties names o).2 ≤ n := by
  have e := rowOf_eq (names := names) W ⟨h0, h1⟩
  constructor
  · intro q
    rw [q] at e
    have t := rowBy_true e.symm
    refine ⟨by rw [q]; simp only; omega, fun o ho => ?_⟩
    have := t.2.1 _ (List.mem_map_of_mem (f := rowOf many ties names) ho)
    omega
  · rintro ⟨q1, q2⟩
    rcases hq : rowOf many ties names h with ⟨b, m⟩
    rw [hq] at e q1
    simp only at q1
    cases b with
    | true =>
      rcases (rowBy_true e.symm).2.2 with q | ⟨r, hr, q⟩
      · rw [show m = n + 1 by omega]
      · obtain ⟨o, ho, rfl⟩ := List.mem_map.mp hr
        have := q2 o ho
        rw [show m = n + 1 by omega]
    | false =>
      obtain ⟨⟨r, hr, q⟩, _⟩ := rowBy_false e.symm
      obtain ⟨o, ho, rfl⟩ := List.mem_map.mp hr
      have := q2 o ho
      rw [q] at this
      simp only at this
      omega
theorem nm_ne (N : NamesOk many names) {a b : Int} (ha : 0 ≤ a ∧ a < many) (hb : 0 ≤ b ∧ b < many) (h : a ≠ b) : nmAt names a ≠ nmAt names b := fun e => by
  have := nd_ix N.nd (i := a.toNat) (j := b.toNat) (by rw [N.len]; omega) (by rw [N.len]; omega) e
  omega
/-- out in round n + 1: left ahead of it, not chosen in it, a neighbour chosen in it -/
theorem out_iff (W : WebOk many ties) (N : NamesOk many names) {h n : Int} (h0 : 0 ≤ h) (h1 : h < many) (hn : 0 ≤ n) : rowOf many ties names h = (false, n + 1) ↔ n < (rowOf many ties names h).2 ∧ rowOf many ties names h ≠ (true, n + 1) ∧ ∃ o ∈ nbr ties h, rowOf many ties names o = (true, n + 1) := by
  have e := rowOf_eq (names := names) W ⟨h0, h1⟩
  constructor
  · intro q
    rw [q] at e
    obtain ⟨⟨r, hr, q'⟩, _⟩ := rowBy_false e.symm
    obtain ⟨o, ho, q2⟩ := List.mem_map.mp hr
    exact ⟨by rw [q]; simp only; omega, by rw [q]; simp, o, (List.mem_filter.mp ho).1, by rw [q2, q']⟩
  · rintro ⟨q1, q2, o, ho, q3⟩
    have hor := nbr_range W ho
    have hne : o ≠ h := fun z => by
      subst z
      rcases (nbr_iff W).mp ho with q | q
      · have := W.ok _ q; simp only at this; omega
      · have := W.ok _ q; simp only at this; omega
    have nn := nm_ne N hor ⟨h0, h1⟩ hne
    by_cases hl : nmAt names o < nmAt names h
    · have ho' : o ∈ lessN ties names h := List.mem_filter.mpr ⟨ho, decide_eq_true hl⟩
      rcases hq : rowOf many ties names h with ⟨b, m⟩
      rw [hq] at e q1
      simp only at q1
      cases b with
      | true =>
        have := (rowBy_true e.symm).1 _ (List.mem_map_of_mem (f := rowOf many ties names) ho')
        rw [q3] at this
        cases this
      | false =>
        have := (rowBy_false e.symm).2 _ (List.mem_map_of_mem (f := rowOf many ties names) ho') (by rw [q3])
        rw [q3] at this
        simp only at this
        rw [show m = n + 1 by omega]
    · have hho : h ∈ nbr ties o := by
        rcases (nbr_iff W).mp ho with q | q
        · exact (nbr_iff W).mpr (.inr q)
        · exact (nbr_iff W).mpr (.inl q)
      have h' : h ∈ lessN ties names o := List.mem_filter.mpr ⟨hho, decide_eq_true (by omega)⟩
      have := ((fresh_iff W hor.1 hor.2 hn).mp q3).2 h h'
      omega
/-- where a house is left, one is chosen next -/
theorem some_fresh (W : WebOk many ties) {n : Int} (hn : 0 ≤ n) : ∀ (k : Nat) (h : Int), rank many names h < k → 0 ≤ h → h < many → n < (rowOf many ties names h).2 → ∃ o, 0 ≤ o ∧ o < many ∧ rowOf many ties names o = (true, n + 1)
  | 0, _, h, _, _, _ => absurd h (Nat.not_lt_zero _)
  | k + 1, h, hr, h0, h1, hl => by
    by_cases hall : ∀ o ∈ lessN ties names h, (rowOf many ties names o).2 ≤ n
    · exact ⟨h, h0, h1, (fresh_iff W h0 h1 hn).mpr ⟨hl, hall⟩⟩
    · have : ∃ o ∈ lessN ties names h, n < (rowOf many ties names o).2 := by
        refine Classical.byContradiction fun z => hall fun o ho => ?_
        refine Classical.byContradiction fun y => z ⟨o, ho, by omega⟩
      obtain ⟨o, ho, q⟩ := this
      have hr' := rank_lt W ho
      have hb := nbr_range W (List.mem_filter.mp ho).1
      exact some_fresh W hn k o (by omega) hb.1 hb.2 q
end
theorem ne_of_none' {H : Hp} {a b : Addr} {o : HO} (h : H a = some o) (g : H b = none) : b ≠ a := fun e => by rw [e, h] at g; cases g
/-- a list of lists of ints: for each house that of f -/
def LsAt (H : Hp) (v : V) (n : Nat) (f : Int → List Int) : Prop := ∃ (q : Addr) (bs : List Addr), v = .ref q ∧ H q = some (.lst (bs.map V.ref)) ∧ bs.length = n ∧ ∀ (k : Nat) (b : Addr), bs[k]? = some b → H b = some (.lst ((f (k : Int)).map V.int))
theorem LsAt.ex {H H' : Hp} {v : V} {n : Nat} {f : Int → List Int} (h : LsAt H v n f) (e : Evl.Ex H H') : LsAt H' v n f := by
  obtain ⟨q, bs, rfl, h1, h2, h3⟩ := h
  exact ⟨q, bs, rfl, e _ _ h1, h2, fun k b hb => e _ _ (h3 k b hb)⟩
theorem LsAt.bes {H : Hp} {v : V} {many : Int} {ties : List (Int × Int)} (h : LsAt H v many.toNat (nbr ties)) : BesAt H v many ties := h
theorem BesAt.ls {H : Hp} {v : V} {many : Int} {ties : List (Int × Int)} (h : BesAt H v many ties) : LsAt H v many.toNat (nbr ties) := h
/-- the same, and all of it new -/
def LsN (H0 H : Hp) (v : V) (n : Nat) (f : Int → List Int) : Prop := ∃ (q : Addr) (bs : List Addr), v = .ref q ∧ H q = some (.lst (bs.map V.ref)) ∧ H0 q = none ∧ bs.length = n ∧ ∀ (k : Nat) (b : Addr), bs[k]? = some b → H b = some (.lst ((f (k : Int)).map V.int)) ∧ H0 b = none
theorem LsN.at {H0 H : Hp} {v : V} {n : Nat} {f : Int → List Int} (h : LsN H0 H v n f) : LsAt H v n f := by
  obtain ⟨q, bs, h1, h2, _, h3, h4⟩ := h
  exact ⟨q, bs, h1, h2, h3, fun k b hb => (h4 k b hb).1⟩
theorem nm_at {names : List Int} {many x : Int} (hl : names.length = many.toNat) (h0 : 0 ≤ x) (h1 : x < many) : atI (names.map V.int) x = some (.int (nmAt names x)) := atI_int h0 (by omega)
def maxDf (d : Int) : List Int → Int
  | [] => d
  | x :: r => maxL x r
theorem readsAll_of_ints {h : Heap} : ∀ {vs : List Value} {ns : List Int}, IntsAre vs ns → ∃ as, ReadsAll h vs (ns.map PyData.int) as
  | _, _, .nil => ⟨[], .nil⟩
  | _, _, .cons _ _ r => by
    obtain ⟨bs, h2⟩ := readsAll_of_ints (h := h) r
    exact ⟨_, .cons (.int _ _) h2⟩
theorem foldl_maxL : ∀ (x : Int) (r : List Int), r.foldl max x = maxL x r
  | x, [] => rfl
  | x, y :: r => by
    rw [List.foldl_cons, maxL, foldl_maxL]
    congr 1
    split <;> omega
/-- max(xs, default=d) of a list of ints -/
def rMaxDf (K : PySem.W.Frag) : List V → List V → Hp → VK → Prop := fun vs zs H Q => ∃ (a : Addr) (ns : List Int) (d : Int), vs = [V.ref a] ∧ zs = [.int d] ∧ SqL K H a (ns.map V.int) ∧ Q (.int (maxDf d ns)) H
theorem cr_maxDf {X : Cx} (hc : X.calm = true) (hu : X.A.units + 64 < cLine) : CallRK X (.builtin "max") [Str.ofString "default"] (rMaxDf X.K) := by
  intro pins s σ H vs zs us ws Q I r rz h
  obtain ⟨a, ns, d, rfl, rfl, hs, q⟩ := h
  obtain ⟨its, rv, hl, hz0⟩ := I.list hs
  obtain rfl := Vals.ref1 r
  obtain ⟨w1, rfl, t1, rfl⟩ := vals1 rz
  obtain ⟨as, hr⟩ := readsAll_of_ints (h := s.heap) rv.ints
  have ha : PySem.W.AlikeAll (ns.map PyData.int) := by
    refine ⟨fun x hx y hy => ?_, fun x hx => ?_⟩
    · obtain ⟨i, _, rfl⟩ := List.mem_map.mp hx
      obtain ⟨j, _, rfl⟩ := List.mem_map.mp hy
      simp [PySem.W.alike]
    · obtain ⟨i, _, rfl⟩ := List.mem_map.mp hx
      intro e
      cases e
  have hd : PyData.depthAll (ns.map PyData.int) = 0 := by
    clear hr ha rv hs q hz0
    induction ns with
    | nil => rfl
    | cons x r ih =>
      rw [List.map_cons, PyData.depthAll, ih]
      rfl
  refine PySem.W.max_list_default (I.ok.hd hc) hl.isList hr ha (by rw [hd]; omega) (fun e h' tk hk => ?_) (fun y ys i v h' tk bs e hi hv hk => ?_)
  · have e : ns = [] := List.map_eq_nil_iff.mp e
    subst e
    exact ⟨.int d, H, I.kept hk, ⟨t1, rfl⟩, q⟩
  · cases ns with
    | nil => cases e
    | cons n r =>
      rw [List.map_cons] at e
      injection e with e1 e2
      subst e1 e2
      rw [PySem.W.maxD_ints] at hv
      cases hv with
      | int _ t =>
        rw [foldl_maxL]
        exact ⟨.int (maxL n r), H, I.kept hk, ⟨t, rfl⟩, q⟩
theorem call_repr_bl {X : Cx} : CallR X (.builtin "repr") (fun xs H Q => ∃ b : Bool, xs = [.bl b] ∧ Q (.str (if b then "True" else "False")) H) := by
  intro pins s σ H xs us Q I r h
  obtain ⟨b, rfl, q⟩ := h
  obtain ⟨u, rfl, e⟩ := vals1 r
  obtain rfl : u = Value.bool b := e
  exact PySem.P.repr_of_bool ⟨.str _, H, I.tok _, ⟨_, rfl⟩, q⟩
def tTru (K : PySem.W.Frag) (te : TE) : TT := fun σ H Q => te σ H fun x H' => ∃ k, TruV K x H' k ∧ Q k H'
def rowD (r : Row) : PyData := .tuple [.bool r.1, .int r.2]
def rowsD (rs : List Row) : PyData := .list (rs.map rowD)
theorem rowD_at {K : PySem.W.Frag} {H : Hp} {v : V} {r : Row} (h : Dp K H v (rowD r)) : ∃ a, v = .ref a ∧ SqT K H a [.bl r.1, .int r.2] := by
  unfold rowD at h
  cases h with
  | tup hs ha =>
    cases ha with
    | cons h1 h2 =>
      cases h1
      cases h2 with
      | cons h3 h4 =>
        cases h3
        cases h4
        exact ⟨_, rfl, hs⟩
theorem dp_row {K : PySem.W.Frag} {H : Hp} {a : Addr} {r : Row} (h : SqT K H a [.bl r.1, .int r.2]) : Dp K H (.ref a) (rowD r) := .tup h (.cons (.bl _) (.cons (.int _) .nil))
theorem shaped_row (r : Row) : SeqAt.shaped (rowD r) = true := by
  unfold rowD SeqAt.shaped
  simp [PyData.canLay0, PyData.canLayAll0, PyData.depth, PyData.depthAll]
theorem shaped_rows (rs : List Row) : SeqAt.shaped (rowsD rs) = true := by
  have h1 : PyData.canLayAll0 (rs.map rowD) = true := by
    induction rs with
    | nil => rfl
    | cons x r ih => simp [PyData.canLayAll0, PyData.canLay0, rowD, ih]
  have h2 : PyData.depthAll (rs.map rowD) ≤ 2 := by
    induction rs with
    | nil => simp [PyData.depthAll]
    | cons x r ih =>
      have := ih (by rw [List.map_cons, PyData.canLayAll0, Bool.and_eq_true] at h1; exact h1.2)
      simp [PyData.depthAll, PyData.depth, rowD]
      omega
  unfold rowsD SeqAt.shaped
  rw [Bool.and_eq_true]
  refine ⟨by rw [PyData.canLay0]; exact h1, decide_eq_true ?_⟩
  rw [PyData.depth]
  omega
theorem eqv_row (a b : Row) : PyData.eqv (rowD a) (rowD b) = decide (a = b) := by
  obtain ⟨a1, a2⟩ := a
  obtain ⟨b1, b2⟩ := b
  unfold rowD
  by_cases h : a2 = b2
  · subst h
    cases a1 <;> cases b1 <;> simp [PyData.eqv, PyData.eqvAll]
  · cases a1 <;> cases b1 <;> simp [PyData.eqv, PyData.eqvAll, h]
theorem np_row (r : Row) : npD (rowD r) = true := rfl
theorem np_rows (rs : List Row) : npD (rowsD rs) = true := by
  unfold rowsD
  rw [npD, Bool.and_eq_true]
  refine ⟨?_, npAll_of fun d hd => ?_⟩
  · cases rs with
    | nil => rfl
    | cons x r =>
      cases r with
      | nil => rfl
      | cons y r => rfl
  · obtain ⟨x, _, rfl⟩ := List.mem_map.mp hd
    rfl
theorem rowsD_at {K : PySem.W.Frag} {H : Hp} {v : V} {rs : List Row} (h : Dp K H v (rowsD rs)) : ∃ a xs, v = .ref a ∧ SqL K H a xs ∧ DpAll K H xs (rs.map rowD) := listD_at h
theorem rows_get {K : PySem.W.Frag} {H : Hp} {xs : List V} {rs : List Row} (h : DpAll K H xs (rs.map rowD)) : xs.length = rs.length ∧ ∀ (i : Nat) (r : Row), rs[i]? = some r → ∃ t, xs[i]? = some (.ref t) ∧ SqT K H t [.bl r.1, .int r.2] := by
  obtain ⟨h1, h2⟩ := dpAll_get h
  rw [List.length_map] at h1
  refine ⟨h1, fun i r hr => ?_⟩
  have hi : i < xs.length := by rw [h1]; exact (List.getElem?_eq_some_iff.mp hr).1
  obtain ⟨d, e1, e2⟩ := h2 i xs[i] (List.getElem?_eq_getElem hi)
  rw [List.getElem?_map, hr] at e1
  cases e1
  obtain ⟨t, e3, e4⟩ := rowD_at e2
  exact ⟨t, by rw [List.getElem?_eq_getElem hi, e3], e4⟩
/-- [g r for one, two in rows if f r] -/
theorem lc_pureR {K : PySem.W.Frag} {H : Hp} {a D : Addr} {xs : List V} {rs : List Row} {f : Row → Bool} {g : Row → V} {tt : TT} {te : TE} {vs : List Nat} {σ : L2.St} {j k : Nat} {Qd : Hp → Prop} (hs : SqL K H a xs) (hd : DpAll K H xs (rs.map rowD)) (hl : rs.length ≤ 10000) (hD : H D = none)
    (hw : ∀ x y, wipe (((wipe σ vs).set j (some x)).set k (some y)) vs = wipe σ vs) (ht : ∀ r ∈ rs, ∀ H1, Evl.Ex H H1 → ∀ QB : Bool → Hp → Prop, QB (f r) H1 → tt (((wipe σ vs).set j (some (.bl r.1))).set k (some (.int r.2))) H1 QB)
    (he : ∀ r ∈ rs, f r = true → ∀ H1, Evl.Ex H H1 → ∀ Q : VK, Q (g r) H1 → te (((wipe σ vs).set j (some (.bl r.1))).set k (some (.int r.2))) H1 Q) (kk : ∀ H', Evl.Ex H H' → H' D = some (.lst ((rs.filter f).map g)) → Qd H') :
    ∃ W : Nat → Nat → Hp → Prop, (∃ m, W 0 m (upd H D (.lst []))) ∧ ∀ i m H, W i m H →
      ((Itl K a).stop i H ∧ Qd H) ∨ ((Itl K a).go i H ∧ ∃ Nx : Hp → Prop, (∀ H', Nx H' → ∃ m', m' < m ∧ W (i + 1) m' H') ∧ ∀ x H', (Itl K a).yld i H x H' → gTup K 2 (gCons (gName j) (gCons (gName k) gNil)) x (wipe σ vs) H' fun σ2 H2 => wipe σ2 vs = wipe σ vs ∧ tt σ2 H2 fun b H3 =>
        if b = true then te σ2 H3 fun y H4 => ∃ acc, H4 D = some (.lst acc) ∧ acc.length < sizeLine ∧ Nx (upd H4 D (.lst (acc ++ [y]))) else Nx H3) := by
  obtain ⟨l1, l2⟩ := rows_get hd
  refine lc_it (walk_list (xs := xs)) (fun i H' => H' D = some (.lst (((rs.take i).filter f).map g)) ∧ Evl.Ex H H') ⟨upd_same, Evl.Ex.new hD⟩ (fun i H' _ h => Evl.ex_l h.2 hs) ?_ ?_
  · rintro i v H1 H2 hi ⟨h1, e1⟩ ⟨rfl, ey⟩
    have et := List.getElem?_eq_getElem (l := rs) (i := i) (by omega)
    generalize hr0 : rs[i] = r at et
    obtain ⟨t, ex, st⟩ := l2 i r et
    rw [ex] at ey
    cases ey
    have hx := List.mem_of_getElem? et
    refine r_gTup2 rfl (Evl.ex_t e1 st) ⟨hw _ _, ht r hx H2 e1 _ ?_⟩
    have tk : rs.take (i + 1) = rs.take i ++ [r] := take_snoc et
    cases hf : f r with
    | true =>
      refine iteT (he r hx hf H2 e1 _ ⟨_, h1, Evl.sz_lt ?_, ?_, e1.mut hD⟩)
      · rw [List.length_map]
        have := List.length_filter_le f (rs.take i)
        rw [List.length_take] at this
        omega
      · rw [upd_same, tk, List.filter_append, List.filter_cons, if_pos hf, List.map_append]
        rfl
    | false =>
      refine iteF ⟨?_, e1⟩
      rw [tk, List.filter_append, List.filter_cons, if_neg (by rw [hf]; decide), List.filter_nil, List.append_nil]
      exact h1
  · rintro H' ⟨h1, e1⟩
    rw [l1, List.take_length] at h1
    exact kk H' e1 h1
theorem r_ckw {H : Hp} {Q : VK} {σ : L2.St} {r : List V → List V → Hp → VK → Prop} {t tk : TA} (h : t σ H fun vs H1 => tk σ H1 fun zs H2 => r vs zs H2 Q) : tCKw r t tk σ H Q := h
def rwAt (rs : List Row) (h : Int) : Row := rs.getD h.toNat (true, 0)
theorem rowsOf_len {many : Int} {ties : List (Int × Int)} {names : List Int} : (rowsOf many ties names).length = many.toNat := by unfold rowsOf; rw [List.length_map, rgI_len]
theorem rwAt_of {many : Int} {ties : List (Int × Int)} {names : List Int} {h : Int} (h0 : 0 ≤ h) (h1 : h < many) : rwAt (rowsOf many ties names) h = rowOf many ties names h := by
  unfold rwAt rowsOf
  have g := rgI_get (n := many) (i := h.toNat) (by omega)
  rw [List.getD_eq_getElem?_getD, List.getElem?_map, g]
  show rowOf many ties names ((h.toNat : Nat) : Int) = _
  rw [show ((h.toNat : Nat) : Int) = h by omega]
theorem rwAt_get {rs : List Row} {h : Int} (h1 : h.toNat < rs.length) : rs[h.toNat]? = some (rwAt rs h) := by
  unfold rwAt
  rw [List.getD_eq_getElem?_getD, List.getElem?_eq_getElem h1]
  rfl
theorem rows_right {many : Int} {ties : List (Int × Int)} {names : List Int} {rs : List Row} (W : WebOk many ties) (hl : rs.length = many.toNat) :
    (∀ h, 0 ≤ h → h < many → rwAt rs h = rowBy ((lessN ties names h).map (rwAt rs))) ↔ rs = rowsOf many ties names := by
  constructor
  · intro f
    have u := fun h h0 h1 => rows_unique W f (rank many names h + 1) h (Nat.lt_succ_self _) h0 h1
    refine List.ext_getElem? fun i => ?_
    by_cases hi : i < rs.length
    · have h1 := rwAt_get (rs := rs) (h := (i : Int)) (by simpa using hi)
      have h2 := rwAt_get (rs := rowsOf many ties names) (h := (i : Int)) (by rw [rowsOf_len]; omega)
      rw [show ((i : Int)).toNat = i by omega] at h1 h2
      rw [h1, h2, u (i : Int) (by omega) (by omega), rwAt_of (by omega) (by omega)]
    · rw [List.getElem?_eq_none (by omega), List.getElem?_eq_none (by rw [rowsOf_len]; omega)]
  · rintro rfl h h0 h1
    rw [rwAt_of h0 h1, rowOf_eq W ⟨h0, h1⟩]
    congr 1
    refine List.map_congr_left fun o ho => ?_
    have hb := nbr_range W (List.mem_filter.mp ho).1
    exact (rwAt_of hb.1 hb.2).symm
theorem dpAll_snoc {K : PySem.W.Frag} {H : Hp} {x : V} {d : PyData} : ∀ {xs : List V} {ds : List PyData}, DpAll K H xs ds → Dp K H x d → DpAll K H (xs ++ [x]) (ds ++ [d])
  | _, _, .nil, h => .cons h .nil
  | _, _, .cons a r, h => .cons a (dpAll_snoc r h)
theorem room65 {k : Nat} {A : Around} (r : Room k A) : A.units + 65 < cLine := by have := r.un; omega
/-! ### rows of which some are None -/
def OV (H : Hp) (x : V) (o : Option Row) : Prop := match o with
  | none => x = .non
  | some r => ∃ t, x = .ref t ∧ H t = some (.tup [.bl r.1, .int r.2])
def OsAt (H : Hp) (R : Addr) (os : List (Option Row)) : Prop := ∃ xs, H R = some (.lst xs) ∧ xs.length = os.length ∧ ∀ (i : Nat) (o : Option Row), os[i]? = some o → ∃ x, xs[i]? = some x ∧ OV H x o
theorem OV.keep {H H' : Hp} {x : V} {o : Option Row} (e : ExT H H') (h : OV H x o) : OV H' x o := by
  cases o with
  | none => exact h
  | some r =>
    obtain ⟨t, h1, h2⟩ := h
    exact ⟨t, h1, e t _ h2⟩
theorem OsAt.keep {H H' : Hp} {R : Addr} {os : List (Option Row)} (e : ExT H H') (hR : ∀ xs, H R = some (.lst xs) → H' R = some (.lst xs)) (h : OsAt H R os) : OsAt H' R os := by
  obtain ⟨xs, h1, h2, h3⟩ := h
  refine ⟨xs, hR _ h1, h2, fun i o ho => ?_⟩
  obtain ⟨x, h4, h5⟩ := h3 i o ho
  exact ⟨x, h4, h5.keep e⟩
theorem OsAt.ex {H H' : Hp} {R : Addr} {os : List (Option Row)} (h : OsAt H R os) (e : Evl.Ex H H') : OsAt H' R os := h.keep (ExT.of e) fun xs h => e _ _ h
/-- another list is written -/
theorem OsAt.lst {H : Hp} {R q : Addr} {xs : List V} {o : HO} {os : List (Option Row)} (h : OsAt H R os) (hq : H q = some (.lst xs)) (n : q ≠ R) : OsAt (L2.upd H q o) R os := h.keep (ExT.lst hq) fun ys hy => by rw [upd_ne n.symm]; exact hy
/-- one is set -/
theorem OsAt.set {H : Hp} {R t : Addr} {xs : List V} {os : List (Option Row)} {i : Nat} {r : Row} (h : OsAt H R os) (hR : H R = some (.lst xs)) (ht : H t = some (.tup [.bl r.1, .int r.2])) : OsAt (L2.upd H R (.lst (xs.set i (.ref t)))) R (os.set i (some r)) := by
  obtain ⟨ys, h1, h2, h3⟩ := h
  rw [hR] at h1
  cases h1
  have e : ExT H (L2.upd H R (.lst (xs.set i (.ref t)))) := ExT.lst hR
  refine ⟨_, upd_same, by rw [List.length_set, List.length_set]; exact h2, fun j o ho => ?_⟩
  by_cases hj : j = i
  · subst hj
    have hl : j < os.length := by
      have := (List.getElem?_eq_some_iff.mp ho).1
      rw [List.length_set] at this
      exact this
    rw [List.getElem?_set_self hl] at ho
    cases ho
    exact ⟨.ref t, List.getElem?_set_self (by omega), t, rfl, e _ _ ht⟩
  · rw [List.getElem?_set_ne (fun z => hj z.symm)] at ho
    obtain ⟨x, h4, h5⟩ := h3 j o ho
    exact ⟨x, by rw [List.getElem?_set_ne (fun z => hj z.symm)]; exact h4, h5.keep e⟩
def oD : Option Row → PyData
  | none => .none
  | some r => rowD r
theorem OV.dp {K : PySem.W.Frag} {H : Hp} {x : V} {o : Option Row} (h : OV H x o) : Dp K H x (oD o) := by
  cases o with
  | none =>
    have h : x = .non := h
    subst h
    exact .non
  | some r =>
    obtain ⟨t, h1, h2⟩ := h
    subst h1
    exact dp_row (SqT.of h2)
theorem OsAt.dp {K : PySem.W.Frag} {H : Hp} {R : Addr} {os : List (Option Row)} (h : OsAt H R os) : Dp K H (.ref R) (.list (os.map oD)) := by
  obtain ⟨xs, h1, h2, h3⟩ := h
  refine .lst (SqL.of h1) (dpAll_ix (by rw [List.length_map]; exact h2) fun i x d hx hd => ?_)
  rw [List.getElem?_map] at hd
  cases e : os[i]? with
  | none => rw [e] at hd; cases hd
  | some o =>
    rw [e] at hd
    cases hd
    obtain ⟨y, h4, h5⟩ := h3 i o e
    rw [h4] at hx
    cases hx
    exact h5.dp
theorem OsAt.rows {K : PySem.W.Frag} {H : Hp} {R : Addr} {rs : List Row} (h : OsAt H R (rs.map some)) : Dp K H (.ref R) (rowsD rs) := by
  have := h.dp (K := K)
  rw [List.map_map] at this
  exact this
theorem shaped_os (os : List (Option Row)) : SeqAt.shaped (.list (os.map oD)) = true := by
  have h1 : PyData.canLayAll0 (os.map oD) = true := by
    induction os with
    | nil => rfl
    | cons x r ih => cases x <;> simp [PyData.canLayAll0, PyData.canLay0, oD, rowD, ih]
  have h2 : PyData.depthAll (os.map oD) ≤ 2 := by
    clear h1
    induction os with
    | nil => simp [PyData.depthAll]
    | cons x r ih => cases x <;> simp [PyData.depthAll, PyData.depth, oD, rowD] <;> omega
  unfold SeqAt.shaped
  rw [Bool.and_eq_true]
  refine ⟨by rw [PyData.canLay0]; exact h1, decide_eq_true ?_⟩
  rw [PyData.depth]
  omega
theorem any_none (os : List (Option Row)) : (os.map oD).any (fun z => PyData.eqv z .none) = os.any Option.isNone := by
  rw [List.any_map]
  congr 1
  funext o
  cases o <;> simp [oD, rowD, PyData.eqv]
theorem r_noneIn {K : PySem.W.Frag} {H : Hp} {Q : VK} {R : Addr} {os : List (Option Row)} (h : OsAt H R os) (q : Q (.bl (os.any Option.isNone)) H) : rInD K .non (.ref R) H Q :=
  ⟨.none, _, .non, h.dp, rfl, shaped_os os, by rw [any_none]; exact q⟩
theorem OsAt.at {H : Hp} {R : Addr} {os : List (Option Row)} (h : OsAt H R os) : ∃ xs, H R = some (.lst xs) ∧ xs.length = os.length ∧ ∀ (i : Int) (o : Option Row), 0 ≤ i → os[i.toNat]? = some o → ∃ x, atI xs i = some x ∧ OV H x o := by
  obtain ⟨xs, h1, h2, h3⟩ := h
  refine ⟨xs, h1, h2, fun i o h0 ho => ?_⟩
  obtain ⟨x, h4, h5⟩ := h3 _ o ho
  exact ⟨x, atI_of h0 h4, h5⟩
theorem OV.isNon {H : Hp} {x : V} {o : Option Row} (h : OV H x o) : decide (x = V.non) = o.isNone := by
  cases o with
  | none =>
    have h : x = .non := h
    subst h
    rfl
  | some r =>
    obtain ⟨t, h1, _⟩ := h
    subst h1
    rfl
/-! ### those that are decided, by a test -/
def stO (many : Int) (f : Int → Row) (d : Int → Bool) : List (Option Row) := (rgI many).map fun h => if d h = true then some (f h) else none
theorem stO_len {many : Int} {f : Int → Row} {d : Int → Bool} : (stO many f d).length = many.toNat := by unfold stO; rw [List.length_map, rgI_len]
theorem stO_get {many : Int} {f : Int → Row} {d : Int → Bool} {h : Int} (h0 : 0 ≤ h) (h1 : h < many) : (stO many f d)[h.toNat]? = some (if d h = true then some (f h) else none) := by
  unfold stO
  rw [List.getElem?_map, rgI_get (by omega)]
  show some (if d ((h.toNat : Nat) : Int) = true then _ else _) = _
  rw [show ((h.toNat : Nat) : Int) = h by omega]
theorem stO_congr {many : Int} {f : Int → Row} {d d' : Int → Bool} (h : ∀ x, 0 ≤ x → x < many → d x = d' x) : stO many f d = stO many f d' := by
  unfold stO
  refine List.map_congr_left fun x hx => ?_
  have := rgI_mem.mp hx
  rw [h x this.1 this.2]
theorem stO_set {many : Int} {f : Int → Row} {d : Int → Bool} {h : Int} (h0 : 0 ≤ h) (h1 : h < many) : (stO many f d).set h.toNat (some (f h)) = stO many f fun x => d x || decide (x = h) := by
  refine List.ext_getElem? fun i => ?_
  by_cases hi : i < many.toNat
  · have g := fun (d : Int → Bool) => stO_get (f := f) (d := d) (h := (i : Int)) (by omega) (by omega : (i : Int) < many)
    simp only [Int.toNat_natCast] at g
    rw [g]
    by_cases e : i = h.toNat
    · subst e
      rw [List.getElem?_set_self (by rw [stO_len]; exact hi), show ((h.toNat : Nat) : Int) = h by omega]
      simp
    · rw [List.getElem?_set_ne (fun z => e z.symm), g]
      rw [decide_eq_false (show ¬ (i : Int) = h by omega), Bool.or_false]
  · rw [List.getElem?_eq_none (by rw [List.length_set, stO_len]; omega), List.getElem?_eq_none (by rw [stO_len]; omega)]
theorem stO_none {many : Int} {f : Int → Row} {d : Int → Bool} : (stO many f d).any Option.isNone = (rgI many).any fun h => !d h := by
  unfold stO
  rw [List.any_map]
  congr 1
  funext h
  show Option.isNone (if d h = true then some (f h) else none) = !d h
  cases d h <;> rfl
theorem stO_all {many : Int} {f : Int → Row} {d : Int → Bool} (h : ∀ x, 0 ≤ x → x < many → d x = true) : stO many f d = ((rgI many).map f).map some := by
  unfold stO
  rw [List.map_map]
  refine List.map_congr_left fun x hx => ?_
  have := rgI_mem.mp hx
  rw [if_pos (h x this.1 this.2)]
  rfl
theorem ixN_of {n : Nat} {i : Int} (h0 : 0 ≤ i) (h1 : i < (n : Int)) : ixN n i = some i.toNat := by
  unfold ixN
  rw [if_pos h0, if_pos h1]
theorem cutV_to {xs : List V} {i : Int} (h0 : 0 ≤ i) : cutV xs none (some i) = xs.take i.toNat := by
  have := cutV_map (fun x : V => x) xs none (some i)
  rw [List.map_id', List.map_id'] at this
  rw [this]
  have e : i = ((i.toNat : Nat) : Int) := by omega
  conv => lhs; rw [e]
  exact cutG_take xs i.toNat
theorem cutV_from {xs : List V} {i : Int} (h0 : 0 ≤ i) : cutV xs (some i) none = xs.drop i.toNat := by
  have := cutV_map (fun x : V => x) xs (some i) none
  rw [List.map_id', List.map_id'] at this
  rw [this]
  have e : i = ((i.toNat : Nat) : Int) := by omega
  conv => lhs; rw [e]
  exact cutG_drop xs i.toNat
section
variable {K : PySem.W.Frag} {H : Hp} {Q : VK}
theorem dpAll_append : ∀ {xs ys : List V} {ds es : List PyData}, DpAll K H xs ds → DpAll K H ys es → DpAll K H (xs ++ ys) (ds ++ es)
  | _, _, _, _, .nil, h => h
  | _, _, _, _, .cons a r, h => .cons a (dpAll_append r h)
theorem dpAll_take : ∀ {xs : List V} {ds : List PyData} (n : Nat), DpAll K H xs ds → DpAll K H (xs.take n) (ds.take n)
  | _, _, 0, _ => .nil
  | _, _, _ + 1, .nil => .nil
  | _, _, n + 1, .cons a r => .cons a (dpAll_take n r)
theorem dpAll_drop : ∀ {xs : List V} {ds : List PyData} (n : Nat), DpAll K H xs ds → DpAll K H (xs.drop n) (ds.drop n)
  | _, _, 0, h => h
  | _, _, _ + 1, .nil => .nil
  | _, _, n + 1, .cons _ r => dpAll_drop n r
theorem r_catG {a b : Addr} {xs ys : List V} (h : H a = some (.lst xs)) (g : H b = some (.lst ys)) (hl : xs.length + ys.length ≤ 100000) (k : ∀ p, H p = none → Q (.ref p) (upd H p (.lst (xs ++ ys)))) : rCat (.ref a) (.ref b) H Q :=
  ⟨a, b, _, _, rfl, rfl, h, g, Evl.sz_of hl, k⟩
theorem r_indexI {a : Addr} {names : List Int} {y : Int} {j : Nat} (h : SqL K H a (names.map V.int)) (hn : names.Nodup) (hj : names[j]? = some y) (q : Q (.int (j : Nat)) H) : rIndex K (.ref a) [.int y] H Q := by
  refine ⟨a, _, .int y, j, .int y, rfl, rfl, h, rfl, flat_int names, by rw [List.getElem?_map, hj]; rfl, by simp [eqV], fun m z' hm hz => ?_, q⟩
  rw [List.getElem?_map] at hz
  cases e : names[m]? with
  | none => rw [e] at hz; cases hz
  | some z =>
    rw [e] at hz
    cases hz
    have : z ≠ y := fun c => by
      subst c
      have := nd_ix' hn e hj
      omega
    simp [eqV, this]
end
/-- [g r for one in rows if f r] -/
theorem lc_pureR1 {K : PySem.W.Frag} {H : Hp} {a D : Addr} {xs : List V} {rs : List Row} {f : Row → Bool} {g : Row → V} {tt : TT} {te : TE} {vs : List Nat} {σ : L2.St} {j : Nat} {Qd : Hp → Prop} (hs : SqL K H a xs) (hd : DpAll K H xs (rs.map rowD)) (hl : rs.length ≤ 10000) (hD : H D = none)
    (hw : ∀ x, wipe ((wipe σ vs).set j (some x)) vs = wipe σ vs) (ht : ∀ r ∈ rs, ∀ t H1, SqT K H1 t [.bl r.1, .int r.2] → Evl.Ex H H1 → ∀ QB : Bool → Hp → Prop, QB (f r) H1 → tt ((wipe σ vs).set j (some (.ref t))) H1 QB)
    (he : ∀ r ∈ rs, f r = true → ∀ t H1, SqT K H1 t [.bl r.1, .int r.2] → Evl.Ex H H1 → ∀ Q : VK, Q (g r) H1 → te ((wipe σ vs).set j (some (.ref t))) H1 Q) (kk : ∀ H', Evl.Ex H H' → H' D = some (.lst ((rs.filter f).map g)) → Qd H') :
    ∃ W : Nat → Nat → Hp → Prop, (∃ m, W 0 m (upd H D (.lst []))) ∧ ∀ i m H, W i m H →
      ((Itl K a).stop i H ∧ Qd H) ∨ ((Itl K a).go i H ∧ ∃ Nx : Hp → Prop, (∀ H', Nx H' → ∃ m', m' < m ∧ W (i + 1) m' H') ∧ ∀ x H', (Itl K a).yld i H x H' → gName j x (wipe σ vs) H' fun σ2 H2 => wipe σ2 vs = wipe σ vs ∧ tt σ2 H2 fun b H3 =>
        if b = true then te σ2 H3 fun y H4 => ∃ acc, H4 D = some (.lst acc) ∧ acc.length < sizeLine ∧ Nx (upd H4 D (.lst (acc ++ [y]))) else Nx H3) := by
  obtain ⟨l1, l2⟩ := rows_get hd
  refine lc_it (walk_list (xs := xs)) (fun i H' => H' D = some (.lst (((rs.take i).filter f).map g)) ∧ Evl.Ex H H') ⟨upd_same, Evl.Ex.new hD⟩ (fun i H' _ h => Evl.ex_l h.2 hs) ?_ ?_
  · rintro i v H1 H2 hi ⟨h1, e1⟩ ⟨rfl, ey⟩
    have et := List.getElem?_eq_getElem (l := rs) (i := i) (by omega)
    generalize hr0 : rs[i] = r at et
    obtain ⟨t, ex, st⟩ := l2 i r et
    rw [ex] at ey
    cases ey
    have hx := List.mem_of_getElem? et
    refine ⟨hw _, ht r hx t H2 (Evl.ex_t e1 st) e1 _ ?_⟩
    have tk : rs.take (i + 1) = rs.take i ++ [r] := take_snoc et
    cases hf : f r with
    | true =>
      refine iteT (he r hx hf t H2 (Evl.ex_t e1 st) e1 _ ⟨_, h1, Evl.sz_lt ?_, ?_, e1.mut hD⟩)
      · rw [List.length_map]
        have := List.length_filter_le f (rs.take i)
        rw [List.length_take] at this
        omega
      · rw [upd_same, tk, List.filter_append, List.filter_cons, if_pos hf, List.map_append]
        rfl
    | false =>
      refine iteF ⟨?_, e1⟩
      rw [tk, List.filter_append, List.filter_cons, if_neg (by rw [hf]; decide), List.filter_nil, List.append_nil]
      exact h1
  · rintro H' ⟨h1, e1⟩
    rw [l1, List.take_length] at h1
    exact kk H' e1 h1
/-! ### lists of rows, raw -/
def OvAll (H : Hp) (xs : List V) (os : List (Option Row)) : Prop := Paired (OV H) xs os
theorem OsAt.all {H : Hp} {R : Addr} {os : List (Option Row)} (h : OsAt H R os) : ∃ xs, H R = some (.lst xs) ∧ OvAll H xs os := by
  obtain ⟨xs, h1, h2, h3⟩ := h
  refine ⟨xs, h1, ?_⟩
  clear h1
  induction xs generalizing os with
  | nil =>
    cases os with
    | nil => exact .nil
    | cons o r => simp at h2
  | cons x r ih =>
    cases os with
    | nil => simp at h2
    | cons o t =>
      obtain ⟨y, e, ov⟩ := h3 0 o rfl
      cases e
      exact .cons ov (ih (by simpa using h2) fun i o ho => by
        obtain ⟨y, e, ov⟩ := h3 (i + 1) o (by simpa using ho)
        exact ⟨y, by simpa using e, ov⟩)
theorem OvAll.len {H : Hp} : ∀ {xs : List V} {os : List (Option Row)}, OvAll H xs os → xs.length = os.length
  | _, _, .nil => rfl
  | _, _, .cons _ r => by rw [List.length_cons, List.length_cons, OvAll.len r]
theorem OvAll.get {H : Hp} : ∀ {xs : List V} {os : List (Option Row)}, OvAll H xs os → ∀ (i : Nat) (o : Option Row), os[i]? = some o → ∃ x, xs[i]? = some x ∧ OV H x o
  | _, _, .nil, _, _, h => by simp at h
  | _, _, .cons a r, 0, o, h => by
    have e := Option.some.inj h
    subst e
    exact ⟨_, rfl, a⟩
  | _, _, .cons a r, i + 1, o, h => by
    obtain ⟨x, e, ov⟩ := OvAll.get r i o (by simpa using h)
    exact ⟨x, by simpa using e, ov⟩
theorem OvAll.at {H : Hp} {R : Addr} {xs : List V} {os : List (Option Row)} (h : H R = some (.lst xs)) (a : OvAll H xs os) : OsAt H R os := ⟨xs, h, a.len, a.get⟩
theorem OvAll.keep {H H' : Hp} (e : ExT H H') : ∀ {xs : List V} {os : List (Option Row)}, OvAll H xs os → OvAll H' xs os
  | _, _, .nil => .nil
  | _, _, .cons a r => .cons (a.keep e) (OvAll.keep e r)
theorem OvAll.append {H : Hp} : ∀ {xs ys : List V} {os ps : List (Option Row)}, OvAll H xs os → OvAll H ys ps → OvAll H (xs ++ ys) (os ++ ps)
  | _, _, _, _, .nil, h => h
  | _, _, _, _, .cons a r, h => .cons a (OvAll.append r h)
theorem OvAll.take {H : Hp} : ∀ {xs : List V} {os : List (Option Row)} (n : Nat), OvAll H xs os → OvAll H (xs.take n) (os.take n)
  | _, _, 0, _ => .nil
  | _, _, _ + 1, .nil => .nil
  | _, _, n + 1, .cons a r => .cons a (OvAll.take n r)
theorem OvAll.drop {H : Hp} : ∀ {xs : List V} {os : List (Option Row)} (n : Nat), OvAll H xs os → OvAll H (xs.drop n) (os.drop n)
  | _, _, 0, h => h
  | _, _, _ + 1, .nil => .nil
  | _, _, n + 1, .cons _ r => OvAll.drop n r
/-- a list of rows, raw -/
def RwAt (H : Hp) (v : V) (rs : List Row) : Prop := ∃ a, v = .ref a ∧ OsAt H a (rs.map some)
theorem RwAt.dp {K : PySem.W.Frag} {H : Hp} {v : V} {rs : List Row} (h : RwAt H v rs) : Dp K H v (rowsD rs) := by
  obtain ⟨a, rfl, os⟩ := h
  exact os.rows
theorem RwAt.ex {H H' : Hp} {v : V} {rs : List Row} (h : RwAt H v rs) (e : Evl.Ex H H') : RwAt H' v rs := by
  obtain ⟨a, rfl, os⟩ := h
  exact ⟨a, rfl, os.ex e⟩
theorem RwAt.exB {H H' : Hp} {p c : Addr} {v : V} {rs : List Row} (h : RwAt H v rs) (hP : PotC H p c) (e : ExB p H H') : RwAt H' v rs := by
  obtain ⟨a, rfl, os⟩ := h
  refine ⟨a, rfl, os.keep (hP.t e) fun xs hx => e a _ (fun z => ?_) hx⟩
  subst z
  obtain ⟨cs, at', r, h1, _⟩ := hP
  rw [h1] at hx
  have hx := HO.lst.inj (Option.some.inj hx)
  subst hx
  obtain ⟨ys, y1, y2, y3⟩ := os
  rw [h1] at y1
  have y1 := HO.lst.inj (Option.some.inj y1)
  subst y1
  have hl : 1 < (rs.map some).length := by rw [← y2]; simp
  obtain ⟨x, e1, ov⟩ := y3 1 _ (List.getElem?_eq_getElem hl)
  cases e1
  rw [List.getElem_map] at ov
  obtain ⟨t, e2, _⟩ := ov
  cases e2
/-- the list of lists of rows is written -/
theorem RwAt.wr {H : Hp} {S l : Addr} {r ys : List V} {o : HO} {v : V} {rs : List Row} (h : RwAt H v rs) (hS : H S = some (.lst (.ref l :: r))) (hl : H l = some (.lst ys)) : RwAt (L2.upd H S o) v rs := by
  obtain ⟨a, rfl, os⟩ := h
  refine ⟨a, rfl, os.lst hS fun z => ?_⟩
  subst z
  obtain ⟨xs, h1, h2, h3⟩ := os
  rw [hS] at h1
  have h1 := HO.lst.inj (Option.some.inj h1)
  subst h1
  have hl0 : 0 < (rs.map Option.some).length := by rw [← h2]; simp
  obtain ⟨x, e1, ov⟩ := h3 0 _ (List.getElem?_eq_getElem hl0)
  cases e1
  rw [List.getElem_map] at ov
  obtain ⟨t, e2, e3⟩ := ov
  cases e2
  rw [hl] at e3
  cases e3
theorem eqvAll_rows : ∀ a b : List Row, PyData.eqvAll (a.map rowD) (b.map rowD) = decide (a = b)
  | [], [] => by simp [PyData.eqvAll]
  | [], _ :: _ => by simp [PyData.eqvAll]
  | _ :: _, [] => by simp [PyData.eqvAll]
  | x :: a, y :: b => by
    rw [List.map_cons, List.map_cons, PyData.eqvAll, eqv_row, eqvAll_rows]
    by_cases h1 : x = y <;> by_cases h2 : a = b <;> simp [h1, h2]
theorem eqv_rows (a b : List Row) : PyData.eqv (rowsD a) (rowsD b) = decide (a = b) := by
  unfold rowsD
  rw [PyData.eqv]
  exact eqvAll_rows a b
def handD (names : List Int) (rs : List Row) : PyData := .tuple [intsD names, rowsD rs]
theorem depth_ints1 (ns : List Int) : PyData.depthAll (ns.map PyData.int) ≤ 1 := by
  induction ns with
  | nil => simp [PyData.depthAll]
  | cons x r ih =>
    simp [PyData.depthAll, PyData.depth]
    omega
theorem depth_rows2 (rs : List Row) : PyData.depthAll (rs.map rowD) ≤ 2 := by
  induction rs with
  | nil => simp [PyData.depthAll]
  | cons x r ih =>
    simp [PyData.depthAll, PyData.depth, rowD]
    omega
theorem shaped_hand (names : List Int) (rs : List Row) : SeqAt.shaped (handD names rs) = true := by
  have h1 := SeqAt.canLay_of_shaped (shaped_ints names)
  have h2 := SeqAt.canLay_of_shaped (shaped_rows rs)
  have h3 := depth_ints1 names
  have h4 := depth_rows2 rs
  unfold SeqAt.shaped
  rw [Bool.and_eq_true]
  refine ⟨?_, decide_eq_true ?_⟩
  · unfold handD intsD
    rw [PyData.canLay0, PyData.canLayAll0, PyData.canLayAll0, PyData.canLayAll0, h1, h2]
    rfl
  · unfold handD intsD rowsD
    simp only [PyData.depth, PyData.depthAll]
    omega
theorem r_neHand {K : PySem.W.Frag} {H : Hp} {Q : VK} {x y : V} {names : List Int} {rs : List Row} (h : Dp K H x (handD names rs)) (g : Dp K H y (handD names rs)) (z : Q (.bl false) H) : rNeD K x y H Q := by
  refine ⟨_, _, h, g, shaped_hand names rs, shaped_hand names rs, ?_⟩
  rw [SeqAt.eqv_refl _ (SeqAt.canLay_of_shaped (shaped_hand names rs))]
  exact z
theorem RwAt.at {H : Hp} {v : V} {rs : List Row} (h : RwAt H v rs) : ∃ a xs, v = .ref a ∧ H a = some (.lst xs) ∧ xs.length = rs.length ∧ ∀ (i : Int), 0 ≤ i → i < (rs.length : Int) → ∃ t, atI xs i = some (.ref t) ∧ H t = some (.tup [.bl (rwAt rs i).1, .int (rwAt rs i).2]) := by
  obtain ⟨a, rfl, xs, h1, h2, h3⟩ := h
  rw [List.length_map] at h2
  refine ⟨a, xs, rfl, h1, h2, fun i h0 hi => ?_⟩
  have er := rwAt_get (rs := rs) (h := i) (by omega)
  obtain ⟨x, e, t, e2, e3⟩ := h3 i.toNat _ (by rw [List.getElem?_map, er]; rfl)
  rw [e2] at e
  exact ⟨t, atI_of h0 e, e3⟩
/-- [(f r, g r) for row in rows]: rows again -/
theorem lc_mkR {K : PySem.W.Frag} {H : Hp} {a D : Addr} {rs : List Row} {h : Row → Row} {te : TE} {vs : List Nat} {σ : L2.St} {j : Nat} {Qd : Hp → Prop} (hs : RwAt H (.ref a) rs) (hl : rs.length ≤ 10000) (hD : H D = none)
    (hw : ∀ x, wipe ((wipe σ vs).set j (some x)) vs = wipe σ vs)
    (he : ∀ r ∈ rs, ∀ t H1, SqT K H1 t [.bl r.1, .int r.2] → ∀ Q : VK, (∀ q, H1 q = none → Q (.ref q) (upd H1 q (.tup [.bl (h r).1, .int (h r).2]))) → te ((wipe σ vs).set j (some (.ref t))) H1 Q) (kk : ∀ H', Evl.Ex H H' → RwAt H' (.ref D) (rs.map h) → Qd H') :
    ∃ W : Nat → Nat → Hp → Prop, (∃ m, W 0 m (upd H D (.lst []))) ∧ ∀ i m H, W i m H →
      ((Itl K a).stop i H ∧ Qd H) ∨ ((Itl K a).go i H ∧ ∃ Nx : Hp → Prop, (∀ H', Nx H' → ∃ m', m' < m ∧ W (i + 1) m' H') ∧ ∀ x H', (Itl K a).yld i H x H' → gName j x (wipe σ vs) H' fun σ2 H2 => wipe σ2 vs = wipe σ vs ∧ tYes σ2 H2 fun b H3 =>
        if b = true then te σ2 H3 fun y H4 => ∃ acc, H4 D = some (.lst acc) ∧ acc.length < sizeLine ∧ Nx (upd H4 D (.lst (acc ++ [y]))) else Nx H3) := by
  obtain ⟨_, e0, os⟩ := hs
  cases e0
  obtain ⟨xs, hx, ov⟩ := os.all
  have l1 := ov.len
  rw [List.length_map] at l1
  refine lc_it (walk_list (xs := xs)) (fun i H' => ∃ ys, H' D = some (.lst ys) ∧ OvAll H' ys (((rs.take i).map h).map some) ∧ Evl.Ex H H') ⟨[], upd_same, .nil, Evl.Ex.new hD⟩ ?_ ?_ ?_
  · rintro i H' _ ⟨_, _, _, e⟩
    exact Evl.ex_l e (SqL.of hx)
  · rintro i v H1 H2 hi ⟨ys, h1, h2, e1⟩ ⟨rfl, ey⟩
    have et := List.getElem?_eq_getElem (l := rs) (i := i) (by omega)
    generalize hr0 : rs[i] = r at et
    obtain ⟨x, ex, t, e2, e3⟩ := ov.get i _ (by rw [List.getElem?_map, et]; rfl)
    rw [e2] at ex
    rw [ex] at ey
    cases ey
    have tk : rs.take (i + 1) = rs.take i ++ [r] := take_snoc et
    refine ⟨hw _, r_yes ?_⟩
    refine iteT (he r (List.mem_of_getElem? et) t H2 (SqT.of (e1 _ _ e3)) _ fun q hq => ?_)
    have Dq : D ≠ q := ne_of_none h1 hq
    have yl := h2.len
    rw [List.length_map, List.length_map, List.length_take] at yl
    have e4 := Evl.Ex.new (o := .tup [.bl (h r).1, .int (h r).2]) hq
    refine ⟨ys, by rw [upd_ne Dq]; exact h1, Evl.sz_lt (by omega), ys ++ [.ref q], upd_same, ?_, (e1.trans e4).mut hD⟩
    have ext : ExT (upd H2 q (.tup [.bl (h r).1, .int (h r).2])) (upd (upd H2 q (.tup [.bl (h r).1, .int (h r).2])) D (.lst (ys ++ [.ref q]))) := ExT.lst (xs := ys) (by rw [upd_ne Dq]; exact h1)
    rw [tk, List.map_append, List.map_append]
    exact OvAll.append (h2.keep ((ExT.of e4).trans ext)) (.cons ⟨q, rfl, ext _ _ upd_same⟩ .nil)
  · rintro H' ⟨ys, h1, h2, e1⟩
    rw [l1, List.take_length] at h2
    exact kk H' e1 ⟨D, rfl, OvAll.at h1 h2⟩
theorem ints_exB {H H' : Hp} {p c q : Addr} {ns : List Int} (hP : PotC H p c) (e : ExB p H H') (h : H q = some (.lst (ns.map V.int))) : H' q = some (.lst (ns.map V.int)) := by
  obtain ⟨cs, a, r, h1, _⟩ := hP
  exact e q _ (ne_of h h1 fun w => ints_np _ _ _ (HO.lst.inj w)) h
/-- lists of rows, each of n -/
def Rws (H : Hp) (n : Nat) (xs : List V) : Prop := ∀ x ∈ xs, ∃ rs, rs.length = n ∧ RwAt H x rs
theorem Rws.nil {H : Hp} {n : Nat} : Rws H n [] := fun x hx => by cases hx
theorem Rws.cons {H : Hp} {n : Nat} {x : V} {xs : List V} {rs : List Row} (h : RwAt H x rs) (l : rs.length = n) (t : Rws H n xs) : Rws H n (x :: xs) := fun y hy => by
  rcases List.mem_cons.mp hy with e | hy
  · exact ⟨rs, l, e ▸ h⟩
  · exact t y hy
theorem Rws.append {H : Hp} {n : Nat} {xs ys : List V} (a : Rws H n xs) (b : Rws H n ys) : Rws H n (xs ++ ys) := fun y hy => (List.mem_append.mp hy).elim (a y) (b y)
theorem Rws.ex {H H' : Hp} {n : Nat} {xs : List V} (h : Rws H n xs) (e : Evl.Ex H H') : Rws H' n xs := fun x hx => by
  obtain ⟨rs, l, r⟩ := h x hx
  exact ⟨rs, l, r.ex e⟩
theorem Rws.wr {H : Hp} {S l : Addr} {r ys : List V} {o : HO} {n : Nat} {xs : List V} (h : Rws H n xs) (hS : H S = some (.lst (.ref l :: r))) (hl : H l = some (.lst ys)) : Rws (L2.upd H S o) n xs := fun x hx => by
  obtain ⟨rs, e, q⟩ := h x hx
  exact ⟨rs, e, q.wr hS hl⟩
theorem Rws.exB {H H' : Hp} {p c : Addr} {n : Nat} {xs : List V} (h : Rws H n xs) (hP : PotC H p c) (e : ExB p H H') : Rws H' n xs := fun x hx => by
  obtain ⟨rs, l, r⟩ := h x hx
  exact ⟨rs, l, r.exB hP e⟩
/-! ### an exception kept behind its clause -/
/-- what stands at a: an exception of this class, its dict -/
def KeptO (cls : Value) (d : Option Addr) (a : Addr) : HO := .ext fun h => ∃ (o : Obj) (vs : Array Value), h.get? a = some o ∧ Zc cls d o ∧ o.data = .fields vs
section
variable {X : Cx} {pins : List (Addr × Obj)} {σ : L2.St} {H : Hp} {s : Shared}
/-- a pinned object of ours is told from now on -/
theorem inv_told {a : Addr} {o1 : Obj} {u : HO} (J : Inv X ((a, o1) :: pins) σ H s) (hnew : X.s_0.heap.get? a = none) (hpin : ∀ p ∈ X.pn ++ pins, p.1 ≠ a) (good : ObjOk X.prog X.w (L2.upd H a u) s.heap a u) : Inv X pins σ (L2.upd H a u) s := by
  obtain ⟨p1, p2, p3, p4, p5⟩ := J.pin (a, o1) (List.mem_append_right _ List.mem_cons_self)
  have p1 : s.heap.get? a = some o1 := p1
  have p2 : H a = none := p2
  have p3 : a ≠ X.env.locals := p3
  have far : ∀ {b : Addr} {v : HO}, H b = some v → b ≠ a := fun {b v} e z => by rw [z, p2] at e; cases e
  have cel : ∀ x c, X.env.cells.lookup x = some c → c ≠ a := fun x c e z => by
    obtain ⟨v, q, hq, hd⟩ := J.cell x c e
    rw [z, p1] at hq
    cases hq
    exact p5 _ hd
  exact {
    ok := J.ok, os := J.os, bare := J.bare, loc := J.loc, cell := J.cell, len := J.len
    base := {
      keep := J.base.keep, slot := J.base.slot, there := J.base.there
      free := fun b q e n hx => by
        rw [upd_ne (fun z => by rw [z, hnew] at e; cases e)]
        exact J.base.free b q e n hx
      tups := fun b xs e => by
        have r := J.base.tups b xs e
        rw [upd_ne (far r)]
        exact r
      frzs := fun b q v e => by
        have r := J.base.frzs b q v e
        rw [upd_ne (far r)]
        exact r
      tbls := fun b ps e => by
        obtain ⟨m, r⟩ := J.base.tbls b ps e
        exact ⟨m, by rw [upd_ne (far r)]; exact r⟩ }
    free := by rw [upd_ne p3.symm]; exact J.free
    freeC := fun x c e => by rw [upd_ne (cel x c e)]; exact J.freeC x c e
    pin := fun p hp => by
      have hp' : p ∈ X.pn ++ ((a, o1) :: pins) := by
        rcases List.mem_append.mp hp with z | z
        · exact List.mem_append_left _ z
        · exact List.mem_append_right _ (List.mem_cons_of_mem _ z)
      obtain ⟨q1, q2, q3, q4, q5⟩ := J.pin p hp'
      exact ⟨q1, by rw [upd_ne (hpin p hp)]; exact q2, q3, q4, q5⟩
    hok := fun b v e => by
      by_cases hb : b = a
      · rw [hb, upd_same] at e
        cases e
        rw [hb]
        exact good
      · rw [upd_ne hb] at e
        exact (J.hok b v e).stay (fun c w _ q => q) (fun c q => by rw [upd_ne (far q)]; exact q) fun c xs q => by rw [upd_ne (far q)]; exact q }
end
/-- what 'except x as n: y = n' wishes of an exception; i, j: the places of n, y -/
def wKept (K : PySem.W.Frag) (c : Value) (i j : Nat) (Wout : WX) (D : Ends) : WX := fun cls d σ H =>
  ∃ b, PySem.W.exmOne K cls c = some b ∧ (b = true → ∀ a, H a = none → D.nx (((σ.set i (some (.ref a))).set j (some (.ref a))).set i none) (L2.upd H a (KeptO cls d a))) ∧ (b = false → Wout cls d σ H)
section
variable {X : Cx} {x n : Str} {c : Value} {i j : Nat} {body : List Stmt} {st : Stmt} {np pos pos' : Pos} {tb : WX → TS} {Wout : WX}
theorem ps_kept (hx : X.ex = []) (hs : X.stack = X.env :: X.outer) (hf : X.env.frame = some X.env.locals) (hN : X.N.Nodup) (hi : X.N[i]? = some n) (hln : X.env.kindOf n = some .local) (hc : Names X x c) (tk : Takes X Wout)
    (hb : ∀ (W : WX) (pn : List (Addr × Obj)) (xe : Value → Shared → Prop), Takes (X.tr pn xe) W → PassesOwn (model X.prog X.w) X.A X.env xe → PSs (X.tr pn xe) body (tb W))
    (hsu : ∀ (a : Addr) (o : Obj) (pn : List (Addr × Obj)), PSs (X.suite a ((a, o) :: pn)) [st] (tAsg (tVar i) (gName j))) :
    PS X (.Try body [.ExceptHandler (some (.Name x np)) (some n) [st] pos'] [] [] pos) (fun D σ H => tb (wKept X.K c i j Wout D) D σ H) := by
  constructor
  intro pins s0 σ0 H0 D I0 h0
  have good := I0.ok
  have fr0 : X.A.frames = some (X.env :: X.outer) := hs ▸ good.frames
  have ln : Loc X.env.scope n := Or.inl hln
  apply wpAny_Try_except
  let catch' : Value → Shared → Prop := fun e s₁ => wpAny (model X.prog X.w) X.A (noteFrame e X.env) (fun _ s₂ => wpAny (model X.prog X.w) X.A (setFlight e none)
    (fun _ s₃ => wpAny (model X.prog X.w) X.A (handleBy e X.env [.ExceptHandler (some (.Name x np)) (some n) [st] pos']) (SP X pins D) X.xe s₃) X.xe s₂) X.xe s₁
  have caught : Takes (X.tr (X.pn ++ pins) catch') (wKept X.K c i j Wout D) := by
    rintro u s1 ⟨a, B, sI, pns, σ1, H1, cls, d, rfl, J', nb, up, sky, na, os, ag, b, hb1, hyes, hno⟩
    have J : Inv X pins σ1 H1 sI := J'.ofTry good
    rw [show (X.tr (X.pn ++ pins) catch').stack = X.env :: X.outer from hs] at sky nb
    show wpAny (model X.prog X.w) X.A (noteFrame (.ref a) X.env) _ _ _
    refine Sky.land Zc.steady fr0 hf sky fun g1 l1 u1 => ?_
    have nbJ : ∀ b o, sI.heap.get? b = some o → b ∉ frs X.stack → B.get? b = some o := by rw [hs]; exact nb
    have K1 : Inv X pins σ1 H1 { s1 with heap := g1 } := J.landed nbJ l1.1 (up.trans u1) os ag
    obtain ⟨o1, v1, a1, y1, d1⟩ := l1.there
    obtain ⟨-, gone, ff, _⟩ := id l1
    have out : a ∉ frs (X.env :: X.outer) := fun hm => by
      obtain ⟨_, o', e', bad⟩ := ff.mem hm
      rw [a1] at e'
      cases e'
      exact bad _ d1
    have aL : a ≠ X.env.locals := by
      rintro rfl
      exact out (List.mem_filterMap.mpr ⟨X.env, List.mem_cons_self, hf⟩)
    have aF : a ∉ X.fs := fun hm => by
      obtain ⟨e, he, q⟩ := List.mem_filterMap.mp hm
      exact out (List.mem_filterMap.mpr ⟨e, List.mem_cons_of_mem _ he, q⟩)
    have notI : ∀ o, sI.heap.get? a ≠ some o := fun o e => by
      have := nb a o e out
      rw [gone] at this
      cases this
    have new0 : X.s_0.heap.get? a = none := by
      cases e : X.s_0.heap.get? a with
      | none => rfl
      | some o =>
        obtain ⟨o', e'⟩ := J.base.there a o e (by rw [hx]; exact List.not_mem_nil)
        exact absurd e' (notI o')
    have apart : ∀ p ∈ X.pn ++ pins, p.1 ≠ a := fun p hp z => by
      have q := (J.pin p hp).1
      rw [z] at q
      exact notI _ q
    have S1 := K1.suite a1 d1 na aL aF
    refine wpAny_handleBy_cons (codeAny_handlers_test ?_) (by intro q; cases q)
    have seen : PySem.W.Looks (model X.prog X.w) g1 (typeOf (.ref a)) cls := fun A Q E s k q => wpAny_typeOf_ref (k _ _ a1) (by rw [y1.1]; exact q)
    have asked := PySem.W.exm_one (M := model X.prog X.w) K1.kIn seen hb1
    have named : ∀ {Q : Value → Shared → Prop} {E : Value → Shared → Prop}, Q c { s1 with heap := g1 } → wpAny (model X.prog X.w) (X.A.mark (some (.ref a))) (eval (.Name x np) X.env) Q E { s1 with heap := g1 } := by
      intro Q E q
      rcases hc with ⟨k1, k2, k3 | ⟨k3, k4, k5⟩⟩
      · exact ld_glob (X := X.suite a ((a, o1) :: (X.pn ++ pins))) S1 k1 k3 q k2
      · exact ld_blt (X := X.suite a ((a, o1) :: (X.pn ++ pins))) S1 k1 k3 k4 q k5 k2
    refine named (asked.here ?_)
    cases b with
    | true =>
      refine codeAny_handlers_suite_as ?_
      refine HandSPX.lands_againZ l1 fun g2 l2 u2 => ?_
      have K2 : Inv X pins σ1 H1 { s1 with heap := g2 } := J.landed nbJ l2.1 ((up.trans u1).trans u2) os ag
      obtain ⟨o2, v2, a2, y2, d2⟩ := l2.there
      have S2 := K2.suite a2 d2 na aL aF
      refine store_ok (X := X.suite a ((a, o2) :: (X.pn ++ pins))) (v := .ref a) S2 hN hi ln rfl (fun s3 S3 => ?_) (.inr hln)
      have len : i < σ1.length := by
        rw [K2.len]
        exact (List.getElem?_eq_some_iff.mp hi).1
      let D2 : Ends := { nx := fun σ' H' => σ' = (σ1.set i (some (.ref a))).set j (some (.ref a)) ∧ H' = H1, rt := fun _ _ => False, bk := fun _ _ => False, ct := fun _ _ => False }
      refine wpAny_mono ((hsu a o2 (X.pn ++ pins)).run [] s3 _ H1 D2 S3 (r_asg (r_var (List.getElem?_set_self len) ⟨rfl, rfl⟩))) (fun f s4 hsp => ?_) (fun _ _ z => False.elim z)
      cases f with
      | next =>
        obtain ⟨σ4, H4, S4, rfl, rfl⟩ := hsp
        have K4 : Inv X ((a, o2) :: pins) ((σ1.set i (some (.ref a))).set j (some (.ref a))) H4 s4 := {
          ok := good, os := S4.os, bare := S4.bare, base := S4.base, loc := S4.loc, cell := S4.cell, free := S4.free, freeC := S4.freeC, hok := S4.hok, len := S4.len
          pin := fun p hp => S4.pin p (List.mem_append_left _ (by
            rcases List.mem_append.mp hp with z | z
            · exact List.mem_cons_of_mem _ (List.mem_append_left _ z)
            · rcases List.mem_cons.mp z with z | z
              · rw [z]; exact List.mem_cons_self
              · exact List.mem_cons_of_mem _ (List.mem_append_right _ z))) }
        refine gone_ok K4 hN hi hln fun s5 K5 => ?_
        obtain ⟨p1, p2, _⟩ := K5.pin (a, o2) (List.mem_append_right _ List.mem_cons_self)
        exact ⟨_, _, inv_told (u := KeptO cls d a) K5 new0 apart ⟨⟨o2, v2, p1, y2, d2⟩, ⟨o2, p1⟩, fun _ _ ⟨o, v, q, r⟩ k => ⟨o, v, k o q, r⟩⟩, hyes rfl a na⟩
      | brk =>
        obtain ⟨_, _, _, q⟩ := hsp
        exact q.elim
      | cont =>
        obtain ⟨_, _, _, q⟩ := hsp
        exact q.elim
      | ret u =>
        obtain ⟨_, _, _, _, _, q⟩ := hsp
        exact q.elim
    | false =>
      show wpAny _ X.A (handleBy (.ref a) X.env []) _ _ _
      refine wpAny_handleBy_nil ?_
      obtain ⟨_, _, _, o3, v3, T, _, _, e3, _, d3, t3, _⟩ := id l1
      unfold PySem.passOn
      refine wpAny_bind (wpAny_field e3 d3 t3 ?_)
      rw [if_neg (show ¬ ((Value.ref T == Value.none) = true) from by simp)]
      have onward : wpAny (model X.prog X.w) X.A (setFlight (.ref a) X.env.frame) (fun _ s4 => wpAny (model X.prog X.w) X.A (throw (.ref a) : Sem Flow) (SP X pins D) X.xe s4) X.xe { s1 with heap := g1 } := by
        rw [hf]
        refine HandSPX.setFlight_upZ l1 fun g2 m2 u2 => wpAny_throw (tk _ _ ?_)
        exact ⟨a, B, sI, pins, σ1, H1, cls, d, rfl, J, nbJ, (up.trans u1).trans u2, .inr (.inr (by rw [hs]; exact m2)), na, os, ag, hno rfl⟩
      first
        | exact wpAny_bind (wpAny_pure (wpAny_bind onward))
        | exact wpAny_bind onward
  refine wpAny_mono ((hb (wKept X.K c i j Wout D) (X.pn ++ pins) catch' caught PassesOwn.looking).run [] s0 σ0 H0 D (I0.toTry _) h0) (fun f s1 hsp => ?_) (fun _ _ z => z)
  cases f with
  | next =>
    obtain ⟨σ1, H1, J1, q⟩ := hsp
    exact wpAny_execs_nil ⟨σ1, H1, J1.ofTry good, q⟩
  | brk =>
    obtain ⟨σ1, H1, J1, q⟩ := hsp
    exact ⟨σ1, H1, J1.ofTry good, q⟩
  | cont =>
    obtain ⟨σ1, H1, J1, q⟩ := hsp
    exact ⟨σ1, H1, J1.ofTry good, q⟩
  | ret u =>
    obtain ⟨v, σ1, H1, J1, r, q⟩ := hsp
    exact ⟨v, σ1, H1, J1.ofTry good, r, q⟩
end
/-- the object at a is an exception of the class D, without a dict: told by whatever is kept of it -/
def ExcAt (H : Hp) (a D : Addr) : Prop := ∃ φ : Heap → Prop, H a = some (.ext φ) ∧ ∀ h, φ h → ∃ (o : Obj) (vs : Array Value), h.get? a = some o ∧ Zc (.ref D) none o ∧ o.data = .fields vs
theorem ExcAt.kept {H : Hp} {a D : Addr} (e : H a = some (KeptO (.ref D) none a)) : ExcAt H a D := ⟨_, e, fun _ z => z⟩
theorem ExcAt.ex {H H' : Hp} {a D : Addr} (h : ExcAt H a D) (e : Evl.Ex H H') : ExcAt H' a D := by
  obtain ⟨φ, h1, h2⟩ := h
  exact ⟨φ, e _ _ h1, h2⟩
/-- isinstance(x, c), x an exception that is told -/
def rIsK (K : PySem.W.Frag) : List V → Hp → VK → Prop := fun xs H Q => ∃ (a D : Addr) (c : V) (cv : Value) (b : Bool), xs = [.ref a, c] ∧ ExcAt H a D ∧ ExcC K D ∧ (∀ u, RelV c u → u = cv) ∧ PySem.W.kitOne K (.ref D) cv = some b ∧ Q (.bl b) H
theorem call_isK {X : Cx} : CallR X (.builtin "isinstance") (rIsK X.K) := by
  intro pins s σ H xs us Q I r h
  obtain ⟨a, D, c, cv, b, rfl, ⟨φ, ha, hφ⟩, C, hcv, e, q⟩ := h
  match us, r with
  | [_, _], .cons rx (.cons rt .nil) =>
    cases rx
    obtain rfl := hcv _ rt
    obtain ⟨o, vs, hg, hz, hd⟩ := hφ _ (I.hok a _ ha).1
    have J : PySem.W.InstAt s.heap a o D none := by
      obtain ⟨oc, od, oda, osl⟩ := o
      obtain ⟨h1, h2⟩ := hz
      dsimp only at h1 h2 hd
      subst h1 h2 hd
      exact ⟨hg, rfl, rfl, trivial⟩
    exact PySem.W.kia_one (PySem.W.handS_kitx_exc C.hg C.hk C.hs C.hd C.ha C.hn C.ht C.hm) I.kIn J e (fun z => nomatch z) fun tk => ⟨.bl b, H, I.kept (t' := tk) fun _ _ z => z, rfl, q⟩
theorem relC {C : Addr} {u : Value} (r : RelV (.ref C) u) : u = .ref C := r
theorem r_isK {K : PySem.W.Frag} {H : Hp} {Q : VK} {a D C : Addr} {b : Bool} (h : ExcAt H a D) (e : ExcC K D) (k : PySem.W.kitOne K (.ref D) (.ref C) = some b) (q : Q (.bl b) H) : rIsK K [.ref a, .ref C] H Q := ⟨a, D, _, _, b, rfl, h, e, fun _ r => r, k, q⟩
/-! ### xs.count(y), flat values -/
def rCntV (K : PySem.W.Frag) : V → List V → Hp → VK → Prop := fun x xs H Q => ∃ (p : Addr) (ys : List V) (y : V), x = .ref p ∧ xs = [y] ∧ SqL K H p ys ∧ flatV y = true ∧ ys.all flatV = true ∧ Q (.int ((ys.countP fun z => eqV z y : Nat) : Int)) H
theorem cnt_eqU {y : V} : ∀ {ys : List V} {us : List Value}, Vals ys us → ys.all flatV = true → us.countP (eqU y) = ys.countP fun z => eqV z y
  | _, _, .nil, _ => rfl
  | z :: ys, u :: us, .cons r t, f => by
    rw [List.all_cons, Bool.and_eq_true] at f
    rw [List.countP_cons, List.countP_cons, eqU_of r f.1, cnt_eqU t f.2]
theorem mt_cntV {X : Cx} : MtR X "list.count" (rCntV X.K) := by
  intro pins s σ H x xs v us Q I rx rxs h
  obtain ⟨p, ys, y, rfl, rfl, hs, fy, fys, q⟩ := h
  cases rx
  obtain ⟨u, rfl, ru⟩ := rxs.one
  obtain ⟨its, rv, ⟨⟨cls, dd, data, sl⟩, n, ho, hc, hdn, hd⟩, hlen⟩ := I.list hs
  simp only at hc hd
  subst hc hd
  refine call_meets PySem.F.slot_list_count ⟨_, ho, rfl⟩ PySem.F.entry_list_count (PySem.F.args_list_count_2 _ _) (SeqAt.list_countAt p its.toArray n dd sl u (eqU y)) ⟨ho, fun w hw => mem_eqAt ru fy rv fys w (by simpa using hw), ?_⟩
  have ec : its.toArray.toList.countP (eqU y) = ys.countP fun z => eqV z y := cnt_eqU rv fys
  exact ⟨.int ((ys.countP fun z => eqV z y : Nat) : Int), H, I.tok _, ⟨s.toks, congrArg (fun m : Nat => Value.int (m : Int) s.toks) ec⟩, q⟩
/-! ### the classes' facts, from the written part's answers -/
theorem kit_self {K : PySem.W.Frag} {C : Addr} : PySem.W.kitOne K (.ref C) (.ref C) = some true := by
  unfold PySem.W.kitOne
  rw [if_pos (beq_iff_eq.mpr rfl)]
theorem kit_ne {K : PySem.W.Frag} {D C : Addr} {b : Bool} (h0 : D ≠ C) (h1 : PySem.W.hasDictIn K C = true) (h2 : PySem.W.typeIn K (.ref C) = some (.type "type")) (h3 : PySem.W.subIn K (.ref D) (.ref C) = some b) : PySem.W.kitOne K (.ref D) (.ref C) = some b := by
  obtain ⟨cd, hc, _⟩ := PySem.W.any_some h1
  unfold PySem.W.kitOne
  rw [if_neg (fun z => h0 (Value.ref.inj (beq_iff_eq.mp z)))]
  unfold PySem.W.kitCls
  simp only
  rw [if_pos (by rw [hc, h2]; rfl)]
  exact h3
theorem kit_type {K : PySem.W.Frag} {D : Addr} {t : String} {b : Bool} (h1 : PySem.W.kitMeta t = true) (h3 : PySem.W.subIn K (.ref D) (.type t) = some b) : PySem.W.kitOne K (.ref D) (.type t) = some b := by
  unfold PySem.W.kitOne
  rw [if_neg (fun z => by have := beq_iff_eq.mp z; cases this)]
  unfold PySem.W.kitCls
  simp only
  rw [if_pos h1]
  exact h3
/-! ### a heap of two parts: what stays (F) and what is one's own (M) -/
/-- what is told of a cell of one's own: an object, the law's pot -/
inductive Cel where
  | is (o : HO)
  | pot
def PotS (F H : Hp) (p : Addr) : Prop := ∃ (c : Addr) (cs : List Int) (at' r : Int), H p = some (.lst [.ref c, .int at', .int r]) ∧ F c = some (.lst (cs.map V.int)) ∧ 0 ≤ at' ∧ 0 ≤ r ∧ cs.length ≤ 100
def Cel.ok (io : List Addr) (H0 F H : Hp) (a : Addr) : Cel → Prop
  | .is o => H a = some o ∧ H0 a = none
  | .pot => PotS F H a ∧ (a ∈ io ∨ H0 a = none)
/-- io: cells of the caller's that may be written; H0, F0: at the entry; F: what stays; M: one's own -/
structure Sep (io : List Addr) (H0 F0 F H : Hp) (M : List (Addr × Cel)) : Prop where
  old : ∀ a o, H0 a = some o → a ∉ io → H a = some o
  nn : ∀ a, H a = none → H0 a = none
  gr : Evl.Ex F0 F
  gn : ∀ a, F a ≠ none → F0 a ≠ none ∨ H0 a = none
  fr : Evl.Ex F H
  own : ∀ m ∈ M, m.2.ok io H0 F H m.1 ∧ F m.1 = none
  nd : (M.map (·.1)).Nodup
theorem Cel.nz {io : List Addr} {H0 F H : Hp} {a : Addr} {c : Cel} (h : c.ok io H0 F H a) : H a ≠ none := by
  cases c with
  | is o => intro e; rw [h.1] at e; cases e
  | pot => obtain ⟨⟨c, cs, x, r, h, _⟩, _⟩ := h; intro e; rw [h] at e; cases e
theorem Cel.mono {io : List Addr} {H0 F H F' H' : Hp} {a : Addr} {c : Cel} (h : c.ok io H0 F H a) (e : Evl.Ex F F') (k : ∀ o, H a = some o → H' a = some o) : c.ok io H0 F' H' a := by
  cases c with
  | is o => exact ⟨k _ h.1, h.2⟩
  | pot => obtain ⟨⟨c, cs, x, r, h1, h2, h3⟩, h4⟩ := h; exact ⟨⟨c, cs, x, r, k _ h1, e _ _ h2, h3⟩, h4⟩
theorem Hp.ne {H : Hp} {a b : Addr} (h : H a ≠ none) (g : H b = none) : a ≠ b := fun e => h (by rw [e]; exact g)
theorem Hp.some_ne {H : Hp} {a : Addr} {o : HO} (h : H a = some o) : H a ≠ none := fun e => by rw [h] at e; cases e
section
variable {io : List Addr} {H0 F0 F H F1 : Hp} {M N : List (Addr × Cel)} {K : PySem.W.Frag} {a p : Addr} {o : HO} {xs : List V} {v : V} {d : PyData}
theorem Sep.start0 (fr : Evl.Ex F H) : Sep [] H F F H [] := ⟨fun _ _ h _ => h, fun _ h => h, Evl.Ex.refl _, fun _ h => .inl h, fr, fun m hm => (by cases hm), List.nodup_nil⟩
theorem Sep.startP (fr : Evl.Ex F H) (hF : F p = none) (hp : PotS F H p) : Sep [p] H F F H [(p, .pot)] :=
  ⟨fun _ _ h _ => h, fun _ h => h, Evl.Ex.refl _, fun _ h => .inl h, fr, fun m hm => by
    rw [List.mem_singleton] at hm
    subst hm
    exact ⟨⟨hp, .inl List.mem_cons_self⟩, hF⟩, by simp⟩
theorem Sep.fnone (S : Sep io H0 F0 F H M) (h : H a = none) : F a = none := by
  cases e : F a with
  | none => rfl
  | some o => rw [S.fr a o e] at h; cases h
theorem Sep.newF (S : Sep io H0 F0 F H M) (hp : H p = none) (o : HO) : Sep io H0 F0 (upd F p o) (upd H p o) M := by
  have fp := S.fnone hp
  refine ⟨fun a u h n => ?_, fun a h => ?_, S.gr.trans (Evl.Ex.new fp), fun a h => ?_, fun a u h => ?_, fun m hm => ?_, S.nd⟩
  · have q := S.old a u h n
    rw [upd_ne (Hp.ne (Hp.some_ne q) hp)]
    exact q
  · by_cases e : a = p
    · subst e; rw [upd_same] at h; cases h
    · rw [upd_ne e] at h; exact S.nn a h
  · by_cases e : a = p
    · subst e; exact .inr (S.nn a hp)
    · rw [upd_ne e] at h; exact S.gn a h
  · by_cases e : a = p
    · subst e; rw [upd_same] at h ⊢; exact h
    · rw [upd_ne e] at h ⊢; exact S.fr a u h
  · obtain ⟨h1, h2⟩ := S.own m hm
    have ne := Hp.ne (Cel.nz h1) hp
    exact ⟨Cel.mono h1 (Evl.Ex.new fp) fun u hu => by rw [upd_ne ne]; exact hu, by rw [upd_ne ne]; exact h2⟩
theorem Sep.newM (S : Sep io H0 F0 F H M) (hp : H p = none) (o : HO) : Sep io H0 F0 F (upd H p o) ((p, .is o) :: M) := by
  have fp := S.fnone hp
  have far : ∀ m ∈ M, m.1 ≠ p := fun m hm => Hp.ne (Cel.nz (S.own m hm).1) hp
  refine ⟨fun a u h n => ?_, fun a h => ?_, S.gr, S.gn, fun a u h => ?_, fun m hm => ?_, ?_⟩
  · have q := S.old a u h n
    rw [upd_ne (Hp.ne (Hp.some_ne q) hp)]
    exact q
  · by_cases e : a = p
    · subst e; rw [upd_same] at h; cases h
    · rw [upd_ne e] at h; exact S.nn a h
  · have q := S.fr a u h
    rw [upd_ne (Hp.ne (Hp.some_ne q) hp)]
    exact q
  · rcases List.mem_cons.mp hm with rfl | hm
    · exact ⟨⟨upd_same, S.nn p hp⟩, fp⟩
    · obtain ⟨h1, h2⟩ := S.own m hm
      exact ⟨Cel.mono h1 (Evl.Ex.refl _) fun u hu => by rw [upd_ne (far m hm)]; exact hu, h2⟩
  · rw [List.map_cons]
    refine List.nodup_cons.mpr ⟨fun h => ?_, S.nd⟩
    obtain ⟨m, hm, e⟩ := List.mem_map.mp h
    exact far m hm e
theorem mem_of_k {α : Type} {l : List α} {k : Nat} {x : α} (h : l[k]? = some x) : x ∈ l := List.mem_of_getElem? h
theorem nd_of_ne {M : List (Addr × Cel)} (h : (M.map (·.1)).Nodup) {k j : Nat} {x y : Addr × Cel} (hk : M[k]? = some x) (hj : M[j]? = some y) (ne : j ≠ k) : y.1 ≠ x.1 := fun e => by
  have h1 : (M.map (·.1))[k]? = some x.1 := by rw [List.getElem?_map, hk]; rfl
  have h2 : (M.map (·.1))[j]? = some x.1 := by rw [List.getElem?_map, hj]; exact congrArg some e
  exact ne (nd_ix' h h2 h1)
theorem set_map_fst {M : List (Addr × Cel)} {k : Nat} {a : Addr} {c c' : Cel} (hk : M[k]? = some (a, c)) : (M.set k (a, c')).map (·.1) = M.map (·.1) := by
  rw [List.map_set]
  refine List.ext_getElem? fun j => ?_
  by_cases e : j = k
  · subst e
    have lt : j < M.length := (List.getElem?_eq_some_iff.mp hk).1
    rw [List.getElem?_set_self (by rw [List.length_map]; exact lt), List.getElem?_map, hk]
    rfl
  · rw [List.getElem?_set_ne (Ne.symm e)]
/-- a cell of one's own is written -/
theorem Sep.put (S : Sep io H0 F0 F H M) (k : Nat) {u : HO} (hk : M[k]? = some (a, .is u)) (o : HO) : Sep io H0 F0 F (upd H a o) (M.set k (a, .is o)) := by
  obtain ⟨⟨g1, g2⟩, g3⟩ := S.own _ (mem_of_k hk)
  refine ⟨fun b u h n => ?_, fun b h => ?_, S.gr, S.gn, fun b u h => ?_, fun m hm => ?_, ?_⟩
  · rw [upd_ne (Hp.ne (Hp.some_ne h) g2)]
    exact S.old b u h n
  · by_cases e : b = a
    · subst e; exact g2
    · rw [upd_ne e] at h; exact S.nn b h
  · rw [upd_ne (Hp.ne (Hp.some_ne h) g3)]
    exact S.fr b u h
  · obtain ⟨j, hj⟩ := List.mem_iff_getElem?.mp hm
    by_cases e : j = k
    · subst e
      rw [List.getElem?_set_self (List.getElem?_eq_some_iff.mp hk).1] at hj
      cases hj
      exact ⟨⟨upd_same, g2⟩, g3⟩
    · rw [List.getElem?_set_ne (Ne.symm e)] at hj
      obtain ⟨h1, h2⟩ := S.own m (mem_of_k hj)
      have ne := nd_of_ne S.nd hk hj e
      exact ⟨Cel.mono h1 (Evl.Ex.refl _) fun w hw => by rw [upd_ne ne]; exact hw, h2⟩
  · rw [set_map_fst hk]
    exact S.nd
/-- from now on it stays -/
theorem Sep.frz (S : Sep io H0 F0 F H M) (k : Nat) (hk : M[k]? = some (a, .is o)) : ∃ F', Sep io H0 F0 F' H (M.eraseIdx k) ∧ Evl.Ex F F' ∧ F' a = some o := by
  obtain ⟨⟨g1, g2⟩, g3⟩ := S.own _ (mem_of_k hk)
  refine ⟨upd F a o, ⟨S.old, S.nn, S.gr.trans (Evl.Ex.new g3), fun b h => ?_, fun b u h => ?_, fun m hm => ?_, ?_⟩, Evl.Ex.new g3, upd_same⟩
  · by_cases e : b = a
    · subst e; exact .inr g2
    · rw [upd_ne e] at h; exact S.gn b h
  · by_cases e : b = a
    · subst e; rw [upd_same] at h; cases h; exact g1
    · rw [upd_ne e] at h; exact S.fr b u h
  · have lt : k < M.length := (List.getElem?_eq_some_iff.mp hk).1
    obtain ⟨j, hj⟩ := List.mem_iff_getElem?.mp hm
    rw [List.getElem?_eraseIdx] at hj
    obtain ⟨j', ne, hj⟩ : ∃ j', j' ≠ k ∧ M[j']? = some m := by
      split at hj
      · exact ⟨j, by omega, hj⟩
      · exact ⟨j + 1, by omega, hj⟩
    obtain ⟨h1, h2⟩ := S.own m (mem_of_k hj)
    have ne := nd_of_ne S.nd hk hj ne
    exact ⟨Cel.mono h1 (Evl.Ex.new g3) fun w hw => hw, by rw [upd_ne ne]; exact h2⟩
  · exact S.nd.sublist ((List.eraseIdx_sublist M k).map _)
theorem Sep.sub (S : Sep io H0 F0 F H M) (h : N.Sublist M) : Sep io H0 F0 F H N :=
  ⟨S.old, S.nn, S.gr, S.gn, S.fr, fun m hm => S.own m (h.subset hm), S.nd.sublist (h.map _)⟩
theorem Sep.nil (S : Sep io H0 F0 F H M) : Sep io H0 F0 F H [] := S.sub (List.nil_sublist _)
theorem Sep.drop (S : Sep io H0 F0 F H M) (k : Nat) : Sep io H0 F0 F H (M.eraseIdx k) := S.sub (List.eraseIdx_sublist M k)
theorem Sep.topot (S : Sep io H0 F0 F H M) (k : Nat) (hk : M[k]? = some (p, .is o)) (h : PotS F H p) : Sep io H0 F0 F H (M.set k (p, .pot)) := by
  obtain ⟨⟨g1, g2⟩, g3⟩ := S.own _ (mem_of_k hk)
  refine ⟨S.old, S.nn, S.gr, S.gn, S.fr, fun m hm => ?_, ?_⟩
  · obtain ⟨j, hj⟩ := List.mem_iff_getElem?.mp hm
    by_cases e : j = k
    · subst e
      rw [List.getElem?_set_self (List.getElem?_eq_some_iff.mp hk).1] at hj
      cases hj
      exact ⟨⟨h, .inr g2⟩, g3⟩
    · rw [List.getElem?_set_ne (Ne.symm e)] at hj
      exact S.own m (mem_of_k hj)
  · rw [set_map_fst hk]
    exact S.nd
/-- the pot is written -/
theorem Sep.putPot (S : Sep io H0 F0 F H M) (k : Nat) (hk : M[k]? = some (p, .pot)) (o : HO) (hP : PotS F (upd H p o) p) : Sep io H0 F0 F (upd H p o) M := by
  obtain ⟨⟨g1, g2⟩, g3⟩ := S.own _ (mem_of_k hk)
  refine ⟨fun b u h n => ?_, fun b h => ?_, S.gr, S.gn, fun b u h => ?_, fun m hm => ?_, S.nd⟩
  · have ne : b ≠ p := fun e => by
      rw [e] at h n
      rcases g2 with z | z
      · exact n z
      · rw [h] at z; cases z
    rw [upd_ne ne]
    exact S.old b u h n
  · by_cases e : b = p
    · rw [e, upd_same] at h; cases h
    · rw [upd_ne e] at h; exact S.nn b h
  · rw [upd_ne (Hp.ne (Hp.some_ne h) g3)]
    exact S.fr b u h
  · obtain ⟨j, hj⟩ := List.mem_iff_getElem?.mp hm
    by_cases e : j = k
    · subst e
      rw [hk] at hj
      cases hj
      exact ⟨⟨hP, g2⟩, g3⟩
    · obtain ⟨h1, h2⟩ := S.own m (mem_of_k hj)
      have ne := nd_of_ne S.nd hk hj e
      exact ⟨Cel.mono h1 (Evl.Ex.refl _) fun w hw => by rw [upd_ne ne]; exact hw, h2⟩
/-- a call that writes nothing of ours -/
theorem Sep.comp (S : Sep io H0 F0 F H M) {F' H' : Hp} (S' : Sep [] H F F' H' N) : Sep io H0 F0 F' H' (N ++ M) := by
  have ex : ∀ a o, H a = some o → H' a = some o := fun a o h => S'.old a o h (by simp)
  refine ⟨fun a u h n => ex a u (S.old a u h n), fun a h => S.nn a (S'.nn a h), S.gr.trans S'.gr, fun a h => ?_, S'.fr, fun m hm => ?_, ?_⟩
  · rcases S'.gn a h with z | z
    · exact S.gn a z
    · exact .inr (S.nn a z)
  · rcases List.mem_append.mp hm with hm | hm
    · obtain ⟨h1, h2⟩ := S'.own m hm
      refine ⟨?_, h2⟩
      obtain ⟨x, c⟩ := m
      cases c with
      | is o => exact ⟨h1.1, S.nn _ h1.2⟩
      | pot =>
        obtain ⟨q, z | z⟩ := h1
        · cases z
        · exact ⟨q, .inr (S.nn _ z)⟩
    · obtain ⟨h1, h2⟩ := S.own m hm
      refine ⟨Cel.mono h1 S'.gr (ex _), ?_⟩
      cases e : F' m.1 with
      | none => rfl
      | some u =>
        rcases S'.gn m.1 (Hp.some_ne e) with z | z
        · exact absurd h2 z
        · exact absurd z (Cel.nz h1)
  · rw [List.map_append]
    refine List.nodup_append.mpr ⟨S'.nd, S.nd, ?_⟩
    intro x hx y hy e
    obtain ⟨m, hm, rfl⟩ := List.mem_map.mp hx
    obtain ⟨n, hn, rfl⟩ := List.mem_map.mp hy
    have h1 := (S'.own m hm).1
    have h2 := Cel.nz (S.own n hn).1
    obtain ⟨x, c⟩ := m
    cases c with
    | is o => exact h2 (by rw [← e]; exact h1.2)
    | pot =>
      obtain ⟨q, z | z⟩ := h1
      · cases z
      · exact h2 (by rw [← e]; exact z)
/-- a call that writes the pot -/
theorem Sep.compP (S : Sep io H0 F0 F H M) (k : Nat) (hk : M[k]? = some (p, .pot)) {F' H' : Hp} (S' : Sep [p] H F F' H' (N ++ [(p, .pot)])) : Sep io H0 F0 F' H' (N ++ M) := by
  obtain ⟨⟨g1, g2⟩, g3⟩ := S.own _ (mem_of_k hk)
  have ex : ∀ a o, a ≠ p → H a = some o → H' a = some o := fun a o n h => S'.old a o h (by simpa using n)
  have hp0 : H p ≠ none := by obtain ⟨_, _, _, _, h, _⟩ := g1; rw [h]; intro z; cases z
  have pp := S'.own (p, .pot) (List.mem_append_right _ (List.mem_singleton.mpr rfl))
  have np : ∀ m ∈ N, m.1 ≠ p := fun m hm e => by
    have nd := S'.nd
    rw [List.map_append] at nd
    exact (List.nodup_append.mp nd).2.2 m.1 (List.mem_map_of_mem hm) p (by simp) e
  refine ⟨fun a u h n => ?_, fun a h => S.nn a (S'.nn a h), S.gr.trans S'.gr, fun a h => ?_, S'.fr, fun m hm => ?_, ?_⟩
  · refine ex a u (fun e => ?_) (S.old a u h n)
    subst e
    rcases g2 with z | z
    · exact n z
    · rw [h] at z; cases z
  · rcases S'.gn a h with z | z
    · exact S.gn a z
    · exact .inr (S.nn a z)
  · rcases List.mem_append.mp hm with hm | hm
    · obtain ⟨h1, h2⟩ := S'.own m (List.mem_append_left _ hm)
      have n := np m hm
      refine ⟨?_, h2⟩
      obtain ⟨x, c⟩ := m
      cases c with
      | is o => exact ⟨h1.1, S.nn _ h1.2⟩
      | pot =>
        obtain ⟨q, z | z⟩ := h1
        · exact absurd (List.mem_singleton.mp z) n
        · exact ⟨q, .inr (S.nn _ z)⟩
    · obtain ⟨j, hj⟩ := List.mem_iff_getElem?.mp hm
      by_cases e : j = k
      · subst e
        rw [hk] at hj
        cases hj
        exact ⟨⟨pp.1.1, g2⟩, pp.2⟩
      · obtain ⟨h1, h2⟩ := S.own m hm
        refine ⟨Cel.mono h1 S'.gr fun u hu => ex _ u (nd_of_ne S.nd hk hj e) hu, ?_⟩
        cases q : F' m.1 with
        | none => rfl
        | some u =>
          rcases S'.gn m.1 (Hp.some_ne q) with z | z
          · exact absurd h2 z
          · exact absurd z (Cel.nz h1)
  · rw [List.map_append]
    refine List.nodup_append.mpr ⟨S'.nd.sublist ((List.sublist_append_left N _).map _), S.nd, ?_⟩
    intro x hx y hy e
    obtain ⟨m, hm, rfl⟩ := List.mem_map.mp hx
    obtain ⟨n, hn, rfl⟩ := List.mem_map.mp hy
    have h1 := (S'.own m (List.mem_append_left _ hm)).1
    have h2 := Cel.nz (S.own n hn).1
    have n' := np m hm
    obtain ⟨x, c⟩ := m
    cases c with
    | is o => exact h2 (by rw [← e]; exact h1.2)
    | pot =>
      obtain ⟨q, z | z⟩ := h1
      · exact absurd (List.mem_singleton.mp z) n'
      · exact h2 (by rw [← e]; exact z)
/-! reading -/
theorem Sep.rdL (S : Sep io H0 F0 F H M) (e : Evl.Ex F1 F) (h : SqL K F1 a xs) : SqL K H a xs := Evl.ex_l S.fr (Evl.ex_l e h)
theorem Sep.rdT (S : Sep io H0 F0 F H M) (e : Evl.Ex F1 F) (h : SqT K F1 a xs) : SqT K H a xs := Evl.ex_t S.fr (Evl.ex_t e h)
theorem Sep.rdC (S : Sep io H0 F0 F H M) (e : Evl.Ex F1 F) (h : F1 a = some o) : H a = some o := S.fr _ _ (e _ _ h)
theorem Sep.rdM (S : Sep io H0 F0 F H M) (k : Nat) (h : M[k]? = some (a, .is o)) : H a = some o := (S.own _ (mem_of_k h)).1.1
theorem Sep.rdD (S : Sep io H0 F0 F H M) (e : Evl.Ex F1 F) (h : Dp K F1 v d) : Dp K H v d := Dp.ex S.fr _ _ (Dp.ex e _ _ h)
theorem Sep.ex (S : Sep [] H0 F0 F H M) : Evl.Ex H0 H := fun a o h => S.old a o h (by simp)
end
/-! ### new things -/
def newK (H : Hp) (o : HO) (Q : VK) : Prop := ∀ p, H p = none → Q (.ref p) (upd H p o)
section
variable {io : List Addr} {H0 F0 F H : Hp} {M : List (Addr × Cel)} {K : PySem.W.Frag} {o : HO} {Q : VK} {σ : L2.St} {ta : TA} {te : TE}
theorem s_new (S : Sep io H0 F0 F H M) (k : ∀ p F' H', Sep io H0 F0 F' H' M → Evl.Ex F F' → F' p = some o → Q (.ref p) H') : newK H o Q := fun p hp =>
  k p _ _ (S.newF hp o) (Evl.Ex.new (S.fnone hp)) upd_same
theorem s_own (S : Sep io H0 F0 F H M) (k : ∀ p H', Sep io H0 F0 F H' ((p, .is o) :: M) → Q (.ref p) H') : newK H o Q := fun p hp => k p _ (S.newM hp o)
theorem s_tup (h : ta σ H fun xs H1 => xs.length ≤ sizeLine ∧ newK H1 (.tup xs) Q) : tTup ta σ H Q := h
theorem s_lst (h : ta σ H fun xs H1 => xs.length ≤ sizeLine ∧ newK H1 (.lst xs) Q) : tLst ta σ H Q := h
end
/-! ### calls -/
def SpF {α : Type} (A : α → List V → Hp → Prop) (B : α → V → List (Addr × Cel) → Hp → Prop) : Sp := fun vs H Q _ => ∃ (x : α) (F : Hp), Evl.Ex F H ∧ A x vs F ∧
  ∀ (v : V) (N : List (Addr × Cel)) (F' H' : Hp), Sep [] H F F' H' N → B x v N F' → Q v H'
def SpP {α : Type} (A : α → List V → Hp → Prop) (B : α → V → List (Addr × Cel) → Hp → Prop) : Sp := fun vs H Q _ => ∃ (x : α) (F : Hp) (p : Addr) (r : List V), vs = .ref p :: r ∧ Evl.Ex F H ∧ F p = none ∧ PotS F H p ∧ A x r F ∧
  ∀ (v : V) (N : List (Addr × Cel)) (F' H' : Hp), Sep [p] H F F' H' (N ++ [(p, .pot)]) → B x v N F' → Q v H'
section
variable {io : List Addr} {H0 F0 F H : Hp} {M : List (Addr × Cel)} {Q : VK} {E : XK} {α : Type} {A : α → List V → Hp → Prop} {B : α → V → List (Addr × Cel) → Hp → Prop} {vs : List V} {p : Addr}
theorem r_callF (S : Sep io H0 F0 F H M) (x : α) (a : A x vs F) (k : ∀ v N F' H', Sep io H0 F0 F' H' (N ++ M) → Evl.Ex F F' → B x v N F' → Q v H') : SpF A B vs H Q E :=
  ⟨x, F, S.fr, a, fun v N F' H' S' b => k v N F' H' (S.comp S') S'.gr b⟩
theorem r_callP (S : Sep io H0 F0 F H M) (j : Nat) (hj : M[j]? = some (p, .pot)) (x : α) (a : A x vs F) (k : ∀ v N F' H', Sep io H0 F0 F' H' (N ++ M) → Evl.Ex F F' → B x v N F' → Q v H') : SpP A B (.ref p :: vs) H Q E :=
  ⟨x, F, p, vs, rfl, S.fr, (S.own _ (mem_of_k hj)).2, (S.own _ (mem_of_k hj)).1.1, a, fun v N F' H' S' b => k v N F' H' (S.compP j hj S') S'.gr b⟩
end
/-! ### loops -/
/-- at turn i of a loop -/
def LI (io : List Addr) (H0 F0 F : Hp) (I : Nat → L2.St → Hp → List (Addr × Cel) → Prop) (i : Nat) : L2.St → Hp → Prop := fun σ H => ∃ F' M', Sep io H0 F0 F' H M' ∧ Evl.Ex F F' ∧ I i σ F' M'
theorem LI.mk {io : List Addr} {H0 F0 F F' H : Hp} {M : List (Addr × Cel)} {I : Nat → L2.St → Hp → List (Addr × Cel) → Prop} {i : Nat} {σ : L2.St} (S : Sep io H0 F0 F' H M) (e : Evl.Ex F F') (h : I i σ F' M) : LI io H0 F0 F I i σ H := ⟨F', M, S, e, h⟩
section
variable {io : List Addr} {H0 F0 F H : Hp} {M : List (Addr × Cel)} {K : PySem.W.Frag} {g : TG} {tb : TS} {D : Ends} {σ : L2.St} {a b : Addr} {xs ys : List V} {ns : List Int} {ds : List PyData} (I : Nat → L2.St → Hp → List (Addr × Cel) → Prop)
abbrev Body (io : List Addr) (H0 F0 F : Hp) (I : Nat → L2.St → Hp → List (Addr × Cel) → Prop) (D : Ends) (g : TG) (tb : TS) (i : Nat) (x : V) (σ' : L2.St) (H' : Hp) : Prop :=
  g x σ' H' fun σ2 H2 => tb { D with nx := LI io H0 F0 F I (i + 1), ct := LI io H0 F0 F I (i + 1), bk := D.nx } σ2 H2
abbrev ForW (J : It) (D : Ends) (g : TG) (tb : TS) (σ : L2.St) (H : Hp) : Prop := ∃ W : Nat → Nat → L2.St → Hp → Prop, (∃ m, W 0 m σ H) ∧ ∀ i m σ H, W i m σ H →
      (J.stop i H ∧ D.nx σ H) ∨ (J.go i H ∧ ∃ N : L2.St → Hp → Prop, (∀ σ' H', N σ' H' → ∃ m', m' < m ∧ W (i + 1) m' σ' H') ∧ ∀ x H', J.yld i H x H' → g x σ H' fun σ2 H2 => tb { D with nx := N, ct := N, bk := D.nx } σ2 H2)
/-- over a list that stays -/
theorem s_forL (S : Sep io H0 F0 F H M) (hs : SqL K F a xs) (h0 : I 0 σ F M)
    (hb : ∀ i x σ' F' H' M', xs[i]? = some x → Sep io H0 F0 F' H' M' → Evl.Ex F F' → I i σ' F' M' → Body io H0 F0 F I D g tb i x σ' H')
    (hd : ∀ σ' F' H' M', Sep io H0 F0 F' H' M' → Evl.Ex F F' → I xs.length σ' F' M' → D.nx σ' H') : ForW (Itl K a) D g tb σ H := by
  refine for_it (walk_list (xs := xs)) (LI io H0 F0 F I) ⟨F, M, S, Evl.Ex.refl _, h0⟩ ?_ ?_ ?_
  · rintro i σ' H' _ ⟨F', M', S', e, _⟩
    exact S'.rdL e hs
  · rintro i x σ' H' H'' hi ⟨F', M', S', e, h⟩ ⟨rfl, ex⟩
    exact hb i x σ' F' H'' M' ex S' e h
  · rintro σ' H' ⟨F', M', S', e, h⟩
    exact hd σ' F' H' M' S' e h
/-- over a list that is told at each turn -/
theorem s_forO (S : Sep io H0 F0 F H M) (h0 : I 0 σ F M) (hs : ∀ i σ' F' H' M', Sep io H0 F0 F' H' M' → Evl.Ex F F' → I i σ' F' M' → SqL K H' a xs)
    (hb : ∀ i x σ' F' H' M', xs[i]? = some x → Sep io H0 F0 F' H' M' → Evl.Ex F F' → I i σ' F' M' → Body io H0 F0 F I D g tb i x σ' H')
    (hd : ∀ σ' F' H' M', Sep io H0 F0 F' H' M' → Evl.Ex F F' → I xs.length σ' F' M' → D.nx σ' H') : ForW (Itl K a) D g tb σ H := by
  refine for_it (walk_list (xs := xs)) (LI io H0 F0 F I) ⟨F, M, S, Evl.Ex.refl _, h0⟩ ?_ ?_ ?_
  · rintro i σ' H' _ ⟨F', M', S', e, h⟩
    exact hs i σ' F' H' M' S' e h
  · rintro i x σ' H' H'' hi ⟨F', M', S', e, h⟩ ⟨rfl, ex⟩
    exact hb i x σ' F' H'' M' ex S' e h
  · rintro σ' H' ⟨F', M', S', e, h⟩
    exact hd σ' F' H' M' S' e h
theorem s_forT (S : Sep io H0 F0 F H M) (hs : SqT K F a xs) (h0 : I 0 σ F M)
    (hb : ∀ i x σ' F' H' M', xs[i]? = some x → Sep io H0 F0 F' H' M' → Evl.Ex F F' → I i σ' F' M' → Body io H0 F0 F I D g tb i x σ' H')
    (hd : ∀ σ' F' H' M', Sep io H0 F0 F' H' M' → Evl.Ex F F' → I xs.length σ' F' M' → D.nx σ' H') : ForW (Itt K a) D g tb σ H := by
  refine for_it (walk_tup (xs := xs)) (LI io H0 F0 F I) ⟨F, M, S, Evl.Ex.refl _, h0⟩ ?_ ?_ ?_
  · rintro i σ' H' _ ⟨F', M', S', e, _⟩
    exact S'.rdT e hs
  · rintro i x σ' H' H'' hi ⟨F', M', S', e, h⟩ ⟨rfl, ex⟩
    exact hb i x σ' F' H'' M' ex S' e h
  · rintro σ' H' ⟨F', M', S', e, h⟩
    exact hd σ' F' H' M' S' e h
theorem s_forR {lo : Int} {n : Nat} (S : Sep io H0 F0 F H M) (h0 : I 0 σ F M)
    (hb : ∀ i σ' F' H' M', i < n → Sep io H0 F0 F' H' M' → Evl.Ex F F' → I i σ' F' M' → Body io H0 F0 F I D g tb i (.int (lo + (i : Int))) σ' H')
    (hd : ∀ σ' F' H' M', Sep io H0 F0 F' H' M' → Evl.Ex F F' → I n σ' F' M' → D.nx σ' H') : ForW (Itr lo n) D g tb σ H := by
  refine for_it walk_range (LI io H0 F0 F I) ⟨F, M, S, Evl.Ex.refl _, h0⟩ (fun _ _ _ _ _ => trivial) ?_ ?_
  · rintro i x σ' H' H'' hi ⟨F', M', S', e, h⟩ ⟨rfl, rfl⟩
    exact hb i σ' F' H'' M' hi S' e h
  · rintro σ' H' ⟨F', M', S', e, h⟩
    exact hd σ' F' H' M' S' e h
/-- enumerate(list): a new pair each turn -/
theorem s_forE (S : Sep io H0 F0 F H M) (hs : SqL K F a xs) (h0 : I 0 σ F M)
    (hb : ∀ (i : Nat) (x : V) t σ' F1 F' H' M', xs[i]? = some x → Sep io H0 F0 F' H' M' → Evl.Ex F F1 → Evl.Ex F1 F' → F' t = some (.tup [.int (i : Int), x]) → I i σ' F1 M' → Body io H0 F0 F I D g tb i (.ref t) σ' H')
    (hd : ∀ σ' F' H' M', Sep io H0 F0 F' H' M' → Evl.Ex F F' → I xs.length σ' F' M' → D.nx σ' H') : ForW (Ite K a) D g tb σ H := by
  refine for_it (walk_enum (xs := xs)) (LI io H0 F0 F I) ⟨F, M, S, Evl.Ex.refl _, h0⟩ ?_ ?_ ?_
  · rintro i σ' H' _ ⟨F', M', S', e, _⟩
    exact S'.rdL e hs
  · rintro i x σ' H' H'' hi ⟨F', M', S', e, h⟩ ⟨t, x1, x2, rfl, ht, rfl, e1, e2⟩
    cases e1
    exact hb i x2 t σ' F' _ _ M' e2 (S'.newF ht _) e (Evl.Ex.new (S'.fnone ht)) upd_same h
  · rintro σ' H' ⟨F', M', S', e, h⟩
    exact hd σ' F' H' M' S' e h
/-- zip of two lists -/
theorem s_forZ {n : Nat} (hn : n = min xs.length ys.length) (S : Sep io H0 F0 F H M) (hs : SqL K F a xs) (hy : SqL K F b ys) (h0 : I 0 σ F M)
    (hb : ∀ i x y t σ' F1 F' H' M', xs[i]? = some x → ys[i]? = some y → Sep io H0 F0 F' H' M' → Evl.Ex F F1 → Evl.Ex F1 F' → F' t = some (.tup [x, y]) → I i σ' F1 M' → Body io H0 F0 F I D g tb i (.ref t) σ' H')
    (hd : ∀ σ' F' H' M', Sep io H0 F0 F' H' M' → Evl.Ex F F' → I n σ' F' M' → D.nx σ' H') : ForW (Itz K a b) D g tb σ H := by
  refine for_it (walk_zip hn) (LI io H0 F0 F I) ⟨F, M, S, Evl.Ex.refl _, h0⟩ ?_ ?_ ?_
  · rintro i σ' H' _ ⟨F', M', S', e, _⟩
    exact ⟨S'.rdL e hs, S'.rdL e hy⟩
  · rintro i x σ' H' H'' hi ⟨F', M', S', e, h⟩ ⟨t, x1, x2, rfl, ht, rfl, e1, e2⟩
    exact hb i x1 x2 t σ' F' _ _ M' e1 e2 (S'.newF ht _) e (Evl.Ex.new (S'.fnone ht)) upd_same h
  · rintro σ' H' ⟨F', M', S', e, h⟩
    exact hd σ' F' H' M' S' e h
/-- while -/
theorem s_while {c : TT} (Iw : Nat → L2.St → Hp → List (Addr × Cel) → Prop) (S : Sep io H0 F0 F H M) (m : Nat) (h0 : Iw m σ F M)
    (hb : ∀ m σ' F' H' M', Sep io H0 F0 F' H' M' → Evl.Ex F F' → Iw m σ' F' M' → c σ' H' fun t H1 => if t = true then ∃ N : L2.St → Hp → Prop, (∀ σ' H', N σ' H' → ∃ m', m' < m ∧ LI io H0 F0 F Iw m' σ' H') ∧ tb { D with nx := N, ct := N, bk := D.nx } σ' H1 else D.nx σ' H1) : tWhile c tb D σ H := by
  refine ⟨LI io H0 F0 F Iw, ⟨m, F, M, S, Evl.Ex.refl _, h0⟩, ?_⟩
  rintro m σ' H' ⟨F', M', S', e, h⟩
  exact hb m σ' F' H' M' S' e h
end
def lcK (J : It) (g : TG) (tt : TT) (te : TE) (vs : List Nat) (σ : L2.St) (H1 : Hp) (Q : VK) : Prop := ∀ D, H1 D = none → ∃ W : Nat → Nat → Hp → Prop, (∃ m, W 0 m (upd H1 D (.lst []))) ∧ ∀ i m H, W i m H →
  (J.stop i H ∧ Q (.ref D) H) ∨ (J.go i H ∧ ∃ Nx : Hp → Prop, (∀ H', Nx H' → ∃ m', m' < m ∧ W (i + 1) m' H') ∧ ∀ x H', J.yld i H x H' → g x (wipe σ vs) H' fun σ2 H2 => wipe σ2 vs = wipe σ vs ∧ tt σ2 H2 fun b H3 =>
    if b = true then te σ2 H3 fun y H4 => ∃ acc, H4 D = some (.lst acc) ∧ acc.length < sizeLine ∧ Nx (upd H4 D (.lst (acc ++ [y]))) else Nx H3)
/-- what a loop, a comprehension goes over: the things as, told by X -/
def Src {α : Type} (J : It) (io : List Addr) (H0 F0 F : Hp) (L : List (Addr × Cel)) (as : List α) (X : α → V → Hp → Prop) : Prop := ∃ (G : Hp → Prop) (Y : Nat → Hp → V → Hp → Prop), Walk J as.length G Y ∧
  (∀ F' H' M', Sep io H0 F0 F' H' M' → Evl.Ex F F' → (∀ m ∈ L, m ∈ M') → G H') ∧
  ∀ i a x F' H' H'' M', as[i]? = some a → Sep io H0 F0 F' H' M' → Evl.Ex F F' → (∀ m ∈ L, m ∈ M') → Y i H' x H'' → ∃ F'', Sep io H0 F0 F'' H'' M' ∧ Evl.Ex F' F'' ∧ X a x F''
section
variable {io : List Addr} {H0 F0 F H : Hp} {M L : List (Addr × Cel)} {K : PySem.W.Frag} {a b : Addr} {xs ys : List V} {ns : List Int} {α : Type} {as : List α} {da : α → PyData}
theorem srcV (h : SqL K F b xs) : Src (Itl K b) io H0 F0 F [] xs (fun a x _ => x = a) :=
  ⟨_, _, walk_list, fun F' H' M' S e _ => S.rdL e h, fun i a x F' H' H'' M' ha S e _ y => by
    obtain ⟨rfl, y⟩ := y
    rw [ha] at y
    exact ⟨F', S, Evl.Ex.refl _, (Option.some.inj y).symm⟩⟩
theorem srcVT (h : SqT K F b xs) : Src (Itt K b) io H0 F0 F [] xs (fun a x _ => x = a) :=
  ⟨_, _, walk_tup, fun F' H' M' S e _ => S.rdT e h, fun i a x F' H' H'' M' ha S e _ y => by
    obtain ⟨rfl, y⟩ := y
    rw [ha] at y
    exact ⟨F', S, Evl.Ex.refl _, (Option.some.inj y).symm⟩⟩
theorem srcM : Src (Itl K b) io H0 F0 F [(b, .is (.lst xs))] xs (fun a x _ => x = a) :=
  ⟨_, _, walk_list, fun F' H' M' S e hm => SqL.of (S.own _ (hm _ List.mem_cons_self)).1.1, fun i a x F' H' H'' M' ha S e _ y => by
    obtain ⟨rfl, y⟩ := y
    rw [ha] at y
    exact ⟨F', S, Evl.Ex.refl _, (Option.some.inj y).symm⟩⟩
/-- items by a function of the things -/
theorem Src.map {J : It} {β : Type} {bs : List β} {r : β → α} {X : α → V → Hp → Prop} (s : Src J io H0 F0 F L (bs.map r) X) : Src J io H0 F0 F L bs (fun b => X (r b)) := by
  obtain ⟨G, Y, w, h1, h2⟩ := s
  rw [List.length_map] at w
  exact ⟨G, Y, w, h1, fun i a x F' H' H'' M' ha => h2 i (r a) x F' H' H'' M' (by rw [List.getElem?_map, ha]; rfl)⟩
theorem srcI (h : SqL K F b (ns.map V.int)) : Src (Itl K b) io H0 F0 F [] ns (fun a x _ => x = .int a) := (srcV h).map
theorem srcMI : Src (Itl K b) io H0 F0 F [(b, .is (.lst (ns.map V.int)))] ns (fun a x _ => x = .int a) := Src.map srcM
theorem dpAll_at {H : Hp} : ∀ {xs : List V} {ds : List PyData} {i : Nat} {d : PyData}, DpAll K H xs ds → ds[i]? = some d → ∃ x, xs[i]? = some x ∧ Dp K H x d
  | _, _, _, _, .nil, h => by simp at h
  | _, _, 0, _, .cons h _, e => by cases (Option.some.inj e); exact ⟨_, rfl, h⟩
  | _, _, i + 1, d, .cons _ t, e => by
    obtain ⟨x, h1, h2⟩ := dpAll_at (i := i) t (by simpa using e)
    exact ⟨x, by simpa using h1, h2⟩
theorem srcD (h : SqL K F b xs) (hd : DpAll K F xs (as.map da)) : Src (Itl K b) io H0 F0 F [] as (fun a x F' => Dp K F' x (da a)) := by
  have hl := (dpAll_get hd).1
  rw [List.length_map] at hl
  refine ⟨_, _, hl ▸ walk_list (xs := xs), fun F' H' M' S e _ => S.rdL e h, fun i a x F' H' H'' M' ha S e _ y => ?_⟩
  obtain ⟨rfl, y⟩ := y
  obtain ⟨x', h1, h2⟩ := dpAll_at hd (i := i) (d := da a) (by rw [List.getElem?_map, ha]; rfl)
  rw [h1] at y
  cases y
  exact ⟨F', S, Evl.Ex.refl _, Dp.ex e _ _ h2⟩
theorem srcDT (h : SqT K F b xs) (hd : DpAll K F xs (as.map da)) : Src (Itt K b) io H0 F0 F [] as (fun a x F' => Dp K F' x (da a)) := by
  have hl := (dpAll_get hd).1
  rw [List.length_map] at hl
  refine ⟨_, _, hl ▸ walk_tup (xs := xs), fun F' H' M' S e _ => S.rdT e h, fun i a x F' H' H'' M' ha S e _ y => ?_⟩
  obtain ⟨rfl, y⟩ := y
  obtain ⟨x', h1, h2⟩ := dpAll_at hd (i := i) (d := da a) (by rw [List.getElem?_map, ha]; rfl)
  rw [h1] at y
  cases y
  exact ⟨F', S, Evl.Ex.refl _, Dp.ex e _ _ h2⟩
/-- a list of one's own, its things told -/
theorem srcMD (hd : DpAll K F xs (as.map da)) : Src (Itl K b) io H0 F0 F [(b, .is (.lst xs))] as (fun a x F' => Dp K F' x (da a)) := by
  have hl := (dpAll_get hd).1
  rw [List.length_map] at hl
  refine ⟨_, _, hl ▸ walk_list (xs := xs), fun F' H' M' S e hm => SqL.of (S.own _ (hm _ List.mem_cons_self)).1.1, fun i a x F' H' H'' M' ha S e _ y => ?_⟩
  obtain ⟨rfl, y⟩ := y
  obtain ⟨x', h1, h2⟩ := dpAll_at hd (i := i) (d := da a) (by rw [List.getElem?_map, ha]; rfl)
  rw [h1] at y
  cases y
  exact ⟨F', S, Evl.Ex.refl _, Dp.ex e _ _ h2⟩
theorem srcR {lo : Int} {n : Nat} : Src (Itr lo n) io H0 F0 F [] ((List.range n).map fun i : Nat => lo + (i : Int)) (fun a x _ => x = .int a) := by
  refine ⟨_, _, by rw [List.length_map, List.length_range]; exact walk_range, fun F' H' M' S e _ => trivial, fun i a x F' H' H'' M' ha S e _ y => ?_⟩
  obtain ⟨rfl, rfl⟩ := y
  rw [List.getElem?_map] at ha
  cases q : (List.range n)[i]? with
  | none => rw [q] at ha; cases ha
  | some j =>
    rw [q] at ha
    cases ha
    have := List.getElem?_eq_some_iff.mp q
    obtain ⟨h1, h2⟩ := this
    rw [List.getElem_range] at h2
    subst h2
    exact ⟨F', S, Evl.Ex.refl _, rfl⟩
theorem srcRG {n : Int} : Src (Itr 0 n.toNat) io H0 F0 F [] (rgI n) (fun a x _ => x = .int a) := by
  have h := srcR (io := io) (H0 := H0) (F0 := F0) (F := F) (lo := 0) (n := n.toNat)
  have e : ((List.range n.toNat).map fun i : Nat => (0 : Int) + (i : Int)) = rgI n := by
    unfold rgI
    refine List.map_congr_left fun i _ => ?_
    omega
  rw [e] at h
  exact h
theorem srcE (h : SqL K F b xs) : Src (Ite K b) io H0 F0 F [] xs.zipIdx (fun a x F' => ∃ t, x = .ref t ∧ F' t = some (.tup [.int (a.2 : Int), a.1])) := by
  refine ⟨_, _, by rw [List.length_zipIdx]; exact walk_enum (xs := xs), fun F' H' M' S e _ => S.rdL e h, fun i a x F' H' H'' M' ha S e _ y => ?_⟩
  obtain ⟨t, x1, x2, rfl, ht, rfl, e1, e2⟩ := y
  cases e1
  have e2 : xs[i]? = some x2 := e2
  rw [List.getElem?_zipIdx, e2] at ha
  cases ha
  refine ⟨_, S.newF ht _, Evl.Ex.new (S.fnone ht), t, rfl, ?_⟩
  rw [upd_same]
  simp
theorem srcZ (h : SqL K F a xs) (g : SqL K F b ys) : Src (Itz K a b) io H0 F0 F [] (xs.zip ys) (fun p x F' => ∃ t, x = .ref t ∧ F' t = some (.tup [p.1, p.2])) := by
  refine ⟨_, _, walk_zip (xs := xs) (ys := ys) List.length_zip, fun F' H' M' S e _ => ⟨S.rdL e h, S.rdL e g⟩, fun i p x F' H' H'' M' ha S e _ y => ?_⟩
  obtain ⟨t, x1, x2, rfl, ht, rfl, e1, e2⟩ := y
  have e1 : xs[i]? = some x1 := e1
  have e2 : ys[i]? = some x2 := e2
  rw [List.getElem?_zip_eq_some] at ha
  rw [e1, e2] at ha
  obtain ⟨z1, z2⟩ := ha
  cases z1
  cases z2
  exact ⟨_, S.newF ht _, Evl.Ex.new (S.fnone ht), t, rfl, upd_same⟩
end
/-! ### for over a source -/
section
variable {io : List Addr} {H0 F0 F H : Hp} {M L : List (Addr × Cel)} {g : TG} {tb : TS} {D : Ends} {σ : L2.St} {J : It} {α : Type} {as : List α} {X : α → V → Hp → Prop} (I : Nat → L2.St → Hp → List (Addr × Cel) → Prop)
theorem s_for (src : Src J io H0 F0 F L as X) (S : Sep io H0 F0 F H M) (h0 : I 0 σ F M) (hL : ∀ i σ' F' M', I i σ' F' M' → ∀ m ∈ L, m ∈ M')
    (hb : ∀ (i : Nat) (a : α) x σ' F1 F' H' M', as[i]? = some a → Sep io H0 F0 F' H' M' → Evl.Ex F F1 → Evl.Ex F1 F' → X a x F' → I i σ' F1 M' → Body io H0 F0 F I D g tb i x σ' H')
    (hd : ∀ σ' F' H' M', Sep io H0 F0 F' H' M' → Evl.Ex F F' → I as.length σ' F' M' → D.nx σ' H') : ForW J D g tb σ H := by
  obtain ⟨G, Y, w, s1, s2⟩ := src
  refine for_it w (LI io H0 F0 F I) ⟨F, M, S, Evl.Ex.refl _, h0⟩ ?_ ?_ ?_
  · rintro i σ' H' _ ⟨F', M', S', e, h⟩
    exact s1 F' H' M' S' e (hL i σ' F' M' h)
  · rintro i x σ' H' H'' hi ⟨F', M', S', e, h⟩ y
    obtain ⟨F'', S'', e2, hx⟩ := s2 i as[i] x F' H' H'' M' (List.getElem?_eq_getElem hi) S' e (hL i σ' F' M' h) y
    exact hb i as[i] x σ' F' F'' H'' M' (List.getElem?_eq_getElem hi) S'' e e2 hx h
  · rintro σ' H' ⟨F', M', S', e, h⟩
    exact hd σ' F' H' M' S' e h
end
/-! ### comprehensions -/
/-- at turn i of a comprehension -/
def CI (io : List Addr) (H0 F0 F : Hp) (D : Addr) (I : Nat → List V → Hp → List (Addr × Cel) → Prop) (i : Nat) (H : Hp) : Prop := ∃ acc F' M', Sep io H0 F0 F' H ((D, .is (.lst acc)) :: M') ∧ Evl.Ex F F' ∧ I i acc F' M'
def PutK (D : Addr) (P : Hp → Prop) (y : V) (H4 : Hp) : Prop := ∃ acc, H4 D = some (.lst acc) ∧ acc.length < sizeLine ∧ P (upd H4 D (.lst (acc ++ [y])))
section
variable {io : List Addr} {H0 F0 F H : Hp} {M L : List (Addr × Cel)} {K : PySem.W.Frag} {g : TG} {tt : TT} {te : TE} {σ : L2.St} {wi : TI} {Q : VK} {vs : List Nat} {J : It} {α : Type} {as : List α} {X : α → V → Hp → Prop}
theorem s_lc (h : wi σ H fun J H1 => lcK J g tt te vs σ H1 Q) : tLc wi g tt te vs σ H Q := h
theorem CI.put {I : Nat → List V → Hp → List (Addr × Cel) → Prop} {i : Nat} {D : Addr} {acc : List V} {F' H' : Hp} {M' : List (Addr × Cel)} {y : V} (S : Sep io H0 F0 F' H' ((D, .is (.lst acc)) :: M')) (e : Evl.Ex F F') (hl : acc.length < 100000) (h : I (i + 1) (acc ++ [y]) F' M') : PutK D (CI io H0 F0 F D I (i + 1)) y H' :=
  ⟨acc, S.rdM 0 rfl, Evl.sz_lt hl, acc ++ [y], F', M', S.put 0 rfl _, e, h⟩
theorem CI.skip {I : Nat → List V → Hp → List (Addr × Cel) → Prop} {i : Nat} {D : Addr} {acc : List V} {F' H' : Hp} {M' : List (Addr × Cel)} (S : Sep io H0 F0 F' H' ((D, .is (.lst acc)) :: M')) (e : Evl.Ex F F') (h : I (i + 1) acc F' M') : CI io H0 F0 F D I (i + 1) H' := ⟨acc, F', M', S, e, h⟩
/-- the general one: I by the turn, what is made so far -/
theorem s_lcI (src : Src J io H0 F0 F L as X) (I : Nat → List V → Hp → List (Addr × Cel) → Prop) (S : Sep io H0 F0 F H M) (h0 : I 0 [] F M) (hL : ∀ i acc F' M', I i acc F' M' → ∀ m ∈ L, m ∈ M')
    (hb : ∀ (i : Nat) (a : α) x acc D F1 F' H' M', as[i]? = some a → Sep io H0 F0 F' H' ((D, .is (.lst acc)) :: M') → Evl.Ex F F1 → Evl.Ex F1 F' → X a x F' → I i acc F1 M' → g x (wipe σ vs) H' fun σ2 H2 => wipe σ2 vs = wipe σ vs ∧ tt σ2 H2 fun b H3 =>
      if b = true then te σ2 H3 (PutK D (CI io H0 F0 F D I (i + 1))) else CI io H0 F0 F D I (i + 1) H3)
    (hd : ∀ D acc F' H' M', Sep io H0 F0 F' H' ((D, .is (.lst acc)) :: M') → Evl.Ex F F' → I as.length acc F' M' → Q (.ref D) H') : lcK J g tt te vs σ H Q := by
  intro D hD
  obtain ⟨G, Y, w, s1, s2⟩ := src
  refine lc_it w (fun i H' => CI io H0 F0 F D I i H') ⟨[], F, M, S.newM hD _, Evl.Ex.refl _, h0⟩ ?_ ?_ ?_
  · rintro i H' _ ⟨acc, F', M', S', e, h⟩
    exact s1 F' H' _ S' e fun m hm => List.mem_cons_of_mem _ (hL i acc F' M' h m hm)
  · rintro i x H' H'' hi ⟨acc, F', M', S', e, h⟩ y
    obtain ⟨F'', S'', e2, hx⟩ := s2 i as[i] x F' H' H'' _ (List.getElem?_eq_getElem hi) S' e (fun m hm => List.mem_cons_of_mem _ (hL i acc F' M' h m hm)) y
    exact hb i as[i] x acc D F' F'' H'' M' (List.getElem?_eq_getElem hi) S'' e e2 hx h
  · rintro H' ⟨acc, F', M', S', e, h⟩
    exact hd D acc F' H' M' S' e h
/-- values: (those of as that f takes) by gg -/
structure VT {α : Type} (as : List α) (f : α → Bool) (gg : α → V) (i : Nat) (a : α) (acc : List V) : Prop where
  at' : as[i]? = some a
  acc' : acc = ((as.take i).filter f).map gg
  few : as.length ≤ 99999
abbrev IV {α : Type} (M : List (Addr × Cel)) (as : List α) (f : α → Bool) (gg : α → V) : Nat → List V → Hp → List (Addr × Cel) → Prop := fun i acc _ M' => M' = M ∧ acc = ((as.take i).filter f).map gg
section
variable {f : α → Bool} {gg : α → V} {i : Nat} {a : α} {acc : List V} {D : Addr} {F' H' : Hp} {y : V}
theorem VT.put (t : VT as f gg i a acc) (S : Sep io H0 F0 F' H' ((D, .is (.lst acc)) :: M)) (e : Evl.Ex F F') (hf : f a = true) (hy : y = gg a) : PutK D (CI io H0 F0 F D (IV M as f gg) (i + 1)) y H' := by
  refine CI.put S e ?_ ⟨rfl, ?_⟩
  · rw [t.acc', List.length_map]
    have := List.length_filter_le f (as.take i)
    rw [List.length_take] at this
    have := t.few
    omega
  · rw [take_snoc t.at', List.filter_append, List.filter_cons, if_pos hf, List.map_append, t.acc', hy]
    rfl
theorem VT.skip (t : VT as f gg i a acc) (S : Sep io H0 F0 F' H' ((D, .is (.lst acc)) :: M)) (e : Evl.Ex F F') (hf : f a = false) : CI io H0 F0 F D (IV M as f gg) (i + 1) H' := by
  refine CI.skip S e ⟨rfl, ?_⟩
  rw [take_snoc t.at', List.filter_append, List.filter_cons, if_neg (by rw [hf]; decide), List.filter_nil, List.append_nil]
  exact t.acc'
end
theorem s_lcV (src : Src J io H0 F0 F L as X) (f : α → Bool) (gg : α → V) (S : Sep io H0 F0 F H M) (few : as.length ≤ 99999) (hL : ∀ m ∈ L, m ∈ M)
    (hb : ∀ (i : Nat) (a : α) x acc D F' H', VT as f gg i a acc → Sep io H0 F0 F' H' ((D, .is (.lst acc)) :: M) → Evl.Ex F F' → X a x F' → g x (wipe σ vs) H' fun σ2 H2 => wipe σ2 vs = wipe σ vs ∧ tt σ2 H2 fun b H3 =>
      if b = true then te σ2 H3 (PutK D (CI io H0 F0 F D (IV M as f gg) (i + 1))) else CI io H0 F0 F D (IV M as f gg) (i + 1) H3)
    (hd : ∀ D F' H', Sep io H0 F0 F' H' ((D, .is (.lst ((as.filter f).map gg))) :: M) → Evl.Ex F F' → Q (.ref D) H') : lcK J g tt te vs σ H Q := by
  refine s_lcI src (IV M as f gg) S ⟨rfl, rfl⟩ (fun i acc F' M' h => by rw [h.1]; exact hL) ?_ ?_
  · rintro i a x acc D F1 F' H' M' ha S' e1 e2 hx ⟨rfl, h⟩
    exact hb i a x acc D F' H' ⟨ha, h, few⟩ S' (e1.trans e2) hx
  · rintro D acc F' H' M' S' e ⟨rfl, h⟩
    rw [List.take_length] at h
    subst h
    exact hd D F' H' S' e
/-- data -/
structure DT {α : Type} (K : PySem.W.Frag) (as : List α) (f : α → Bool) (gg : α → PyData) (i : Nat) (a : α) (acc : List V) (F' : Hp) : Prop where
  at' : as[i]? = some a
  acc' : DpAll K F' acc (((as.take i).filter f).map gg)
  few : as.length ≤ 99999
abbrev ID {α : Type} (K : PySem.W.Frag) (M : List (Addr × Cel)) (as : List α) (f : α → Bool) (gg : α → PyData) : Nat → List V → Hp → List (Addr × Cel) → Prop := fun i acc F' M' => M' = M ∧ DpAll K F' acc (((as.take i).filter f).map gg)
theorem dpAll_app {H : Hp} : ∀ {xs ys : List V} {ds es : List PyData}, DpAll K H xs ds → DpAll K H ys es → DpAll K H (xs ++ ys) (ds ++ es)
  | _, _, _, _, .nil, h => h
  | _, _, _, _, .cons a t, h => .cons a (dpAll_app t h)
section
variable {f : α → Bool} {gg : α → PyData} {i : Nat} {a : α} {acc : List V} {D : Addr} {F1 F' H' : Hp} {y : V}
theorem DT.put (t : DT K as f gg i a acc F1) (S : Sep io H0 F0 F' H' ((D, .is (.lst acc)) :: M)) (e : Evl.Ex F F') (e1 : Evl.Ex F1 F') (hf : f a = true) (hy : Dp K F' y (gg a)) : PutK D (CI io H0 F0 F D (ID K M as f gg) (i + 1)) y H' := by
  refine CI.put S e ?_ ⟨rfl, ?_⟩
  · have := (dpAll_get t.acc').1
    rw [this, List.length_map]
    have := List.length_filter_le f (as.take i)
    rw [List.length_take] at this
    have := t.few
    omega
  · rw [take_snoc t.at', List.filter_append, List.filter_cons, if_pos hf, List.map_append]
    exact dpAll_app (DpAll.ex e1 _ _ t.acc') (.cons hy .nil)
theorem DT.skip (t : DT K as f gg i a acc F1) (S : Sep io H0 F0 F' H' ((D, .is (.lst acc)) :: M)) (e : Evl.Ex F F') (e1 : Evl.Ex F1 F') (hf : f a = false) : CI io H0 F0 F D (ID K M as f gg) (i + 1) H' := by
  refine CI.skip S e ⟨rfl, ?_⟩
  rw [take_snoc t.at', List.filter_append, List.filter_cons, if_neg (by rw [hf]; decide), List.filter_nil, List.append_nil]
  exact DpAll.ex e1 _ _ t.acc'
end
theorem s_lcD (src : Src J io H0 F0 F L as X) (f : α → Bool) (gg : α → PyData) (S : Sep io H0 F0 F H M) (few : as.length ≤ 99999) (hL : ∀ m ∈ L, m ∈ M)
    (hb : ∀ (i : Nat) (a : α) x acc D F' H', DT K as f gg i a acc F' → Sep io H0 F0 F' H' ((D, .is (.lst acc)) :: M) → Evl.Ex F F' → X a x F' → g x (wipe σ vs) H' fun σ2 H2 => wipe σ2 vs = wipe σ vs ∧ tt σ2 H2 fun b H3 =>
      if b = true then te σ2 H3 (PutK D (CI io H0 F0 F D (ID K M as f gg) (i + 1))) else CI io H0 F0 F D (ID K M as f gg) (i + 1) H3)
    (hd : ∀ D acc F' H', Sep io H0 F0 F' H' ((D, .is (.lst acc)) :: M) → Evl.Ex F F' → DpAll K F' acc ((as.filter f).map gg) → Q (.ref D) H') : lcK J g tt te vs σ H Q := by
  refine s_lcI src (ID K M as f gg) S ⟨rfl, .nil⟩ (fun i acc F' M' h => by rw [h.1]; exact hL) ?_ ?_
  · rintro i a x acc D F1 F' H' M' ha S' e1 e2 hx ⟨rfl, h⟩
    exact hb i a x acc D F' H' ⟨ha, DpAll.ex e2 _ _ h, few⟩ S' (e1.trans e2) hx
  · rintro D acc F' H' M' S' e ⟨rfl, h⟩
    rw [List.take_length] at h
    exact hd D acc F' H' S' e h
end
/-! ### calls that make things -/
def rListN (K : PySem.W.Frag) : List V → Hp → VK → Prop := fun xs H Q => ∃ p ys, xs = [.ref p] ∧ (SqL K H p ys ∨ SqT K H p ys) ∧ newK H (.lst ys) Q
theorem call_listN {X : Cx} : CallR X (.type "list") (rListN X.K) := call_list_of
theorem s_list {K : PySem.W.Frag} {H : Hp} {a : Addr} {xs : List V} {Q : VK} (hs : SqL K H a xs ∨ SqT K H a xs) (q : newK H (.lst xs) Q) : rListN K [.ref a] H Q := ⟨a, xs, rfl, hs, q⟩
def rTupN (K : PySem.W.Frag) : List V → Hp → VK → Prop := fun xs H Q => ∃ p ys, xs = [.ref p] ∧ SqL K H p ys ∧ newK H (.tup ys) Q
theorem call_tupN {X : Cx} : CallR X (.type "tuple") (rTupN X.K) := by
  intro pins s σ H xs us Q I r h
  obtain ⟨p, ys, e, h1, h2⟩ := h
  exact call_tuple_of pins s σ H xs us Q I r ⟨p, ys, e, .inl ⟨h1, h2⟩⟩
theorem s_tupN {K : PySem.W.Frag} {H : Hp} {a : Addr} {xs : List V} {Q : VK} (hs : SqL K H a xs) (q : newK H (.tup xs) Q) : rTupN K [.ref a] H Q := ⟨a, xs, rfl, hs, q⟩
def rSortN (K : PySem.W.Frag) : List V → Hp → VK → Prop := fun vs H Q => ∃ (a : Addr) (ns : List Int), vs = [V.ref a] ∧ SqL K H a (ns.map V.int) ∧
  ∀ (ns' : List Int), ns'.Perm ns → ns'.Pairwise (· ≤ ·) → newK H (.lst (ns'.map V.int)) Q
theorem cr_sortedN {X : Cx} : CallR X (.builtin "sorted") (rSortN X.K) := by
  intro pins s σ H xs us Q I r h
  obtain ⟨p, ys, e, h1, h2⟩ := h
  exact cr_sortedI pins s σ H xs us Q I r ⟨p, ys, e, h1, fun ns' q a b c => h2 ns' a b q c⟩
theorem s_sortN {K : PySem.W.Frag} {H : Hp} {a : Addr} {ns : List Int} {Q : VK} (hs : SqL K H a (ns.map V.int)) (q : ∀ (ns' : List Int), ns'.Perm ns → ns'.Pairwise (· ≤ ·) → newK H (.lst (ns'.map V.int)) Q) : rSortN K [.ref a] H Q := ⟨a, ns, rfl, hs, q⟩
/-- pairs, sorted -/
def rSortPN (K : PySem.W.Frag) : List V → Hp → VK → Prop := fun vs H Q => ∃ (a : Addr) (xs : List V) (k : V → Int × Int), vs = [V.ref a] ∧ SqL K H a xs ∧ (∀ x ∈ xs, ∃ t, x = V.ref t ∧ H t = some (.tup [.int (k x).1, .int (k x).2])) ∧
  ∀ ys, SrtO.Srtd (ltP k) ys → SrtO.Stb (ltP k) ys xs → newK H (.lst ys) Q
theorem cr_sortedPN {X : Cx} : CallR X (.builtin "sorted") (rSortPN X.K) := by
  intro pins s σ H xs us Q I r h
  obtain ⟨a, ys, k, e, h1, h2, h3⟩ := h
  exact cr_sortedPO pins s σ H xs us Q I r ⟨a, ys, k, e, h1, h2, fun zs p a b c => h3 zs a b p c⟩
theorem r_isNV {x : V} {H : Hp} {Q : VK} (q : Q (.bl (decide (x = .non))) H) : rIsNone x .non H Q := ⟨rfl, q⟩
theorem r_notNV {x : V} {H : Hp} {Q : VK} (q : Q (.bl (!decide (x = .non))) H) : rNotNone x .non H Q := ⟨rfl, q⟩
/-! ### lists -/
section
variable {io : List Addr} {H0 F0 F H : Hp} {M L : List (Addr × Cel)} {K : PySem.W.Frag} {Q : VK} {a b : Addr} {xs ys : List V} {y : V} {i : Int} {QH : Hp → Prop}
theorem s_app (S : Sep io H0 F0 F H M) (k : Nat) (hk : M[k]? = some (a, .is (.lst xs))) (hz : xs.length < 100000) (q : ∀ H', Sep io H0 F0 F H' (M.set k (a, .is (.lst (xs ++ [y])))) → Q .non H') : rAppend (.ref a) [y] H Q :=
  r_app (S.rdM k hk) hz (q _ (S.put k hk _))
theorem s_setL (S : Sep io H0 F0 F H M) (k : Nat) (hk : M[k]? = some (a, .is (.lst xs))) {j : Nat} (hj : ixN xs.length i = some j) (q : ∀ H', Sep io H0 F0 F H' (M.set k (a, .is (.lst (xs.set j y)))) → QH H') : rSetL (.ref a) (.int i) y H QH :=
  r_setL (S.rdM k hk) hj (q _ (S.put k hk _))
theorem s_popAt (S : Sep io H0 F0 F H M) (k : Nat) (hk : M[k]? = some (a, .is (.lst xs))) (h0 : 0 ≤ i) (h1 : i < (xs.length : Int)) (hs : xs.length ≤ 1000000) (hy : xs[i.toNat]? = some y) (q : ∀ H', Sep io H0 F0 F H' (M.set k (a, .is (.lst (xs.eraseIdx i.toNat)))) → Q y H') : rPopAt (.ref a) [.int i] H Q :=
  r_popAt (S.rdM k hk) h0 h1 hs hy (q _ (S.put k hk _))
theorem s_cat (h : H a = some (.lst xs)) (g : H b = some (.lst ys)) (hl : xs.length + ys.length ≤ 100000) (q : newK H (.lst (xs ++ ys)) Q) : rCat (.ref a) (.ref b) H Q := r_catG h g hl q
theorem s_slL {lo hi : Option Int} (h : SqL K H a xs) (q : newK H (.lst (cutV xs lo hi)) Q) : rSlL K (.ref a) lo hi H Q := r_slL h q
theorem s_lstRg {f : L2.St → Hp → (Int → Int → Hp → Prop) → Prop} {σ : L2.St} (h : f σ H fun a b H1 => RgOk a b ∧ newK H1 (.lst (rgV a b)) Q) : tLstRg f σ H Q := h
end
/-! ### from promises over the heap alone -/
/-- nothing that stood is changed; the new cells of L stay -/
theorem Sep.grow {F H H' : Hp} (fr : Evl.Ex F H) (e : Evl.Ex H H') (L : List Addr) (hL : ∀ a ∈ L, H a = none) : ∃ F', Sep [] H F F' H' [] ∧ Evl.Ex F F' ∧ ∀ a ∈ L, F' a = H' a := by
  have hF : ∀ a ∈ L, F a = none := fun a ha => by
    cases q : F a with
    | none => rfl
    | some o => have := hL a ha; rw [fr a o q] at this; cases this
  refine ⟨fun a => if a ∈ L then H' a else F a, ⟨fun a o h _ => e a o h, fun a h => ?_, fun a o h => ?_, fun a h => ?_, fun a o h => ?_, fun m hm => (by cases hm), List.nodup_nil⟩, fun a o h => ?_, fun a ha => if_pos ha⟩
  · cases q : H a with
    | none => rfl
    | some o => rw [e a o q] at h; cases h
  · show (if a ∈ L then H' a else F a) = some o
    rw [if_neg fun z => by rw [hF a z] at h; cases h]
    exact h
  · by_cases z : a ∈ L
    · exact .inr (hL a z)
    · exact .inl fun q => h (by show (if a ∈ L then H' a else F a) = none; rw [if_neg z]; exact q)
  · have h : (if a ∈ L then H' a else F a) = some o := h
    by_cases z : a ∈ L
    · rw [if_pos z] at h; exact h
    · rw [if_neg z] at h; exact e _ _ (fr _ _ h)
  · show (if a ∈ L then H' a else F a) = some o
    rw [if_neg fun z => by rw [hF a z] at h; cases h]
    exact h
theorem Sep.scal {F H H' : Hp} (fr : Evl.Ex F H) (e : Evl.Ex H H') : Sep [] H F F H' [] :=
  ⟨fun a o h _ => e a o h, fun a h => (by
    cases q : H a with
    | none => rfl
    | some o => rw [e a o q] at h; cases h), Evl.Ex.refl _, fun a h => .inl h, fun a o h => e _ _ (fr _ _ h), fun m hm => (by cases hm), List.nodup_nil⟩
/-! ### sets of one's own -/
section
variable {io : List Addr} {H0 F0 F H : Hp} {M : List (Addr × Cel)} {K : PySem.W.Frag} {w : World} {Q : VK} {a : Addr} {ns : List Int} {o : HO}
/-- set(xs), xs a list of ints -/
def rSetN (K : PySem.W.Frag) (w : World) : List V → Hp → VK → Prop := fun vs H Q => ∃ (a : Addr) (ns : List Int), vs = [.ref a] ∧ SqL K H a (ns.map V.int) ∧ ns.length ≤ 1000 ∧
  ∀ (q : Addr) (n : Nat), H q = none → n ≤ ns.length → Q (.ref q) (upd H q (SetO w q (fun j => decide (j ∈ ns)) n))
theorem cr_setN {X : Cx} (hc : X.calm = true) : CallR X (.type "set") (rSetN X.K X.w) := cr_setL hc
theorem s_setN (S : Sep io H0 F0 F H M) (h : SqL K H a (ns.map V.int)) (hl : ns.length ≤ 1000) (k : ∀ (q : Addr) (n : Nat) (F' H' : Hp), n ≤ ns.length → Sep io H0 F0 F' H' M → Evl.Ex F F' → F' q = some (SetO w q (fun j => decide (j ∈ ns)) n) → Q (.ref q) H') : rSetN K w [.ref a] H Q :=
  ⟨a, ns, rfl, h, hl, fun q n hq hn => k q n _ _ hn (S.newF hq _) (Evl.Ex.new (S.fnone hq)) upd_same⟩
/-- the set is one's own -/
theorem s_setM (S : Sep io H0 F0 F H M) (h : SqL K H a (ns.map V.int)) (hl : ns.length ≤ 1000) (k : ∀ (q : Addr) (n : Nat) (H' : Hp), n ≤ ns.length → Sep io H0 F0 F H' ((q, .is (SetO w q (fun j => decide (j ∈ ns)) n)) :: M) → Q (.ref q) H') : rSetN K w [.ref a] H Q :=
  ⟨a, ns, rfl, h, hl, fun q n hq hn => k q n _ hn (S.newM hq _)⟩
end
section
variable {io : List Addr} {H0 F0 F : Hp} {K : PySem.W.Frag} {b : Addr} {xs : List V} {ps : List (Int × Int)}
theorem TupsAt.get {H : Hp} : ∀ {xs : List V} {ps : List (Int × Int)} {i : Nat} {p : Int × Int}, TupsAt H xs ps → ps[i]? = some p → ∃ t, xs[i]? = some (.ref t) ∧ H t = some (.tup [.int p.1, .int p.2])
  | _, _, i, _, .nil, h => by simp at h
  | _, _, 0, p, .cons ⟨t, h1, h2⟩ r, e => by cases (Option.some.inj e); exact ⟨t, by rw [h1]; rfl, h2⟩
  | _, _, i + 1, p, .cons _ r, e => by
    obtain ⟨t, h1, h2⟩ := TupsAt.get (i := i) r (by simpa using e)
    exact ⟨t, by simpa using h1, h2⟩
theorem TupsAt.len {H : Hp} : ∀ {xs : List V} {ps : List (Int × Int)}, TupsAt H xs ps → xs.length = ps.length
  | _, _, .nil => rfl
  | _, _, .cons _ r => by rw [List.length_cons, List.length_cons, TupsAt.len r]
/-- a list of pairs -/
theorem srcP (h : SqL K F b xs) (ht : TupsAt F xs ps) : Src (Itl K b) io H0 F0 F [] ps (fun p x F' => ∃ t, x = .ref t ∧ F' t = some (.tup [.int p.1, .int p.2])) := by
  refine ⟨_, _, ht.len ▸ walk_list (xs := xs), fun F' H' M' S e _ => S.rdL e h, fun i a x F' H' H'' M' ha S e _ y => ?_⟩
  obtain ⟨rfl, y⟩ := y
  obtain ⟨t, h1, h2⟩ := ht.get ha
  rw [h1] at y
  cases y
  exact ⟨F', S, Evl.Ex.refl _, t, rfl, e _ _ h2⟩
theorem srcMP (ht : TupsAt F xs ps) : Src (Itl K b) io H0 F0 F [(b, .is (.lst xs))] ps (fun p x F' => ∃ t, x = .ref t ∧ F' t = some (.tup [.int p.1, .int p.2])) := by
  refine ⟨_, _, ht.len ▸ walk_list (xs := xs), fun F' H' M' S e hm => SqL.of (S.own _ (hm _ List.mem_cons_self)).1.1, fun i a x F' H' H'' M' ha S e _ y => ?_⟩
  obtain ⟨rfl, y⟩ := y
  obtain ⟨t, h1, h2⟩ := ht.get ha
  rw [h1] at y
  cases y
  exact ⟨F', S, Evl.Ex.refl _, t, rfl, e _ _ h2⟩
theorem zipIdx_by {α β : Type} (l : List α) (f : Nat → Bool) (g : Nat → β) : ((l.zipIdx.filter fun p => f p.2).map fun p => g p.2) = ((List.range l.length).filter f).map g := by
  have e : l.zipIdx.map Prod.snd = List.range l.length := by rw [List.zipIdx_map_snd, List.range_eq_range']
  rw [← e, List.filter_map, List.map_map]
  rfl
end
/-- names in the same order tell the same rows -/
theorem rowOf_congr {many : Int} {ties : List (Int × Int)} {n1 n2 : List Int} (W : WebOk many ties) (hs : ∀ a b, 0 ≤ a → a < many → 0 ≤ b → b < many → (nmAt n1 a < nmAt n1 b ↔ nmAt n2 a < nmAt n2 b)) {h : Int} (h0 : 0 ≤ h) (h1 : h < many) : rowOf many ties n1 h = rowOf many ties n2 h := by
  refine rows_unique W (f := rowOf many ties n1) (fun x x0 x1 => ?_) many.toNat h (rank_bound ⟨h0, h1⟩) h0 h1
  rw [rowOf_eq W ⟨x0, x1⟩]
  congr 2
  unfold lessN
  refine List.filter_congr fun o ho => ?_
  have hb := nbr_range W ho
  rw [decide_eq_decide]
  exact hs o x hb.1 hb.2 x0 x1
theorem rowsOf_congr {many : Int} {ties : List (Int × Int)} {n1 n2 : List Int} (W : WebOk many ties) (hs : ∀ a b, 0 ≤ a → a < many → 0 ≤ b → b < many → (nmAt n1 a < nmAt n1 b ↔ nmAt n2 a < nmAt n2 b)) : rowsOf many ties n1 = rowsOf many ties n2 := by
  unfold rowsOf
  refine List.map_congr_left fun h hh => ?_
  have := rgI_mem.mp hh
  exact rowOf_congr W hs this.1 this.2
/-- the set by names -/
def pickedOf (many : Int) (ties : List (Int × Int)) (names : List Int) : List Int := (rgI many).filter fun h => (rowOf many ties names h).1
theorem OvAll.rows {K : PySem.W.Frag} {H : Hp} : ∀ {xs : List V} {rs : List Row}, OvAll H xs (rs.map some) → DpAll K H xs (rs.map rowD)
  | _, [], .nil => .nil
  | _, _ :: _, .cons ⟨t, h1, h2⟩ r => by rw [h1]; exact .cons (dp_row (SqT.of h2)) (OvAll.rows r)
/-- those of a list of rows, some of which are None, that are none -/
theorem OvAll.some_of {K : PySem.W.Frag} {H : Hp} {c : Int → Bool} {ro : Int → Row} : ∀ {L : List Int} {ys : List V}, OvAll H ys (L.map fun o => if c o = true then some (ro o) else none) → DpAll K H (ys.filter fun x => !decide (x = .non)) (((L.filter c).map ro).map rowD)
  | [], _, .nil => .nil
  | o :: L, _, @Paired.cons _ _ _ y _ ys _ h r => by
    have h : OV H y (if c o = true then some (ro o) else none) := h
    rw [List.filter_cons, List.filter_cons]
    by_cases hc : c o = true
    · rw [if_pos hc] at h
      obtain ⟨t, h1, h2⟩ := h
      rw [if_pos hc, if_pos (by rw [h1]; rfl), h1, List.map_cons, List.map_cons]
      exact .cons (dp_row (SqT.of h2)) (OvAll.some_of r)
    · rw [if_neg hc] at h
      have h : y = .non := h
      rw [if_neg hc, if_neg (by rw [h]; decide)]
      exact OvAll.some_of r
theorem OvAll.map_get {H : Hp} {xs : List V} {many : Int} {ro : Int → Row} {d : Int → Bool} (h : OvAll H xs (stO many ro d)) : ∀ {L : List Int}, (∀ o ∈ L, 0 ≤ o ∧ o < many) → OvAll H (L.map fun o => xs.getD o.toNat .non) (L.map fun o => if d o = true then some (ro o) else none)
  | [], _ => .nil
  | o :: L, hL => by
    have ho := hL o List.mem_cons_self
    obtain ⟨x, e, ov⟩ := h.get o.toNat _ (stO_get ho.1 ho.2)
    refine .cons ?_ (OvAll.map_get h fun p hp => hL p (List.mem_cons_of_mem _ hp))
    show OV H (xs.getD o.toNat .non) (if d o = true then some (ro o) else none)
    rw [List.getD_eq_getElem?_getD, e]
    exact ov
theorem OvAll.set {H : Hp} {t : Addr} {r : Row} (ht : H t = some (.tup [.bl r.1, .int r.2])) : ∀ {xs : List V} {os : List (Option Row)} (i : Nat), OvAll H xs os → OvAll H (xs.set i (.ref t)) (os.set i (some r))
  | _, _, _, .nil => .nil
  | _, _, 0, .cons _ s => .cons ⟨t, rfl, ht⟩ s
  | _, _, i + 1, .cons q s => .cons q (OvAll.set ht i s)
theorem OvAll.non {H : Hp} {many : Int} {ro : Int → Row} : OvAll H (List.replicate many.toNat .non) (stO many ro fun _ => false) := by
  unfold stO
  have : ∀ (L : List Int), OvAll H (List.replicate L.length .non) (L.map fun h => if (fun _ => false) h = true then some (ro h) else none) := by
    intro L
    induction L with
    | nil => exact .nil
    | cons x r ih => exact .cons rfl ih
  have h := this (rgI many)
  rw [rgI_len] at h
  exact h
theorem dpAll_row_at {K : PySem.W.Frag} {H : Hp} {v : V} {r : Row} (h : Dp K H v (rowD r)) : ∃ t, v = .ref t ∧ SqT K H t [.bl r.1, .int r.2] := rowD_at h
/-- by rising names: who stands ahead -/
theorem ahead_iff {many : Int} {names order : List Int} (hp : order.Perm (rgI many)) (pw : order.Pairwise fun a b => nmAt names a < nmAt names b) {i : Nat} {h o : Int} (hi : order[i]? = some h) (h0 : 0 ≤ o) (h1 : o < many) : o ∈ order.take i ↔ nmAt names o < nmAt names h := by
  obtain ⟨hi1, hi2⟩ := List.getElem?_eq_some_iff.mp hi
  have hpw := List.pairwise_iff_getElem.mp pw
  constructor
  · intro m
    obtain ⟨j, hj, ej⟩ := List.mem_iff_getElem.mp m
    rw [List.length_take] at hj
    rw [List.getElem_take] at ej
    have := hpw j i (by omega) hi1 (by omega)
    rw [ej, hi2] at this
    exact this
  · intro lt
    obtain ⟨j, hj, ej⟩ := List.mem_iff_getElem.mp (hp.mem_iff.mpr (rgI_mem.mpr ⟨h0, h1⟩))
    by_cases c : j < i
    · exact List.mem_iff_getElem.mpr ⟨j, by rw [List.length_take]; omega, by rw [List.getElem_take]; exact ej⟩
    · exfalso
      by_cases c2 : j = i
      · subst c2
        rw [hi2] at ej
        rw [ej] at lt
        omega
      · have := hpw i j hi1 hj (by omega)
        rw [hi2, ej] at this
        omega
/-! ### set(t), t a tuple of tuples of ints, fewer than 64 -/
section
variable {P : Program} {w : World} {A : Around} {E : Value → Shared → Prop} {s : Shared}
set_option maxHeartbeats 9000000 in
theorem set_of_tuple {l : Addr} {its : Array Value} (ks : List (Addr × List Int)) {Q : Value → Shared → Prop} (calm : A.handled = none) (ist : IsTup s.heap l its) (are : its.toList = ks.map fun p => Value.ref p.1)
    (tups : ∀ p ∈ ks, IsT P w s.heap p.2 p.1) (few : ks.length < 64) (deep : A.units + 3 < cLine)
    (out : ∀ (g : Heap) (tk : Nat) L es ep t, SetTR P w g s.heap.objs.size L es ep t → Got ks ks.length L → (∀ b o, s.heap.get? b = some o → g.get? b = some o) → Q (.ref s.heap.objs.size) { s with heap := g, toks := tk }) :
    wpAny (model P w) A (call (.type "set") [.ref l]) Q E s := by
  have size_is : its.size = ks.length := by
    have z := congrArg List.length are
    rwa [Array.length_toList, List.length_map] at z
  have cs := F.called_set
  obtain ⟨m1, m2, m3⟩ := cs.mro
  have made := cs.made
  have subs := cs.sub
  have nty := cs.notType
  have can := cs.canCreate
  have tcall := F.typeCall_set_1 (.ref l)
  refine wpAny_call (codeAny_of_tree ?_)
  show wpAny _ _ (callAny (Value.type "set") _) _ _ _
  refine wpAny_pure ⟨Code.quiet_builtin _ (by decide +kernel), codeAny_builtin F.entry_type_call ?_⟩
  rw [Around.under_plain (weight_type_call_type "set" [.ref l] []) rfl]
  repeat (any_goals (first | wp_step | assumption))
  refine codeAny_mono (code_set_led1 (.ref l) (E := E) (Q₁ := fun v s1 => v = .ref s.heap.objs.size ∧ s1 = { s with heap := s.heap.push (emptyS w) }) ⟨rfl, rfl⟩) fun res s1 got => ?_
  cases res with
  | error _ => exact got
  | ok flow =>
    cases flow with
    | ret v =>
      obtain ⟨rfl, rfl⟩ := got
      have at0 : (s.heap.push (emptyS w)).get? s.heap.objs.size = some (emptyS w) := Heap.get?_push_size _ rfl
      have ty0 : Shared.TypeIs { s with heap := s.heap.push (emptyS w) } (.ref s.heap.objs.size) "set" := ⟨_, at0, rfl⟩
      have ini1 := cs.init.lookup
      have ini2 := cs.init.bind (.ref s.heap.objs.size)
      repeat (any_goals (first | wp_step | assumption))
      refine codeAny_mono (codeAny_call_builtin (R := wants (fun r s2 => r = .none ∧ ∃ g tk L es ep t, s2 = { s with heap := g, toks := tk } ∧ SetTR P w g s.heap.objs.size L es ep t ∧ Got ks ks.length L ∧ (∀ b o, s.heap.get? b = some o → g.get? b = some o)) E) cs.init.plain F.entry_set_init (check_set_init_1 ty0 ?_)) fun res2 s2 got2 => ?_
      · obtain ⟨ob, hob, hcl, n0, hdt⟩ := ist
        obtain ⟨k1, k2, k3, k4⟩ := ob
        simp only at hcl hdt
        subst hcl hdt
        have under : l < s.heap.objs.size := Heap.lt_size hob
        have hob2 : (s.heap.push (emptyS w)).get? l = some { cls := .type "tuple", dict := k2, data := .seq its n0, slots := k4 } := Heap.get?_push_of_some _ hob
        have t1 := F.sub_tuple_set
        have t2 := F.sub_tuple_frozenset
        have t3 : (Value.type "tuple" == Value.type "dict") = false := by decide
        have isl2 : (s.heap.push (emptyS w)).IsTuple l its := ⟨_, hob2, rfl, n0, rfl⟩
        unfold Builtin.«set.__init__» noKeywords Builtin.Frozenset.updateFrom
        generalize hit : pyIter = iter
        wp_walk
        subst hit
        refine wpAny_pyIter_tuple isl2 (wpAny_bind (wpAny_runValue ?_))
        have calm3 : A.in1.in1.in1.handled = none := by simp [calm]
        have apart : l ≠ (s.heap.push (emptyS w)).objs.size := by
          rw [Heap.size_push]
          exact Nat.ne_of_lt (Nat.lt_succ_of_lt under)
        have notin : s.heap.objs.size ∉ [(s.heap.push (emptyS w)).objs.size, l] := by
          intro m
          rw [Heap.size_push] at m
          rcases List.mem_cons.mp m with m | m
          · exact absurd m (Nat.ne_of_lt (Nat.lt_succ_self _))
          · exact absurd (List.mem_singleton.mp m) (Nat.ne_of_gt under)
        have vals : ∀ (i : Nat) (v : Value), its[i]? = some v → ∃ p, ks[i]? = some p ∧ v = .ref p.1 := fun i v hv => by
          have z : its.toList[i]? = some v := by rw [Array.getElem?_toList]; exact hv
          rw [are, List.getElem?_map] at z
          cases q : ks[i]? with
          | none => rw [q] at z; cases z
          | some p => rw [q] at z; exact ⟨p, rfl, (Option.some.inj z).symm⟩
        have gone : ∀ b, s.heap.objs.size ≤ b → s.heap.get? b = none := fun b hb => by
          cases q : s.heap.get? b with
          | none => rfl
          | some o => exact absurd (Nat.lt_of_lt_of_le (Heap.lt_size q) hb) (Nat.lt_irrefl _)
        refine set_update_tups (Walks.tuple calm3 _ l apart its).toS s.heap.objs.size notin ks size_is few vals s.heap tups (gone _ (Nat.le_refl _)) (fun b hb => gone b ?_) deep (its.size - 0) 0 _ (by omega) (Nat.zero_le _) ⟨⟨_, Heap.get?_push_size _ rfl, rfl, rfl⟩, isl2.push _⟩ (fun b o e => Heap.get?_push_of_some _ (Heap.get?_push_of_some _ e)) ?first ?last
        · rw [List.mem_singleton.mp hb, Heap.size_push]
          exact Nat.le_succ _
        case first => exact ⟨[], #[], 0, _, setTR_fresh (Heap.get?_push_of_some _ at0), Got.zero ks⟩
        case last =>
          intro s3 L es ep t moved set3 got3 keep3
          obtain ⟨g3, e1, e2, tk3, e3⟩ := s3
          have q1 : e1 = s.gens := moved.gens
          have q2 : e2 = s.drawn := moved.drawn
          have q3 : e3 = s.os := moved.os
          subst q1 q2 q3
          rw [size_is] at got3
          exact wpAny_pure (wpAny_pure ⟨rfl, g3, tk3, L, es, ep, t, rfl, set3, got3, keep3⟩)
      · cases res2 with
        | error _ => exact got2
        | ok flow2 =>
          cases flow2 with
          | ret _ =>
            obtain ⟨rfl, g, tk, L, es, ep, t, rfl, y1, y2, y3⟩ := got2
            repeat (any_goals (first | wp_step | assumption))
            exact out _ _ _ _ _ _ y1 y2 y3
          | _ => exact got2.elim
    | _ => exact got.elim
end
section
variable {X : Cx}
def rSetTT (K : PySem.W.Frag) (P : Program) (w : World) : List V → Hp → VK → Prop := fun xs H Q => ∃ (l : Addr) (ks : List (Addr × List Int)), xs = [V.ref l] ∧ SqT K H l (ks.map fun p => V.ref p.1) ∧ (∀ p ∈ ks, SqT K H p.1 (p.2.map V.int)) ∧ ks.length < 64 ∧
  ∀ a L, H a = none → (∀ p ∈ L, p ∈ ks) → (∀ p ∈ ks, p.2 ∈ L.map (·.2)) → Q (.ref a) (upd H a (SetTO P w a L))
theorem cr_setTT (hc : X.calm = true) (hu : X.A.units + 64 < cLine) : CallR X (.type "set") (rSetTT X.K X.prog X.w) := by
  intro pins s σ H xs us Q I r h
  obtain ⟨l, ks, rfl, hl, hk, hf, q⟩ := h
  obtain ⟨its, rv, pl, hz⟩ := I.tuple hl
  rw [Vals.ref1 r]
  have hn : H s.heap.objs.size = none := I.hok.fresh (Nat.le_refl _)
  refine set_of_tuple (P := X.prog) (w := X.w) ks (I.ok.hd hc) pl (by simpa using refs_of_vals rv) (fun p hp => I.isT (hk p hp)) hf (by omega) fun g tk L es ep t R got kp => ?_
  refine ⟨.ref s.heap.objs.size, upd H s.heap.objs.size (SetTO X.prog X.w s.heap.objs.size L), I.laid (t' := tk) kp (Nat.le_refl _) (setTO_new R.t0), rfl, q _ L hn (fun p hp => List.mem_of_mem_take (got.sub p hp)) fun p hp => got.all p (by rw [List.take_length]; exact hp)⟩
end
section
variable {many : Int} {ties : List (Int × Int)} {names : List Int}
theorem rowBy_fst (rows : List Row) : (rowBy rows).1 = true ↔ ∀ r ∈ rows, r.1 = false := by
  constructor
  · intro h
    exact (rowBy_true (n := (rowBy rows).2) (by rw [← h])).1
  · intro h
    cases e : (rowBy rows).1 with
    | true => rfl
    | false =>
      obtain ⟨⟨r, hr, q⟩, _⟩ := rowBy_false (n := (rowBy rows).2) (show rowBy rows = (false, (rowBy rows).2) by rw [← e])
      have := h r hr
      rw [q] at this
      cases this
theorem chosen_iff (W : WebOk many ties) {h : Int} (hh : 0 ≤ h ∧ h < many) : (rowOf many ties names h).1 = true ↔ ∀ o ∈ lessN ties names h, (rowOf many ties names o).1 = false := by
  rw [rowOf_eq W hh, rowBy_fst]
  constructor
  · intro q o ho
    exact q _ (List.mem_map_of_mem (f := rowOf many ties names) ho)
  · rintro q r hr
    obtain ⟨o, ho, rfl⟩ := List.mem_map.mp hr
    exact q o ho
/-- the set by names is the one that goes by its lesser neighbours -/
theorem chosen_only (W : WebOk many ties) {c : Int → Bool} (hc : ∀ h, 0 ≤ h → h < many → (c h = true ↔ ∀ o ∈ lessN ties names h, c o = false)) : ∀ (n : Nat) (h : Int), rank many names h < n → 0 ≤ h → h < many → c h = (rowOf many ties names h).1
  | 0, _, h, _, _ => absurd h (Nat.not_lt_zero _)
  | n + 1, h, hr, h0, h1 => by
    rw [Bool.eq_iff_iff, hc h h0 h1, chosen_iff W ⟨h0, h1⟩]
    constructor
    · intro q o ho
      have hl := rank_lt W ho
      have hb := nbr_range W (List.mem_filter.mp ho).1
      rw [← chosen_only W hc n o (by omega) hb.1 hb.2]
      exact q o ho
    · intro q o ho
      have hl := rank_lt W ho
      have hb := nbr_range W (List.mem_filter.mp ho).1
      rw [chosen_only W hc n o (by omega) hb.1 hb.2]
      exact q o ho
theorem picked_mem {h : Int} : h ∈ pickedOf many ties names ↔ (0 ≤ h ∧ h < many) ∧ (rowOf many ties names h).1 = true := by
  unfold pickedOf
  rw [List.mem_filter, rgI_mem]
theorem picked_ok : SetOk many (pickedOf many ties names) := ⟨(rgI_up many).filter _, fun h hh => (picked_mem.mp hh).1⟩
theorem oth_ne (W : WebOk many ties) {h o : Int} (ho : o ∈ nbr ties h) : o ≠ h := fun z => by
  subst z
  rcases (nbr_iff W).mp ho with q | q
  · have := W.ok _ q; simp only at this; omega
  · have := W.ok _ q; simp only at this; omega
theorem nbr_sym (W : WebOk many ties) {h o : Int} (ho : o ∈ nbr ties h) : h ∈ nbr ties o := by
  rcases (nbr_iff W).mp ho with q | q
  · exact (nbr_iff W).mpr (.inr q)
  · exact (nbr_iff W).mpr (.inl q)
/-- no two neighbours are picked -/
theorem picked_free (W : WebOk many ties) (N : NamesOk many names) {h o : Int} (hh : 0 ≤ h ∧ h < many) (ho : o ∈ nbr ties h) (c : (rowOf many ties names h).1 = true) : (rowOf many ties names o).1 = false := by
  have hor := nbr_range W ho
  have nn := nm_ne N hor hh (oth_ne W ho)
  by_cases q : nmAt names o < nmAt names h
  · exact (chosen_iff W hh).mp c o (List.mem_filter.mpr ⟨ho, decide_eq_true q⟩)
  · cases e : (rowOf many ties names o).1 with
    | false => rfl
    | true =>
      have := (chosen_iff W hor).mp e h (List.mem_filter.mpr ⟨nbr_sym W ho, decide_eq_true (by omega)⟩)
      rw [c] at this
      cases this
theorem picked_apart (W : WebOk many ties) (N : NamesOk many names) : firstTie ties (pickedOf many ties names) = none := by
  refine find_none _ _ fun t ht => ?_
  unfold tieIn
  cases e : decide (t.1 ∈ pickedOf many ties names) with
  | false => rfl
  | true =>
    rw [Bool.true_and]
    refine decide_eq_false fun q => ?_
    have e := picked_mem.mp (of_decide_eq_true e)
    have q := picked_mem.mp q
    have := picked_free W N e.1 (o := t.2) ((nbr_iff W).mpr (.inl ht)) e.2
    rw [q.2] at this
    cases this
theorem picked_near (W : WebOk many ties) {h : Int} (hh : 0 ≤ h ∧ h < many) (c : (rowOf many ties names h).1 = false) : ∃ o ∈ lessN ties names h, (rowOf many ties names o).1 = true := by
  refine Classical.byContradiction fun z => ?_
  have := (chosen_iff (names := names) W hh).mpr fun o ho => by
    cases e : (rowOf many ties names o).1 with
    | false => rfl
    | true => exact absurd ⟨o, ho, e⟩ z
  rw [c] at this
  cases this
theorem picked_full (W : WebOk many ties) : firstBare many ties (pickedOf many ties names) = none := by
  refine find_none _ _ fun h hh => ?_
  have hh := rgI_mem.mp hh
  rw [Bool.not_eq_false']
  unfold cov
  rw [Bool.or_eq_true, decide_eq_true_eq, List.any_eq_true]
  cases e : (rowOf many ties names h).1 with
  | true => exact .inl (picked_mem.mpr ⟨hh, e⟩)
  | false =>
    obtain ⟨o, ho, c⟩ := picked_near W hh e
    have ho := (List.mem_filter.mp ho).1
    exact .inr ⟨o, ho, decide_eq_true (picked_mem.mpr ⟨nbr_range W ho, c⟩)⟩
theorem picked_lacks (W : WebOk many ties) (N : NamesOk many names) : lacksD many ties (pickedOf many ties names) = .none := by
  unfold lacksD
  rw [picked_apart W N, picked_full W]
/-- there are at most as many rounds as chosen ones -/
theorem latest_le (W : WebOk many ties) : maxDf 0 ((rowsOf many ties names).map fun r => r.2) ≤ ((pickedOf many ties names).length : Int) := by
  have key : ∀ (L : List Int) (h : Int), (0 ≤ h ∧ h < many) → (rowOf many ties names h).2 ≤ ((pickedOf many ties names).length : Int) := by
    intro _ h hh
    have hp := row_pos (names := names) W (rank many names h + 1) h (by omega) hh.1 hh.2
    generalize hm : (rowOf many ties names h).2 = m at hp
    have : ((List.range m.toNat).map fun k : Nat => (k : Int) + 1).length ≤ ((pickedOf many ties names).map fun h => (rowOf many ties names h).2).length := by
      refine len_le_of_sub ?_ fun x hx => ?_
      · refine List.Pairwise.map _ ?_ List.nodup_range
        intro a b h e
        exact h (by omega)
      · obtain ⟨k, hk, rfl⟩ := List.mem_map.mp hx
        have hk := List.mem_range.mp hk
        obtain ⟨o, o0, o1, e⟩ := some_fresh (names := names) W (n := (k : Int)) (by omega) (rank many names h + 1) h (by omega) hh.1 hh.2 (by omega)
        exact List.mem_map.mpr ⟨o, picked_mem.mpr ⟨⟨o0, o1⟩, by rw [e]⟩, by rw [e]⟩
    rw [List.length_map, List.length_map, List.length_range] at this
    omega
  unfold maxDf
  cases e : (rowsOf many ties names).map fun r => r.2 with
  | nil => simp only; omega
  | cons x r =>
    have s := (maxL_spec x r).1
    rw [← e] at s
    simp only
    obtain ⟨rw', hr, er⟩ := List.mem_map.mp s
    unfold rowsOf at hr
    obtain ⟨h, hh, eh⟩ := List.mem_map.mp hr
    rw [← er, ← eh]
    exact key [] h (rgI_mem.mp hh)
/-- the house of the least name -/
theorem least_first (W : WebOk many ties) {h : Int} (hh : 0 ≤ h ∧ h < many) (hl : ∀ o, 0 ≤ o → o < many → nmAt names h ≤ nmAt names o) : rowOf many ties names h = (true, 1) := by
  rw [rowOf_eq W hh]
  have e : lessN ties names h = [] := by
    unfold lessN
    rw [List.filter_eq_nil_iff]
    intro o ho
    have hb := nbr_range W ho
    have := hl o hb.1 hb.2
    rw [decide_eq_true_eq]
    omega
  rw [e]
  rfl
/-- names by which the houses of a set go first -/
structure FirstsOk (many : Int) (names some' ns : List Int) : Prop where
  ok : NamesOk many ns
  first : ∀ h ∈ some', ∀ o, 0 ≤ o → o < many → o ∉ some' → nmAt ns h < nmAt ns o
theorem firsts_same (W : WebOk many ties) (N : NamesOk many names) {ns : List Int} (F : FirstsOk many names (pickedOf many ties names) ns) : pickedOf many ties ns = pickedOf many ties names := by
  unfold pickedOf
  refine List.filter_congr fun h hh => ?_
  have hh := rgI_mem.mp hh
  symm
  refine chosen_only W (c := fun h => (rowOf many ties names h).1) (fun x x0 x1 => ?_) many.toNat h (rank_bound ⟨hh.1, hh.2⟩) hh.1 hh.2
  constructor
  · intro c o ho
    exact picked_free W N ⟨x0, x1⟩ (List.mem_filter.mp ho).1 c
  · intro q
    cases e : (rowOf many ties names x).1 with
    | true => rfl
    | false =>
      obtain ⟨o, ho, c⟩ := picked_near W ⟨x0, x1⟩ e
      have ho := (List.mem_filter.mp ho).1
      have hb := nbr_range W ho
      have lt := F.first o (picked_mem.mpr ⟨hb, c⟩) x x0 x1 (fun z => by rw [(picked_mem.mp z).2] at e; cases e)
      rw [q o (List.mem_filter.mpr ⟨ho, decide_eq_true lt⟩)] at c
      cases c
/-- a tie of which neither house is chosen turns nothing -/
theorem more_same (W : WebOk many ties) {ties' : List (Int × Int)} (W' : WebOk many ties') (N : NamesOk many names) {a b : Int} (ha : (rowOf many ties names a).1 = false) (hb : (rowOf many ties names b).1 = false)
    (hm : ∀ t : Int × Int, t ∈ ties' ↔ t ∈ ties ∨ t = (a, b)) : pickedOf many ties' names = pickedOf many ties names := by
  unfold pickedOf
  refine List.filter_congr fun h hh => ?_
  have hh := rgI_mem.mp hh
  symm
  refine chosen_only W' (c := fun h => (rowOf many ties names h).1) (fun x x0 x1 => ?_) many.toNat h (rank_bound ⟨hh.1, hh.2⟩) hh.1 hh.2
  constructor
  · intro c o ho
    have ho := (List.mem_filter.mp ho).1
    have : o ∈ nbr ties x := by
      rcases (nbr_iff W').mp ho with q | q
      · rcases (hm _).mp q with z | z
        · exact (nbr_iff W).mpr (.inl z)
        · cases z
          have c : (rowOf many ties names a).1 = true := c
          rw [ha] at c
          cases c
      · rcases (hm _).mp q with z | z
        · exact (nbr_iff W).mpr (.inr z)
        · cases z
          have c : (rowOf many ties names b).1 = true := c
          rw [hb] at c
          cases c
    exact picked_free W N ⟨x0, x1⟩ this c
  · intro q
    cases e : (rowOf many ties names x).1 with
    | true => rfl
    | false =>
      obtain ⟨o, ho, c⟩ := picked_near W ⟨x0, x1⟩ e
      have hl := List.mem_filter.mp ho
      have m : o ∈ lessN ties' names x := by
        refine List.mem_filter.mpr ⟨?_, hl.2⟩
        rcases (nbr_iff W).mp hl.1 with z | z
        · exact (nbr_iff W').mpr (.inl ((hm _).mpr (.inl z)))
        · exact (nbr_iff W').mpr (.inr ((hm _).mpr (.inl z)))
      rw [q o m] at c
      cases c
end
/-! ### t + u, either may be empty -/
section
variable {prog : Program} {w : World} {A : Around} {E : Value → Shared → Prop} {s : Shared}
theorem cat_left0 {t b : Addr} {ws : List Value} {Q : Value → Shared → Prop} (ht : IsTup s.heap t ([] : List Value).toArray) (hb : IsTup s.heap b ws.toArray) (q : Q (.ref b) s) : wpAny (model prog w) A (binaryOp .Add (.ref t) (.ref b)) Q E s := by
  obtain ⟨⟨c1, d1, x1, l1⟩, o1, e1, m1, f1⟩ := id ht
  obtain ⟨⟨c2, d2, x2, l2⟩, o2, e2, m2, f2⟩ := id hb
  simp only at e1 f1 e2 f2
  subst e1 f1 e2 f2
  exact concat_meets ⟨_, o1, rfl⟩ ⟨_, o2, rfl⟩ noFill_tuple_add seq_tuple_add PySem.F.slot_tuple_add PySem.F.entry_tuple_add (PySem.F.args_tuple_add_2 _ _) (tuple_addW0 t b _ _ m1 m2 d1 d2 l1 l2 rfl) ⟨o1, o2, q⟩
end
def rCatTG (K : PySem.W.Frag) : R2 := fun x y H Q => ∃ a b xs ys, x = .ref a ∧ y = .ref b ∧ SqT K H a xs ∧ SqT K H b ys ∧ xs.length + ys.length ≤ sizeLine ∧ (xs = [] → Q (.ref b) H) ∧ (xs ≠ [] → ys = [] → Q (.ref a) H) ∧ (xs ≠ [] → ys ≠ [] → newK H (.tup (xs ++ ys)) Q)
theorem op_catTG {X : Cx} : OpR X (binaryOp .Add) (rCatTG X.K) := by
  intro pins s σ H x y v u Q I rx ry h
  obtain ⟨a, b, xs, ys, rfl, rfl, ha, hb, hz, q0, q1, q2⟩ := h
  by_cases hx : xs = []
  · cases rx
    cases ry
    obtain ⟨its, r1, p1, _⟩ := I.tuple ha
    obtain ⟨its2, r2, p2, _⟩ := I.tuple hb
    have e1 : its = [] := r1.nil_iff.mpr hx
    subst e1
    exact cat_left0 p1 p2 ⟨.ref b, H, I, rfl, q0 hx⟩
  · exact op_catT pins s σ H _ _ v u Q I rx ry ⟨a, b, xs, ys, rfl, rfl, ha, hb, hx, hz, q1 hx, fun hy => q2 hx hy⟩
theorem s_catT {K : PySem.W.Frag} {H : Hp} {a b : Addr} {xs ys : List V} {Q : VK} (ha : SqT K H a xs) (hb : SqT K H b ys) (hz : xs.length + ys.length ≤ 100000) (q0 : xs = [] → Q (.ref b) H) (q1 : xs ≠ [] → ys = [] → Q (.ref a) H) (q2 : xs ≠ [] → ys ≠ [] → newK H (.tup (xs ++ ys)) Q) : rCatTG K (.ref a) (.ref b) H Q :=
  ⟨a, b, xs, ys, rfl, rfl, ha, hb, Nat.le_trans hz (by decide), q0, q1, q2⟩
/-- x is y, x is not y, truths -/
theorem r_isB {a b : Bool} {H : Hp} {Q : VK} (q : Q (.bl (decide (a = b))) H) : (fun x y H Q => ∃ a b, x = V.bl a ∧ y = V.bl b ∧ Q (.bl (decide (a = b))) H : R2) (.bl a) (.bl b) H Q := ⟨a, b, rfl, rfl, q⟩
def rNotBl : R2 := fun x y H Q => ∃ a b, x = V.bl a ∧ y = V.bl b ∧ Q (.bl (!decide (a = b))) H
theorem op_notBl {X : Cx} : OpR X (compareOp .IsNot) rNotBl := op_isnot_bl
theorem r_notBl {a b : Bool} {H : Hp} {Q : VK} (q : Q (.bl (!decide (a = b))) H) : rNotBl (.bl a) (.bl b) H Q := ⟨a, b, rfl, rfl, q⟩
def rIsBl : R2 := fun x y H Q => ∃ a b, x = V.bl a ∧ y = V.bl b ∧ Q (.bl (decide (a = b))) H
theorem op_isBl2 {X : Cx} : OpR X (compareOp .Is) rIsBl := op_is_bl
theorem r_isBl {a b : Bool} {H : Hp} {Q : VK} (q : Q (.bl (decide (a = b))) H) : rIsBl (.bl a) (.bl b) H Q := ⟨a, b, rfl, rfl, q⟩
/-! ### == of lists of ints -/
theorem eqvAll_ints : ∀ a b : List Int, PyData.eqvAll (a.map PyData.int) (b.map PyData.int) = decide (a = b)
  | [], [] => by simp [PyData.eqvAll]
  | [], _ :: _ => by simp [PyData.eqvAll]
  | _ :: _, [] => by simp [PyData.eqvAll]
  | x :: a, y :: b => by
    rw [List.map_cons, List.map_cons, PyData.eqvAll, eqvAll_ints a b]
    by_cases h1 : x = y <;> by_cases h2 : a = b <;> simp [h1, h2, PyData.eqv]
theorem eqv_ints (a b : List Int) : PyData.eqv (intsD a) (intsD b) = decide (a = b) := by
  unfold intsD
  rw [PyData.eqv]
  exact eqvAll_ints a b
theorem r_neInts {K : PySem.W.Frag} {H : Hp} {Q : VK} {p q : Addr} {a b : List Int} (h : SqL K H p (a.map V.int)) (g : SqL K H q (b.map V.int)) (z : Q (.bl (!decide (a = b))) H) : rNeD K (.ref p) (.ref q) H Q :=
  ⟨_, _, dp_ints h, dp_ints g, shaped_ints a, shaped_ints b, by have := eqv_ints a b; unfold intsD at this; rw [this]; exact z⟩
theorem r_eqInts {K : PySem.W.Frag} {H : Hp} {Q : VK} {p q : Addr} {a b : List Int} (h : SqL K H p (a.map V.int)) (g : SqL K H q (b.map V.int)) (z : Q (.bl (decide (a = b))) H) : rEqD K (.ref p) (.ref q) H Q :=
  ⟨_, _, dp_ints h, dp_ints g, shaped_ints a, shaped_ints b, by have := eqv_ints a b; unfold intsD at this; rw [this]; exact z⟩
/-! ### min -/
theorem r_min {K : PySem.W.Frag} {H : Hp} {Q : VK} {a : Addr} {ns : List Int} (h : SqL K H a (ns.map V.int)) (h0 : 0 < ns.length) (q : ∀ m, m ∈ ns → (∀ y, y ∈ ns → m ≤ y) → Q (.int m) H) : rMin K [.ref a] H Q := ⟨a, ns, rfl, h, h0, q⟩
/-! ### sets of pairs -/
section
variable {io : List Addr} {H0 F0 F H : Hp} {M : List (Addr × Cel)} {K : PySem.W.Frag} {P : Program} {w : World} {Q : VK} {a : Addr}
/-- set(t), t a tuple of pairs of small numbers -/
theorem s_setTT {xs : List V} {ps : List (Int × Int)} (S : Sep io H0 F0 F H M) (h : SqT K F a xs) (ht : DpAll K F xs (ps.map tieD)) (few : ps.length < 64)
    (k : ∀ (q : Addr) (L : List (Addr × List Int)) (F' H' : Hp), Sep io H0 F0 F' H' M → Evl.Ex F F' → F' q = some (SetTO P w q L) → (∀ p ∈ L, ∃ t : Int × Int, t ∈ ps ∧ p.2 = [t.1, t.2] ∧ SqT K F' p.1 [.int t.1, .int t.2]) → (∀ t ∈ ps, [t.1, t.2] ∈ L.map (·.2)) → Q (.ref q) H') : rSetTT K P w [.ref a] H Q := by
  obtain ⟨ks, e1, e2, e3⟩ : ∃ ks : List (Addr × List Int), xs = ks.map (fun p => V.ref p.1) ∧ ks.map (·.2) = ps.map (fun t => [t.1, t.2]) ∧ ∀ p ∈ ks, ∃ t : Int × Int, t ∈ ps ∧ p.2 = [t.1, t.2] ∧ SqT K F p.1 [.int t.1, .int t.2] := by
    clear h few k
    induction ps generalizing xs with
    | nil => cases ht; exact ⟨[], rfl, rfl, fun p hp => by cases hp⟩
    | cons t r ih =>
      cases ht with
      | cons hx hr =>
        obtain ⟨b, rfl, hb⟩ := tieD_at hx
        obtain ⟨ks, i1, i2, i3⟩ := ih hr
        refine ⟨(b, [t.1, t.2]) :: ks, by rw [i1]; rfl, by rw [List.map_cons, List.map_cons, i2], fun p hp => ?_⟩
        rcases List.mem_cons.mp hp with rfl | hp
        · exact ⟨t, List.mem_cons_self, rfl, hb⟩
        · obtain ⟨u, g1, g2, g3⟩ := i3 p hp
          exact ⟨u, List.mem_cons_of_mem _ g1, g2, g3⟩
  subst e1
  have kl : ks.length = ps.length := by rw [← List.length_map (f := fun p : Addr × List Int => p.2), e2, List.length_map]
  refine ⟨a, ks, rfl, Evl.ex_t S.fr h, fun p hp => ?_, by omega, fun q L hq h1 h2 => ?_⟩
  · obtain ⟨t, _, g2, g3⟩ := e3 p hp
    rw [g2]
    exact Evl.ex_t S.fr g3
  · refine k q L _ _ (S.newF hq _) (Evl.Ex.new (S.fnone hq)) upd_same (fun p hp => ?_) fun t ht => ?_
    · obtain ⟨t, g1, g2, g3⟩ := e3 p (h1 p hp)
      exact ⟨t, g1, g2, Evl.ex_t (Evl.Ex.new (S.fnone hq)) g3⟩
    · have m : [t.1, t.2] ∈ ks.map (·.2) := by rw [e2]; exact List.mem_map.mpr ⟨t, ht, rfl⟩
      obtain ⟨p, hp, e⟩ := List.mem_map.mp m
      rw [← e]
      exact h2 p hp
/-- sorted(that set): the pairs, each once, rising -/
theorem s_sortTT {ps : List (Int × Int)} {L : List (Addr × List Int)} (S : Sep io H0 F0 F H M) (h : F a = some (SetTO P w a L)) (hb : ∀ t ∈ ps, (0 ≤ t.1 ∧ t.1 < 64) ∧ 0 ≤ t.2 ∧ t.2 < 64) (h1 : ∀ p ∈ L, ∃ t : Int × Int, t ∈ ps ∧ p.2 = [t.1, t.2] ∧ SqT K F p.1 [.int t.1, .int t.2]) (h2 : ∀ t ∈ ps, [t.1, t.2] ∈ L.map (·.2))
    (k : ∀ (q : Addr) (ys : List V) (ts : List (Int × Int)) (F' H' : Hp), Sep io H0 F0 F' H' M → Evl.Ex F F' → F' q = some (.lst ys) → DpAll K F' ys (ts.map tieD) → ts.Pairwise Lx → (∀ t, t ∈ ts ↔ t ∈ ps) → Q (.ref q) H') : rSortedT K P w [.ref a] H Q := by
  refine ⟨a, L, 2, 64, rfl, S.fr _ _ h, fun p hp => ?_, by decide, fun p hp => ?_, fun L' q hp nd len pw hq => ?_⟩
  · obtain ⟨t, _, g2, g3⟩ := h1 p hp
    rw [g2]
    exact Evl.ex_t S.fr g3
  · obtain ⟨t, g1, g2, _⟩ := h1 p hp
    rw [g2]
    refine ⟨rfl, fun n hn => ?_⟩
    have := hb t g1
    rcases List.mem_cons.mp hn with rfl | hn
    · exact this.1
    · rw [List.mem_singleton.mp hn]; exact this.2
  · have S' := S.newF hq (.lst (L'.map fun q => V.ref q.1))
    have e := Evl.Ex.new (o := .lst (L'.map fun q => V.ref q.1)) (S.fnone hq)
    let f : Addr × List Int → Int × Int := fun p => (p.2.getD 0 0, p.2.getD 1 0)
    have hf : ∀ p ∈ L', ∃ t : Int × Int, t ∈ ps ∧ p.2 = [t.1, t.2] ∧ SqT K F p.1 [.int t.1, .int t.2] ∧ f p = t := fun p hp' => by
      obtain ⟨t, g1, g2, g3⟩ := h1 p (hp.mem_iff.mp hp')
      refine ⟨t, g1, g2, g3, ?_⟩
      show (p.2.getD 0 0, p.2.getD 1 0) = t
      rw [g2]
      rfl
    refine k q _ (L'.map f) _ _ S' e upd_same ?_ ?_ fun t => ?_
    · refine DpAll.ex e _ _ ?_
      clear hp nd len pw S' e hq
      induction L' with
      | nil => exact .nil
      | cons p r ih =>
        obtain ⟨t, _, _, g3, g4⟩ := hf p List.mem_cons_self
        refine .cons ?_ (ih fun p hp => hf p (List.mem_cons_of_mem _ hp))
        rw [g4]
        exact .tup g3 (.cons (.int _) (.cons (.int _) .nil))
    · refine List.pairwise_map.mpr (List.Pairwise.imp_of_mem ?_ (List.Pairwise.and pw (List.pairwise_map.mp nd)))
      intro p r hp' hr' ⟨c, ne⟩
      obtain ⟨t, g1, g2, _, g4⟩ := hf p hp'
      obtain ⟨u, k1, k2, _, k4⟩ := hf r hr'
      rw [g4, k4]
      rw [g2, k2] at c ne
      have b1 := hb t g1
      have b2 := hb u k1
      exact pair_lt c ne b1.1 b1.2 b2.1 b2.2
    · constructor
      · intro m
        obtain ⟨p, hp', e⟩ := List.mem_map.mp m
        obtain ⟨u, g1, _, _, g4⟩ := hf p hp'
        rw [← e, g4]
        exact g1
      · intro m
        obtain ⟨p, hp', e⟩ := List.mem_map.mp (h2 t m)
        refine List.mem_map.mpr ⟨p, hp.mem_iff.mpr hp', ?_⟩
        show (p.2.getD 0 0, p.2.getD 1 0) = t
        rw [e]
        rfl
theorem s_catS {b : Addr} {xs ys : List V} (S : Sep io H0 F0 F H M) (ha : SqT K F a xs) (hb : SqT K F b ys) (hy : ys ≠ []) (hz : xs.length + ys.length ≤ 100000) (k : ∀ (u : Addr) (F' H' : Hp), Sep io H0 F0 F' H' M → Evl.Ex F F' → SqT K F' u (xs ++ ys) → Q (.ref u) H') : rCatTG K (.ref a) (.ref b) H Q := by
  refine s_catT (Evl.ex_t S.fr ha) (Evl.ex_t S.fr hb) hz (fun e => ?_) (fun _ e => absurd e hy) (fun _ _ => s_new S fun u F' H' S' e c => k u F' H' S' e (SqT.of c))
  subst e
  exact k b F H S (Evl.Ex.refl _) hb
theorem r_neSameD {x y : V} {d : PyData} (h : Dp K H x d) (g : Dp K H y d) (sh : SeqAt.shaped d = true) (z : Q (.bl false) H) : rNeD K x y H Q := by
  refine ⟨_, _, h, g, sh, sh, ?_⟩
  rw [SeqAt.eqv_refl _ (SeqAt.canLay_of_shaped sh)]
  exact z
end
/-! ### an own error whose __init__ says super().__init__(a text) and keeps a field -/
section
variable {prog : Program} {w : World} {A : Around} {E : Value → Shared → Prop} {h : Heap} {g : Array GenState} {d : Drawn} {t : Nat} {os : OsState}
/-- the bound ValueError.__init__, called -/
theorem call_mw {nm q : Str} {N : Addr} {bs bm : List Value} {hdct : Bool} {sn : List Str} {sub : List Value} {ab : Bool} {col : Option Bool} {dd : Option Addr} {k0 k1 k2 k3 k5 : Option Value}
    {C e u t0 : Addr} {rest : List Value} {Q : Value → Shared → Prop}
    (hC : h.get? C = some (excClassObj nm q C N bs bm hdct sn sub ab col dd k0 k1 k2 k3 k5 "ValueError.__new__"))
    (he : h.get? e = some (HandSPX.excO C t0)) (hu : h.get? u = some (PySem.W.kxs_mw "ValueError.__init__" e)) (hz : rest.length ≤ sizeLine)
    (fin : ∀ h' t1, (∀ b o, b ≠ e → h.get? b = some o → h'.get? b = some o) → h'.get? e = some (HandSPX.excO C t1) → Q .none ⟨h', g, d, t, os⟩) :
    wpAny (model prog w) A (call (.ref u) rest) Q E ⟨h, g, d, t, os⟩ := by
  have FB := F.excBase_ValueError
  refine wpAny_call (codeAny_of_tree ?_)
  show wpAny _ A.in1 (callAny (Value.ref u) { pos := rest, kw := [] }) _ _ _
  simp only [callAny]
  refine wpAny_bind (wpAny_load hu ?_)
  rw [show (PySem.W.kxs_mw "ValueError.__init__" e).cls = Value.type "method-wrapper" from rfl]
  simp only [PySem.W.kxs_mw]
  refine W.KFB.if_so (by decide) ?_
  refine W.KFB.if_so (by decide) ?_
  refine wpAny_bind (W.check_bound_init FB.toExcCallFacts hC he rfl ?_)
  refine wpAny_bind (wpAny_pure (wpAny_pure ⟨plainId_quiet FB.init.plain _, codeAny_builtin FB.initEntry ?_⟩))
  exact W.exc_init_tree (t0 := t0) (cls := .ref C) (dv := none) (c2 := .none) (c3 := .none) (b4 := .bool false) he hz fun h' k x _ => fin h' _ k x
end
/-- what the written part says of the class at C and its __init__ at fI -/
structure SupC (prog : Program) (K : PySem.W.Frag) (C fI cc cda : Addr) (qual file : Str) : Prop where
  oex : OexC K C
  mro : PySem.W.mroIn K C (.ref C) = some true
  sup : PySem.W.ks_superIn K C C "__init__" = some (some (.builtin "ValueError.__init__"))
  ve : PySem.W.subIn K (.ref C) (.type "ValueError") = some true
  tp : PySem.W.nsIn K cStatics "thirdparty.any" = some none
  cel : ∃ ccl cdd ccs, K.lookup cc = some ⟨ccl, cdd, .cell (some (.ref C)), ccs⟩
  cod : ∃ ccl cdd vs ccs tf, K.lookup cda = some ⟨ccl, cdd, .fields vs, ccs⟩ ∧ vs[2]? = some (.str file tf)
  fil : ((prog.main.file : Str) == file) = true
  top : (prog.main.scope.names.lookup ("super" : Str)).isSome = false
  cdi : PySem.W.codeIn K (.ref cda) qual = true
abbrev supScope : Scope := { kind := .function, names := [("self", .local), ("number", .local), ("__class__", .free), ("super", .globalImplicit)], isGenerator := false, isCoroutine := false, more := [] }
abbrev supBody (text : Str) (p0 p1 p2 p3 p4 p5 p6 p7 p8 p9 : Pos) : List Stmt :=
  [.Expr (.Call (.Attribute (.Call (.Name "super" p0) [] [] p1) "__init__" p2) [.Constant (.str text) 0 p3] [] p4) p5, .Assign [.Attribute (.Name "self" p6) "number" p7] (.Name "number" p8) p9]
abbrev supParams (q1 q2 : Pos) : Arguments := { posonlyargs := [], args := [{ arg := "self", annotation := none, pos := q1 }, { arg := "number", annotation := none, pos := q2 }], vararg := none, kwonlyargs := [], kw_defaults := [], kwarg := none, defaults := [] }
/-- the promise of such an __init__ -/
def SpSup (C : Addr) : Sp := fun vs H Q _ => ∃ (a : Addr) (n : Int), vs = [.ref a, .int n] ∧ H a = some (exo a C none) ∧ ∀ dx, H dx = none → dx ≠ a → Q .non (upd (upd H dx (exd dx [("number", .int n)])) a (exo a C (some dx)))
section
variable {P : Program} {w : World} {K : PySem.W.Frag} {mg : Str → Option Value} {base : Heap} {CX : CXT} {C fI cc cda : Addr} {name qual file text : Str} {q1 q2 p0 p1 p2 p3 p4 p5 p6 p7 p8 p9 : Pos} {dV kV doc pm ct oc : Value} {an od : Option Addr} {osl : Array (Option Value)} {k : Nat}
abbrev supFd (name qual : Str) (q1 q2 p0 p1 p2 p3 p4 p5 p6 p7 p8 p9 : Pos) (text : Str) (dV kV doc pm ct : Value) (an : Option Addr) (cc cda : Addr) : FuncData :=
  PySem.W.ksFn name qual (supParams q1 q2) (supBody text p0 p1 p2 p3 p4 p5 p6 p7 p8 p9) supScope dV kV doc pm an (.ref cda) ct cc
abbrev supEnv (qual : Str) (s : Shared) (fI cda cc : Addr) : Env := PySem.W.ksEnv qual supScope s.heap.objs.size fI (.ref cda) cc
abbrev supX (CX : CXT) (P : Program) (w : World) (K : PySem.W.Frag) (mg : Str → Option Value) (base : Heap) (qual : Str) (fI cda cc : Addr) (A : Around) (outer : List Env) (s : Shared) (H : Hp) (E : XK) : Cx where
  prog := P
  w := w
  K := K
  mg := mg
  base := base
  A := A.deeper (supEnv qual s fI cda cc)
  N := ["self", "number"]
  s_0 := s
  H_0 := H
  env := supEnv qual s fI cda cc
  outer := outer
  stack := supEnv qual s fI cda cc :: outer
  ex := []
  fn := fun _ => false
  calm := true
  pn := []
  xe := fun e s' => wpAny (model P w) (A.deeper (supEnv qual s fI cda cc)) (leaving (supEnv qual s fI cda cc) e) (fun _ s2 => CX outer H s E e s2) (fun e2 s2 => CX outer H s E e2 s2) s'
theorem sup_start {A : Around} {outer : List Env} {s : Shared} {H : Hp} {E : XK} {a : Addr} {n : Int} {u : Value} (T : SupC P K C fI cc cda qual file) (hd : A.handled = none) (e0 : Env0 P w K mg base A outer s H) (ru : RelV (.int n) u)
    {h0 : Heap} {tk : Nat} (hn : h0.Ns s.heap.objs.size (fun x => (List.reverse [(("self" : Str), Value.ref a), ("number", u)]).lookup x)) (hk : ∀ b o, s.heap.get? b = some o → h0.get? b = some o) :
    Inv (supX CX P w K mg base qual fI cda cc A outer s H E) [] [some (.ref a), some (.int n)] H { s with heap := h0, toks := tk } := by
  obtain ⟨ccl, cdd, ccs, hcc⟩ := T.cel
  have hc0 := e0.mod.kin _ _ hcc
  obtain ⟨hc1, hc2⟩ := e0.bs _ _ hc0
  have cl : ∀ (x : Str) (c : Addr), (supX CX P w K mg base qual fI cda cc A outer s H E).env.cells.lookup x = some c → c = cc ∧ x = "__class__" := fun x c e => by
    have e : List.lookup x [(("__class__" : Str), cc)] = some c := e
    have m := PySem.mem_of_lookup e
    rw [List.mem_singleton] at m
    cases m
    exact ⟨rfl, rfl⟩
  refine ⟨⟨e0.mod, rfl, rfl, rfl, Nat.le_refl _, fun y z c h1 h2 => ?_, fun y hy => ?_, fun y c h _ => (by cases h), fun _ => hd, Around.frames_deeper e0.frames, .inr ⟨rfl, rfl⟩, fun b z => (by cases z), e0.bs, e0.bsz, fun b _ _ z => (by cases z), fun b z => (by cases z), e0.funs, e0.frf⟩,
    rfl, e0.bare, Un.kept hk, ⟨_, hn, fun i y v h1 h2 h3 => ?_⟩, fun y c h => ?_, e0.hok.fresh (Nat.le_refl _), fun y c h => ?_, fun p hp => (by cases hp), e0.hok.kept hk, rfl⟩
  · rw [(cl _ _ h1).2, (cl _ _ h2).2]
  · have hy : supScope.names.lookup y = some .cell ∨ supScope.names.lookup y = some .free := hy
    rcases hy with hy | hy
    · have m := PySem.mem_of_lookup hy
      simp [supScope] at m
    · have m := PySem.mem_of_lookup hy
      simp [supScope] at m
      rw [m]
      exact ⟨cc, rfl⟩
  · match i, h1, h2 with
    | 0, h1, h2 => cases h1; cases h2; exact ⟨.ref a, rfl, .inl ⟨rfl, rfl⟩⟩
    | 1, h1, h2 => cases h1; cases h2; exact ⟨u, ru, .inl ⟨rfl, rfl⟩⟩
    | i + 2, h1, h2 => simp at h2
  · rw [(cl _ _ h).1]
    exact ⟨_, _, hk _ _ hc1, rfl⟩
  · rw [(cl _ _ h).1]
    exact hc2
theorem excBM_ve {nm q : Str} {N : Addr} {bs bm : List Value} {sn : List Str} {sub : List Value} {ab : Bool} {col : Option Bool} {dd : Option Addr} {k0 k1 k2 k3 k5 : Option Value} (h : K.lookup C = some (excClassObj nm q C N bs bm true sn sub ab col dd k0 k1 k2 k3 k5 "ValueError.__new__")) :
    PySem.W.clsIn K C = some { name := nm, bases := bs, mro := .ref C :: bm, ns := N, qualname := q, hasDict := true, slotNames := sn, subclasses := sub, abstract := ab, collection := col, hasDel := false } := by
  unfold PySem.W.clsIn
  rw [h] <;> rfl
def SupEval (text : Str) (p0 p1 p2 p3 p4 : Pos) : Prop := ∀ env : Env, ∃ pl, eval (.Call (.Attribute (.Call (.Name "super" p0) [] [] p1) "__init__" p2) [.Constant (.str text) 0 p3] [] p4) env = (do
      let ov ← attributeBase (.Call (.Name "super" p0) [] [] p1) "__init__" env (eval (.Call (.Name "super" p0) [] [] p1) env)
      standAt p2.atName
      let (f, first) ← holding [ov] (getMethod ov "__init__" pl)
      callWith p4 f first (backTo p4 (starEach [.Constant (.str text) 0 p3] env)) [])
theorem sup_ok (T : SupC P K C fI cc cda qual file) (lk : K.lookup fI = some ⟨oc, od, .func (supFd name qual q1 q2 p0 p1 p2 p3 p4 p5 p6 p7 p8 p9 text dV kV doc pm ct an cc cda), osl⟩)
    (hno : PySem.W.findIn K (.ref C) "number" = some none) (mgs : mg "super" = none) (hev : SupEval text p0 p1 p2 p3 p4) :
    FnOk P w K mg base CX (k + 1) fI (supFd name qual q1 q2 p0 p1 p2 p3 p4 p5 p6 p7 p8 p9 text dV kV doc pm ct an cc cda) ["self", "number"] (SpSup C) := by
  refine ⟨fun vs H Q E h => (by obtain ⟨a, n, rfl, _⟩ := h; rfl), fun A outer s H args us vs Q E hr e0 hb r hsp => ?_⟩
  obtain ⟨a, n, rfl, ha, fin⟩ := hsp
  obtain ⟨u, ru, rfl⟩ : ∃ u, RelV (.int n) u ∧ us = [.ref a, u] := by
    cases r with
    | cons r1 r2 => cases r2 with
      | cons r3 r4 => cases r4; exact ⟨_, r3, by rw [show _ = Value.ref a from r1]⟩
  have KX : K.In s.heap := e0.mod.kin.keeps fun b o e => (e0.bs b o e).1
  have lim : s.heap.NoLimit := e0.mod.nolimit.keeps fun b o e => (e0.bs b o e).1
  refine ks_codeAny_call_defAt (fd := supFd name qual q1 q2 p0 p1 p2 p3 p4 p5 p6 p7 p8 p9 text dV kV doc pm ct an cc cda) (body := supBody text p0 p1 p2 p3 p4 p5 p6 p7 p8 p9) (binds := [("self", .ref a), ("number", u)]) hr.depth (KX _ _ lk) rfl lim (PySem.W.codeRec_of KX T.cdi) rfl hb (show ∀ x ∈ supScope.names, x.2 ≠ .cell by decide) (fun x hx => by rcases List.mem_cons.mp hx with rfl | hx; (· rfl); rw [List.mem_singleton.mp hx]; rfl) (fun h0 hn hk => ?_) rfl rfl rfl
  have I0 := sup_start (w := w) (mg := mg) (base := base) (CX := CX) (E := E) T hr.hd e0 ru (tk := s.toks + 2) hn hk
  have hk2 : ∀ b o, base.get? b = some o → h0.get? b = some o := fun b o e => hk _ _ (e0.bs b o e).1
  have K0 : K.In h0 := e0.mod.kin.keeps hk2
  obtain ⟨nm, q, N, bs, bm, sn, sub, ab, col, dd, k0, k1, k2, k3, k5, hC, hbm⟩ := T.oex.cls
  have hcl := excBM_ve hC
  obtain ⟨ccl, cdd, ccs, hcc⟩ := T.cel
  obtain ⟨dcl, ddd, dvs, dcs, tf, hda, hfl⟩ := T.cod
  obtain ⟨t1, hx⟩ := exo_at I0.hok ha
  obtain ⟨mb, hmb, hbt⟩ := e0.mod.blt
  have neC : a ≠ C := fun z => by
    have := K0 _ _ hC
    rw [← z, hx] at this
    cases this
  obtain ⟨pl, he⟩ := hev (supEnv qual s fI cda cc)
  refine ks_wpAt_execs_cons (ks_wpAt_Expr_any (ks_wpAt_MethodCall (pl := pl) (he := he) (ks_wpAt_super_base (f := fI) (cc := cda) rfl rfl (by decide) rfl (K0 _ _ lk) rfl rfl rfl (K0 _ _ hda) rfl hfl T.fil T.top ?_)))
  refine PySem.W.ks_loadName_global rfl rfl (PySem.Calls.loadGlobal_builtin (env := supEnv qual s fI cda cc) (e0.mod.glob.keeps hk2) mgs (hmb.keeps hk2) ((hbt _ (by decide +kernel)).trans (by kernel_rfl)) ⟨rfl, ?_⟩)
  refine wpAny_loadName_free rfl rfl rfl ⟨_, K0 _ _ hcc, rfl⟩ ?_
  refine wpAny_loadName_local rfl rfl hn (by rfl) ?_
  refine ks_wpAny_isType_cls (K0 _ _ hC) rfl ⟨rfl, ?_⟩
  refine ks_wpAny_call_super (K0 _ _ hC) rfl hx rfl (fun c e => by cases e) (PySem.W.looks_mroIn K0 T.mro) (fun h1 e1 k1 => ?_)
  have K1 : K.In h1 := K0.keeps k1
  have sp := T.sup
  unfold PySem.W.ks_superIn at sp
  rw [hcl] at sp
  have x1 := k1 _ _ hx
  have Ix : PySem.W.InstAt h1 a (HandSPX.excO C t1) C none := ⟨x1, rfl, rfl, trivial⟩
  refine PySem.W.kxs_getMethod PySem.W.kxs_ValueError e1 (PySem.W.looks_opaque K1 T.tp) (fun A Q E s k q => wpAny_bind ((PySem.W.looks_clsIn K1 hcl) A _ E s k (wpAny_pure q))) rfl K1 sp (Ix.type.andThen (PySem.W.looks_subIn K1 T.ve)) neC (by decide) ?_
  have hu : (h1.push (PySem.W.kxs_mw "ValueError.__init__" a)).get? h1.objs.size = some (PySem.W.kxs_mw "ValueError.__init__" a) := Heap.get?_push_size _ rfl
  have k2 : ∀ b o, h0.get? b = some o → (h1.push (PySem.W.kxs_mw "ValueError.__init__" a)).get? b = some o := fun b o e => Heap.get?_push_of_some _ (k1 b o e)
  have J := I0.kept (t' := s.toks + 2 + 1) (h' := h1.push (PySem.W.kxs_mw "ValueError.__init__" a)) k2
  have PAx : PA (supX CX P w K mg base qual fI cda cc A outer s H E) [.Constant (.str text) 0 p3] (tCons (tC (.str text)) tNil) := pa_cons pe_str pa_nil
  have hs1 : s.heap.objs.size < h1.objs.size := by
    obtain ⟨o, es, ep, e2, _⟩ := hn
    exact Heap.lt_size (k1 _ _ e2)
  have hun : H h1.objs.size = none := by
    cases z : H h1.objs.size with
    | none => rfl
    | some o => exact absurd (Nat.lt_trans (e0.hok.lt z) hs1) (Nat.lt_irrefl _)
  have nfs : h1.objs.size ∉ (supX CX P w K mg base qual fI cda cc A outer s H E).fs := fun z => by
    obtain ⟨_, o, ho, _⟩ := I0.ok.funs.mem z
    exact absurd (Nat.lt_trans (Heap.lt_size ho) hs1) (Nat.lt_irrefl _)
  have Jp : L2.Inv (supX CX P w K mg base qual fI cda cc A outer s H E) [(h1.objs.size, PySem.W.kxs_mw "ValueError.__init__" a)] [some (.ref a), some (.int n)] H ⟨h1.push (PySem.W.kxs_mw "ValueError.__init__" a), s.gens, s.drawn, s.toks + 2 + 1, s.os⟩ := J.pins_of fun p hp => by
    have hp : p ∈ [(h1.objs.size, PySem.W.kxs_mw "ValueError.__init__" a)] := hp
    rw [List.mem_singleton.mp hp]
    exact ⟨hu, hun, fun z => absurd hs1 (by rw [show h1.objs.size = s.heap.objs.size from z]; exact Nat.lt_irrefl _), nfs, fun v z => by cases z⟩
  refine PySem.W.kxs_callWith (i := "ValueError.__init__") (x := a) rfl ?_
  refine PySem.Calls.evalArgs_plain ?_
  refine thn (wpAny_mono (PAx.run p4 _ _ _ _ (fun vs H' => vs = [.str text] ∧ H' = H) Jp (r_cons (r_c (r_nil ⟨rfl, rfl⟩)))) (fun _ _ z => z) fun _ _ z => z) fun us2 s2 hs2 => ?_
  obtain ⟨vs2, H2, J2, r2, rfl, rfl⟩ := hs2
  have u2 := (J2.pin _ (List.mem_append_right _ List.mem_cons_self)).1
  obtain ⟨t2, x2⟩ := exo_at J2.hok ha
  have K2 := J2.kIn
  refine ⟨u2, ?_⟩
  have hl : us2.length ≤ sizeLine := by rw [← r2.length]; show 1 ≤ sizeLine; decide
  show wpAny _ _ (call (.ref h1.objs.size) us2 []) _ _ _
  refine call_mw (K2 _ _ hC) x2 u2 hl fun h3 t3 k3 x3 => ?_
  have J3 := J2.write (t' := s2.toks) (x := a) (e := a) (o := exo a C none) (by rw [ha]; exact True.intro) (.inl rfl) k3 ⟨_, x3⟩ (exo_ok x3)
  have eu : upd H2 a (exo a C none) = H2 := by
    funext b
    by_cases hb : b = a
    · rw [hb, upd_same, ha]
    · rw [upd_ne hb]
  rw [eu] at J3
  refine PySem.wpAt_of_wpAny ?_
  have PSx : PSs (supX CX P w K mg base qual fI cda cc A outer s H2 E) [.Assign [.Attribute (.Name "self" p6) "number" p7] (.Name "number" p8) p9] (tOst K "number" (tVar 0) (tVar 1)) := pss_one (ps_ost (pv 0) (pv 1))
  refine wpAny_mono (PSx.run _ _ _ _ { nx := fun _ H' => Q .non H', rt := fun _ _ => False, bk := fun _ _ => False, ct := fun _ _ => False } (J3.pins_of (pins' := []) fun p hp => by cases hp) ?_) (fun fl s4 h4 => ?_) fun e s4 h4 => h4
  · refine r_var rfl (r_var rfl ?_)
    exact ⟨a, C, rfl, T.oex, hno, .inl ⟨ha, fun dx h d => fin dx h d⟩⟩
  · cases fl with
    | next =>
      obtain ⟨σ', H', J4, q⟩ := h4
      exact ⟨.non, H', J4.os, J4.bare, J4.base, J4.hok, rfl, q⟩
    | ret v => obtain ⟨_, _, _, _, _, q⟩ := h4; exact q.elim
    | brk => obtain ⟨_, _, _, q⟩ := h4; exact q.elim
    | cont => obtain ⟨_, _, _, q⟩ := h4; exact q.elim
end
/-! ### exceptions as values, their fields -/
def XdAt (H : Hp) (dd : Addr) (fs : List (Str × V)) : Prop := H dd = some (.xd fs) ∨ H dd = some (exd dd fs)
/-- at a: an exception of the class at D, its dict d -/
def ExV (H : Hp) (a D : Addr) (d : Option Addr) : Prop := (∃ φ : Heap → Prop, H a = some (.ext φ) ∧ ∀ h, φ h → ∃ (o : Obj) (vs : Array Value), h.get? a = some o ∧ Zc (.ref D) d o ∧ o.data = .fields vs) ∧ ∀ dd, d = some dd → ∃ fs, XdAt H dd fs
theorem XdAt.ex {H H' : Hp} {dd : Addr} {fs : List (Str × V)} (h : XdAt H dd fs) (e : Evl.Ex H H') : XdAt H' dd fs := h.imp (e _ _) (e _ _)
theorem ExV.ex {H H' : Hp} {a D : Addr} {d : Option Addr} (h : ExV H a D d) (e : Evl.Ex H H') : ExV H' a D d := by
  obtain ⟨⟨φ, h1, h2⟩, h3⟩ := h
  exact ⟨⟨φ, e _ _ h1, h2⟩, fun dd z => (h3 dd z).imp fun fs y => y.ex e⟩
theorem ExV.kept {H : Hp} {a D : Addr} {d : Option Addr} (e : H a = some (KeptO (.ref D) d a)) (hd : ∀ dd, d = some dd → ∃ fs, XdAt H dd fs) : ExV H a D d := ⟨⟨_, e, fun _ z => z⟩, hd⟩
theorem ExV.made {H : Hp} {a D : Addr} (e : H a = some (ExO (.ref D) a)) : ExV H a D none := ⟨⟨_, e, fun _ z => by obtain ⟨o, vs, h1, h2, h3, _⟩ := z; exact ⟨o, vs, h1, h2, h3⟩⟩, fun _ z => by cases z⟩
theorem ExV.exo {H : Hp} {a D dd : Addr} {fs : List (Str × V)} (e : H a = some (exo a D (some dd))) (ed : H dd = some (exd dd fs)) : ExV H a D (some dd) :=
  ⟨⟨_, e, fun _ z => by obtain ⟨t1, h1⟩ := z; exact ⟨_, _, h1, ⟨rfl, rfl⟩, rfl⟩⟩, fun _ z => by cases z; exact ⟨fs, .inr ed⟩⟩
theorem XdAt.ns {X : Cx} {pins : List (Addr × Obj)} {σ : L2.St} {H : Hp} {s : Shared} {dd : Addr} {fs : List (Str × V)} (I : Inv X pins σ H s) (h : XdAt H dd fs) : ∃ mA, s.heap.Ns1 dd mA ∧ ∀ f, RelO (fs.lookup f) (mA f) := by
  rcases h with h | h
  · exact I.hok dd _ h
  · exact exd_at I.hok h
theorem ExV.inst {X : Cx} {pins : List (Addr × Obj)} {σ : L2.St} {H : Hp} {s : Shared} {a D : Addr} {d : Option Addr} (I : Inv X pins σ H s) (h : ExV H a D d) : ∃ (o : Obj) (od : Option Obj), PySem.W.InstAt s.heap a o D od ∧ ∀ dd, d = some dd → ∃ ob, od = some ob ∧ s.heap.get? dd = some ob := by
  obtain ⟨⟨φ, ha, hφ⟩, hd⟩ := h
  obtain ⟨o, vs, hg, hz, hf⟩ := hφ _ (I.hok a _ ha).1
  have nc : PySem.W.notCls o = true := by unfold PySem.W.notCls; rw [hf] <;> rfl
  cases d with
  | none => exact ⟨o, none, ⟨hg, hz.1, nc, by rw [hz.2]; trivial⟩, fun dd z => by cases z⟩
  | some dd =>
    obtain ⟨fs, hx⟩ := hd dd rfl
    obtain ⟨mA, ⟨ob, es, ep, ho, _⟩, _⟩ := hx.ns I
    exact ⟨o, some ob, ⟨hg, hz.1, nc, by rw [hz.2]; exact ho⟩, fun d2 z => by cases z; exact ⟨ob, rfl, ho⟩⟩
/-- isinstance(x, c), x an exception that is told -/
def rIsX (K : PySem.W.Frag) : List V → Hp → VK → Prop := fun xs H Q => ∃ (a D : Addr) (d : Option Addr) (c : V) (cv : Value) (b : Bool), xs = [.ref a, c] ∧ ExV H a D d ∧ ExcC K D ∧ (∀ u, RelV c u → u = cv) ∧ PySem.W.kitOne K (.ref D) cv = some b ∧ Q (.bl b) H
theorem call_isX {X : Cx} : CallR X (.builtin "isinstance") (rIsX X.K) := by
  intro pins s σ H xs us Q I r h
  obtain ⟨a, D, d, c, cv, b, rfl, hx, C, hcv, e, q⟩ := h
  match us, r with
  | [_, _], .cons rx (.cons rt .nil) =>
    cases rx
    obtain rfl := hcv _ rt
    obtain ⟨o, od, J, _⟩ := hx.inst I
    exact PySem.W.kia_one (PySem.W.kitx_exc (by obtain ⟨cd, hc, _⟩ := PySem.W.any_some C.hd; rw [hc]; rfl) C.hg C.hk C.hs C.ha C.hn C.ht C.hm) I.kIn J e (fun z => nomatch z) fun tk => ⟨.bl b, H, I.kept (t' := tk) fun _ _ z => z, rfl, q⟩
theorem r_isX {K : PySem.W.Frag} {H : Hp} {Q : VK} {a D C : Addr} {d : Option Addr} {b : Bool} (h : ExV H a D d) (e : ExcC K D) (k : PySem.W.kitOne K (.ref D) (.ref C) = some b) (q : Q (.bl b) H) : rIsX K [.ref a, .ref C] H Q := ⟨a, D, d, _, _, b, rfl, h, e, fun _ r => r, k, q⟩
theorem r_isXV {K : PySem.W.Frag} {H : Hp} {Q : VK} {a D : Addr} {d : Option Addr} {b : Bool} {t : String} (h : ExV H a D d) (e : ExcC K D) (k : PySem.W.kitOne K (.ref D) (.type t) = some b) (q : Q (.bl b) H) : rIsX K [.ref a, .ty t] H Q := ⟨a, D, d, _, _, b, rfl, h, e, fun _ r => r, k, q⟩
/-- x.f, x an exception that is told -/
def tXfv (K : PySem.W.Frag) (f : Str) (te : TE) : TE := fun σ H Q => te σ H fun x H1 => ∃ (a D dd : Addr) (fs : List (Str × V)) (v : V), x = .ref a ∧ ExV H1 a D (some dd) ∧ ExcC K D ∧ PySem.W.findIn K (.ref D) f = some none ∧ XdAt H1 dd fs ∧ fs.lookup f = some v ∧ Q v H1
theorem pe_xfv {X : Cx} {e : Expr} {te : TE} {pos : Pos} {n : Str} (he : PE X e te) (hb : attributeBase e n X.env (eval e X.env) = eval e X.env := by rfl) : PE X (.Attribute e n pos) (tXfv X.K n te) := by
  refine ⟨fun pins s σ H Q I h => ?_⟩
  refine attr_of hb (thn (he.run pins s σ H _ I h) fun u s1 hh => ?_)
  obtain ⟨x, H1, I1, rx, a, D, dd, fs, v, ex, hx, C, hno, hd, l, q⟩ := hh
  subst ex
  obtain rfl : u = Value.ref a := rx
  obtain ⟨o, od, J, hod⟩ := hx.inst I1
  obtain ⟨ob, rfl, ho⟩ := hod dd rfl
  obtain ⟨mA, hns, hr⟩ := hd.ns I1
  obtain ⟨ob2, ho2, hl⟩ := lookIn_ns hns
  have e2 : ob2 = ob := Option.some.inj (ho2.symm.trans ho)
  subst e2
  obtain ⟨u, hu, ru⟩ := RelO.some_of (v := v) (o := mA n) (by rw [← l]; exact hr n)
  exact HandSPX.exc_get I1.kIn J C.hg C.hk C.hs (PySem.W.findObj_own C.hd hno rfl (by rw [hl, hu])) (handed_of ru) ⟨v, H1, I1.tok _, ru, q⟩
theorem r_xfv {K : PySem.W.Frag} {σ : L2.St} {H : Hp} {Q : VK} {f : Str} {te : TE} (h : te σ H fun x H1 => ∃ (a D dd : Addr) (fs : List (Str × V)) (v : V), x = .ref a ∧ ExV H1 a D (some dd) ∧ ExcC K D ∧ PySem.W.findIn K (.ref D) f = some none ∧ XdAt H1 dd fs ∧ fs.lookup f = some v ∧ Q v H1) : tXfv K f te σ H Q := h
/-- an exception that is made, as a value -/
theorem pe_of_mk {X : Cx} {e : Expr} {t : L2.St → Hp → XK → Prop} (h : PMk X e t) : PE X e (fun σ H Q => t σ H fun cls d H1 => ∀ a, H1 a = none → Q (.ref a) (upd H1 a (KeptO cls d a))) := by
  refine ⟨fun pins s σ H Q I hq => ?_⟩
  refine thn (h pins s σ H _ I hq) fun u s1 hu => ?_
  obtain ⟨a, oe, vs, sI, H1, cls, d, rfl, J, k, hne, ha, hz, hd, h1, na, os, ag, r, q⟩ := hu
  have ok : ObjOk X.prog X.w (upd H1 a (KeptO cls d a)) s1.heap a (KeptO cls d a) := ⟨⟨oe, vs, ha, hz, hd⟩, ⟨oe, ha⟩, fun _ _ ⟨o, v, q, r⟩ k => ⟨o, v, k o q, r⟩⟩
  exact ⟨.ref a, _, J.call' (ch := []) os (Un.laidN k hne na) (HOk.laidN J.hok k na ok) ag (fun b z => by cases z), rfl, q a na⟩
theorem r_mkN {C : Addr} {σ : L2.St} {H : Hp} {Q : XK} {ta : TA} (h : ta σ H fun vs H1 => ∃ n : Int, vs = [.int n] ∧ ∀ d, H1 d = none → Q (.ref C) (some d) (upd H1 d (.xd [("number", .int n)]))) (mono : ∀ {P P' : List V → Hp → Prop}, ta σ H P → (∀ vs H1, P vs H1 → P' vs H1) → ta σ H P') : tMkO C (SpSup C) [] ta σ H Q := by
  refine mono h fun vs H1 q => ?_
  obtain ⟨n, rfl, k⟩ := q
  refine ⟨(by show 1 ≤ 1000; omega), fun a ha => ⟨a, n, rfl, upd_same, fun dx hd ne => ⟨rfl, dx, _, upd_same, by rw [upd_ne ne]; exact upd_same, by rw [upd_ne ne] at hd; exact hd, ?_⟩⟩⟩
  have e : upd (del (upd (upd (upd H1 a (exo a C none)) dx (exd dx [("number", .int n)])) a (exo a C (some dx))) a) dx (.xd [("number", .int n)]) = upd H1 dx (.xd [("number", .int n)]) := by
    funext b
    by_cases hb : b = dx
    · rw [hb, upd_same, upd_same]
    · rw [upd_ne hb, upd_ne hb]
      by_cases hb2 : b = a
      · rw [hb2, del_same, ha]
      · rw [del_ne hb2, upd_ne hb2, upd_ne hb, upd_ne hb2]
  rw [e]
  rw [upd_ne ne] at hd
  exact k dx hd
theorem r_mkNV {C : Addr} {σ : L2.St} {H : Hp} {Q : XK} {i : Nat} {n : Int} (hv : σ[i]? = some (some (.int n))) (k : ∀ d, H d = none → Q (.ref C) (some d) (upd H d (.xd [("number", .int n)]))) : tMkO C (SpSup C) [] (tCons (tVar i) tNil) σ H Q :=
  r_mkN (r_cons (r_var hv (r_nil ⟨n, rfl, k⟩))) fun ⟨v, e, p⟩ q => ⟨v, e, q _ _ p⟩
/-! ### promises that may end in an exception -/
def SpX {α : Type} (A : α → List V → Hp → Prop) (B : α → V → List (Addr × Cel) → Hp → Prop) (R : α → Value → Option Addr → Hp → Prop) : Sp := fun vs H Q E => ∃ (x : α) (F : Hp), Evl.Ex F H ∧ A x vs F ∧
  (∀ (v : V) (N : List (Addr × Cel)) (F' H' : Hp), Sep [] H F F' H' N → B x v N F' → Q v H') ∧
  (∀ (c : Value) (d : Option Addr) (F' H' : Hp), Sep [] H F F' H' [] → R x c d F' → E c d H')
theorem r_callX {io : List Addr} {H0 F0 F H : Hp} {M : List (Addr × Cel)} {Q : VK} {E : XK} {α : Type} {A : α → List V → Hp → Prop} {B : α → V → List (Addr × Cel) → Hp → Prop} {R : α → Value → Option Addr → Hp → Prop} {vs : List V}
    (S : Sep io H0 F0 F H M) (x : α) (a : A x vs F) (k : ∀ v N F' H', Sep io H0 F0 F' H' (N ++ M) → Evl.Ex F F' → B x v N F' → Q v H')
    (kx : ∀ c d F' H', Sep io H0 F0 F' H' M → Evl.Ex F F' → R x c d F' → E c d H') : SpX A B R vs H Q E :=
  ⟨x, F, S.fr, a, fun v N F' H' S' b => k v N F' H' (S.comp S') S'.gr b, fun c d F' H' S' b => kx c d F' H' (S.comp S') S'.gr b⟩
/-- a callee that may raise, where it is known that it doesn't -/
theorem SpX.calm {α : Type} {A : α → List V → Hp → Prop} {B : α → V → List (Addr × Cel) → Hp → Prop} {R : α → Value → Option Addr → Hp → Prop} {vs : List V} {H : Hp} {Q : VK} {E : XK} {A' : α → List V → Hp → Prop}
    (h : SpF A' B vs H Q E) (hA : ∀ x vs F, A' x vs F → A x vs F ∧ ∀ c d F', ¬ R x c d F') : SpX A B R vs H Q E := by
  obtain ⟨x, F, fr, a, k⟩ := h
  obtain ⟨a1, a2⟩ := hA _ _ _ a
  exact ⟨x, F, fr, a1, k, fun c d F' H' _ r => absurd r (a2 c d F')⟩
/-! ### text * number -/
def strRep (z : Str) (n : Nat) : Str := ⟨(List.replicate n z.cps).foldl (· ++ ·) #[]⟩
theorem foldl_emp : ∀ (n : Nat) (a : Array Nat), (List.replicate n (#[] : Array Nat)).foldl (· ++ ·) a = a
  | 0, a => rfl
  | n + 1, a => by rw [List.replicate_succ, List.foldl_cons, Array.append_empty]; exact foldl_emp n a
theorem strRep_one (z : Str) : strRep z 1 = z := by
  obtain ⟨c⟩ := z
  simp [strRep]
theorem strRep_nil {z : Str} (h : z.length = 0) (n : Nat) : strRep z n = z := by
  obtain ⟨c⟩ := z
  have : c = #[] := Array.eq_empty_of_size_eq_zero h
  subst this
  exact congrArg Str.mk (foldl_emp n #[])
theorem foldl_size (c : Array Nat) : ∀ (n : Nat) (a : Array Nat), ((List.replicate n c).foldl (· ++ ·) a).size = a.size + n * c.size
  | 0, a => by simp
  | n + 1, a => by
    rw [List.replicate_succ, List.foldl_cons, foldl_size c n, Array.size_append, Nat.add_mul]
    omega
theorem strRep_len (z : Str) (n : Nat) : (strRep z n).length = n * z.length := by
  show ((List.replicate n z.cps).foldl (· ++ ·) #[]).size = n * z.cps.size
  rw [foldl_size]
  simp
def rMulS : R2 := fun x y H Q => ∃ (z : Str) (n : Int), x = .str z ∧ y = .int n ∧ 0 ≤ n ∧ n ≤ 100000 ∧ z.length ≤ 100000 ∧ z.length * n.toNat ≤ 1000000 ∧ Q (.str (strRep z n.toNat)) H
theorem op_mulS {X : Cx} : OpR X (binaryOp .Mult) rMulS := by
  intro pins s σ H x y v u Q I rx ry h
  obtain ⟨z, n, rfl, rfl, h0, h1, hz, hl, q⟩ := h
  obtain ⟨t, rfl⟩ := rx
  obtain ⟨t', rfl⟩ := ry
  refine P.mul_str (by rw [Bool.or_eq_false_iff]; exact ⟨decide_eq_false (by omega), decide_eq_false (by omega)⟩) (fun h2 _ => ?_) (fun _ _ => ?_) ?_
  · have : (100000 : Int) ≤ (2 ^ 63 - 1) / n := Int.le_ediv_of_mul_le (by omega) (by omega)
    omega
  · exact decide_eq_false (by rw [sizeLine_eq]; omega)
  · by_cases c0 : n < 1
    · rw [if_pos c0]
      have e0 : n = 0 := by omega
      subst e0
      exact ⟨by decide, .str (strRep z 0), H, I.tok _, ⟨_, rfl⟩, q⟩
    · rw [if_neg c0]
      by_cases c1 : (n == 1 || z.length == 0) = true
      · rw [if_pos c1]
        have e1 : strRep z n.toNat = z := by
          rcases Bool.or_eq_true_iff.mp c1 with c | c
          · rw [beq_iff_eq.mp c]; exact strRep_one z
          · exact strRep_nil (beq_iff_eq.mp c) _
        rw [e1] at q
        exact ⟨.str z, H, I.tok _, ⟨_, rfl⟩, q⟩
      · rw [if_neg c1]
        exact ⟨by show (strRep z n.toNat).length ≤ sizeLine; rw [strRep_len, Nat.mul_comm, sizeLine_eq]; omega, .str (strRep z n.toNat), H, I.tok _, ⟨_, rfl⟩, q⟩
theorem r_mulS {z : Str} {n : Int} {H : Hp} {Q : VK} (h0 : 0 ≤ n) (h1 : n ≤ 100000) (hz : z.length ≤ 100000) (hl : z.length * n.toNat ≤ 1000000) (q : Q (.str (strRep z n.toNat)) H) : rMulS (.str z) (.int n) H Q := ⟨z, n, rfl, rfl, h0, h1, hz, hl, q⟩
/-! ### a callee that may raise, where nothing that is raised may leave -/
theorem passN {X : Cx} : Passes (L2.CX X.prog X.w) X (fun _ _ _ => False) := fun _ _ _ _ _ _ _ h => by
  obtain ⟨_, _, _, _, _, _, _, _, _, _, _, _, z⟩ := h
  exact z.elim
def rReprI : List V → Hp → VK → Prop := fun xs H Q => ∃ i, xs = [.int i] ∧ i.natAbs.log2 < 1920 ∧ Q (.str (toString i)) H
theorem cr_reprI {X : Cx} : CallR X (.builtin "repr") rReprI := SkE.call_repr_int
theorem r_reprI {i : Int} {H : Hp} {Q : VK} (h : i.natAbs.log2 < 1920) (q : Q (.str (toString i)) H) : rReprI [.int i] H Q := ⟨i, rfl, h, q⟩
def newA (H : Hp) (o : Addr → HO) (Q : VK) : Prop := ∀ a, H a = none → Q (.ref a) (upd H a (o a))
def tExc1 (C : Addr) (ta : TE) : TE := fun σ H Q => ta σ H fun _ H1 => newA H1 (fun a => ExO (.ref C) a) Q
theorem pe_exc1N {X : Cx} {C : Addr} {bmB : List Value} {B newId initId : String} {x : Str} {e : Expr} {ta : TE} {p pos : Pos} (F : ExcBaseFacts B newId initId bmB) (q : PySem.W.excIn X.K C bmB newId = true) (gC : X.mg x = some (.ref C)) (kC : PySem.W.keepIn X.K (.ref C) = true) (hg : Gl X x) (he : PE X e ta)
    (hs : starEach [e] X.env = (false, eval e X.env) :: starEach [] X.env := by rfl) (hdb : (x == ("__debug__" : Str)) = false := by decide) : PE X (.Call (.Name x p) [e] [] pos) (tExc1 C ta) := pe_exc1 F q gC kC hg he hs hdb
theorem r_exc1 {C : Addr} {σ : L2.St} {H : Hp} {Q : VK} {ta : TE} (h : ta σ H fun _ H1 => newA H1 (fun a => ExO (.ref C) a) Q) : tExc1 C ta σ H Q := h
def tOfMk (t : L2.St → Hp → XK → Prop) : TE := fun σ H Q => t σ H fun cls d H1 => newA H1 (fun a => KeptO cls d a) Q
theorem pe_of_mkN {X : Cx} {e : Expr} {t : L2.St → Hp → XK → Prop} (h : PMk X e t) : PE X e (tOfMk t) := pe_of_mk h
theorem r_ofMk {t : L2.St → Hp → XK → Prop} {σ : L2.St} {H : Hp} {Q : VK} (h : t σ H fun cls d H1 => newA H1 (fun a => KeptO cls d a) Q) : tOfMk t σ H Q := h
section
variable {io : List Addr} {H0 F0 F H : Hp} {M : List (Addr × Cel)} {K : PySem.W.Frag} {Q : VK}
theorem s_newA {o : Addr → HO} (S : Sep io H0 F0 F H M) (k : ∀ p F' H', Sep io H0 F0 F' H' M → Evl.Ex F F' → F' p = some (o p) → Q (.ref p) H') : newA H o Q := fun a ha =>
  k a _ _ (S.newF ha (o a)) (Evl.Ex.new (S.fnone ha)) upd_same
theorem r_eqSameD {x y : V} {d : PyData} (h : Dp K H x d) (g : Dp K H y d) (sh : SeqAt.shaped d = true) (z : Q (.bl true) H) : rEqD K x y H Q := by
  refine ⟨d, d, h, g, sh, sh, ?_⟩
  rw [SeqAt.eqv_refl _ (SeqAt.canLay_of_shaped sh)]
  exact z
end
/-! ### sets of many tuples of ints: the round of i -> 5 i + 1 over a power of two -/
def xx : Nat → Nat
  | 0 => 0
  | n + 1 => 5 * xx n + 1
theorem xx_lcg (m : Nat) : ∀ n, lcgN m n = xx n % (m + 1)
  | 0 => (Nat.zero_mod _).symm
  | n + 1 => by
    rw [lcgN, xx_lcg m n, xx]
    rw [Nat.add_mod, Nat.mul_mod, Nat.mod_mod, ← Nat.mul_mod, ← Nat.add_mod, Nat.mul_comm]
theorem xx_add (a : Nat) : ∀ b, xx (b + a) = 5 ^ b * xx a + xx b
  | 0 => by simp [xx]
  | b + 1 => by
    rw [show b + 1 + a = (b + a) + 1 by omega, xx, xx_add a b, xx, Nat.pow_succ]
    rw [Nat.mul_add, Nat.add_assoc, ← Nat.mul_assoc, Nat.mul_comm 5 (5 ^ b)]
theorem five_odd : ∀ n, ∃ d, 5 ^ n = 4 * d + 1
  | 0 => ⟨0, rfl⟩
  | n + 1 => by
    obtain ⟨d, e⟩ := five_odd n
    exact ⟨5 * d + 1, by rw [Nat.pow_succ, e]; omega⟩
theorem xx_two : ∀ k, ∃ c, xx (2 ^ k) = 2 ^ k * (2 * c + 1)
  | 0 => ⟨0, rfl⟩
  | k + 1 => by
    obtain ⟨c, e⟩ := xx_two k
    obtain ⟨d, f⟩ := five_odd (2 ^ k)
    refine ⟨2 * (d * c) + d + c, ?_⟩
    rw [show 2 ^ (k + 1) = 2 ^ k + 2 ^ k by rw [Nat.pow_succ]; omega, xx_add, e, f]
    generalize 2 ^ k = z
    grind
theorem xx_back (k n : Nat) : xx (2 ^ k + n) % 2 ^ k = xx n % 2 ^ k := by
  obtain ⟨c, e⟩ := xx_two k
  rw [Nat.add_comm, xx_add, e, Nat.mul_left_comm, Nat.add_mod, Nat.mul_mod_right, Nat.zero_add, Nat.mod_mod]
theorem two_of {r z t : Nat} (l : r < z * 2) (e : r % z = t) : r = t ∨ r = t + z := by
  have h := Nat.div_add_mod r z
  have h2 : r / z < 2 := Nat.div_lt_of_lt_mul l
  rw [e] at h
  generalize r / z = y at h h2
  rcases (show y = 0 ∨ y = 1 by omega) with q | q <;> rw [q] at h
  · left; omega
  · right; omega
theorem xx_all : ∀ k j, j < 2 ^ k → ∃ b, b < 2 ^ k ∧ xx b % 2 ^ k = j
  | 0, j, h => ⟨0, by decide, by rw [Nat.pow_zero] at *; omega⟩
  | k + 1, j, h => by
    have hp : 0 < 2 ^ k := Nat.pow_pos (by decide)
    have e2 : 2 ^ (k + 1) = 2 ^ k * 2 := Nat.pow_succ ..
    obtain ⟨b, hb, eb⟩ := xx_all k (j % 2 ^ k) (Nat.mod_lt _ hp)
    have r1 : xx b % 2 ^ (k + 1) % 2 ^ k = j % 2 ^ k := by
      rw [e2, Nat.mod_mul_right_mod]
      exact eb
    have rl : xx b % 2 ^ (k + 1) < 2 ^ (k + 1) := Nat.mod_lt _ (Nat.pow_pos (by decide))
    by_cases c : xx b % 2 ^ (k + 1) = j
    · exact ⟨b, by omega, c⟩
    · refine ⟨b + 2 ^ k, by omega, ?_⟩
      obtain ⟨c2, ec⟩ := xx_two k
      obtain ⟨d, ed⟩ := five_odd b
      rw [xx_add, ec, ed]
      have big : (4 * d + 1) * (2 ^ k * (2 * c2 + 1)) = 2 ^ (k + 1) * (2 * d * (2 * c2 + 1) + c2) + 2 ^ k := by
        rw [e2]
        generalize 2 ^ k = z
        grind
      rw [big, Nat.add_assoc, Nat.mul_add_mod, Nat.add_mod, Nat.mod_eq_of_lt (show 2 ^ k < 2 ^ (k + 1) by omega)]
      generalize xx b % 2 ^ (k + 1) = r at *
      rw [e2] at rl h ⊢
      have q1 := two_of rl r1
      have q2 := two_of h rfl
      have lz := Nat.mod_lt j hp
      clear big ec ed eb e2 r1
      generalize 2 ^ k = z at *
      generalize j % z = t at *
      rcases q1 with q1 | q1 <;> rcases q2 with q2 | q2
      · omega
      · rw [Nat.mod_eq_of_lt (by omega)]; omega
      · rw [show z + r = t + z * 2 by omega, Nat.add_mod_right, Nat.mod_eq_of_lt (by omega)]; omega
      · omega
/-- the masks of tables of few thousands -/
def MaskG (m : Nat) : Prop := m = 7 ∨ m = 31 ∨ m = 127 ∨ m = 511 ∨ m = 2047 ∨ m = 8191
theorem MaskG.pow {m : Nat} (h : MaskG m) : ∃ k, m + 1 = 2 ^ k := by
  rcases h with e | e | e | e | e | e <;> subst e
  · exact ⟨3, rfl⟩
  · exact ⟨5, rfl⟩
  · exact ⟨7, rfl⟩
  · exact ⟨9, rfl⟩
  · exact ⟨11, rfl⟩
  · exact ⟨13, rfl⟩
theorem MaskG.odd {m : Nat} (h : MaskG m) : m % 2 = 1 := by rcases h with e | e | e | e | e | e <;> rw [e]
theorem MaskG.le {m : Nat} (h : MaskG m) : m ≤ 8191 := by rcases h with e | e | e | e | e | e <;> omega
theorem lcg_meets {m : Nat} (hm : MaskG m) {i j : Nat} (hi : i ≤ m) (hj : j ≤ m) : ∃ k, k ≤ m ∧ lcgI m i k = j := by
  obtain ⟨k, ek⟩ := hm.pow
  obtain ⟨a, la, ea⟩ := xx_all k i (by omega)
  obtain ⟨b, lb, eb⟩ := xx_all k j (by omega)
  have ei : lcgN m a = i := by rw [xx_lcg, ek, ea]
  by_cases c : a ≤ b
  · refine ⟨b - a, by omega, ?_⟩
    rw [← ei, lcgN_add, show a + (b - a) = b by omega, xx_lcg, ek, eb]
  · refine ⟨b + (m + 1) - a, by omega, ?_⟩
    rw [← ei, lcgN_add, show a + (b + (m + 1) - a) = 2 ^ k + b by omega, xx_lcg, ek, xx_back, eb]
theorem runs_meet {m : Nat} (hm : MaskG m) (h : Int) {j : Nat} (hj : j ≤ m) : ∃ n, n ≤ m + 12 ∧ runI m (SetTable.bits h) n = j := by
  obtain ⟨k, lk, e⟩ := lcg_meets hm (runI_le m (SetTable.bits h) 12) hj
  refine ⟨12 + k, by omega, ?_⟩
  rw [runI_tail (bits_lt h)]
  exact e
theorem ways_meet {m : Nat} (hm : MaskG m) (h : Int) {j : Nat} (hj : j ≤ m) : ∃ k, k < 10 * SetTable.turns m ∧ way m h k = j := by
  obtain ⟨n, ln, e⟩ := runs_meet hm h hj
  obtain ⟨k, lk, e2⟩ := run_nth m (SetTable.bits h) n
  refine ⟨k, ?_, ?_⟩
  · unfold SetTable.turns
    omega
  · show (nth m (runAt m (SetTable.bits h % (m + 1)) (SetTable.bits h)) k).j = j
    rw [e2]
    exact e
theorem way_in {m : Nat} {h : Int} {k : Nat} : way m h k ≤ m := by
  have r := runEnd_bd (Nat.le_of_lt_succ (Nat.mod_lt (SetTable.bits h) (Nat.succ_pos m)))
  have q := nth_in (m := m) k (runAt m (SetTable.bits h % (m + 1)) (SetTable.bits h)) (show SetTable.bits h % (m + 1) + (SetTable.runEnd m (SetTable.bits h % (m + 1)) - SetTable.bits h % (m + 1)) ≤ m by simp only [Nat.succ_eq_add_one] at r; omega)
  exact Nat.le_trans (Nat.le_add_right _ _) q
/-! ### tables -/
structure TabG (t : SetTable) (hs : List Int) : Prop where
  up : Ris t.place.toList
  none' : t.dummies = #[]
  size' : t.place.size = hs.length
  mask' : MaskG t.mask
  under : ∀ x ∈ t.place.toList, x ≤ t.mask
  found : ∀ (i : Nat) (h : Int) (j : Nat), hs[i]? = some h → t.place.toList[i]? = some j → ∃ k, way t.mask h k = j ∧ ∀ k', k' < k → way t.mask h k' ∈ t.place.toList
section
variable {t : SetTable} {hs : List Int}
theorem TabG.len (T : TabG t hs) : t.place.toList.length = hs.length := by rw [Array.length_toList]; exact T.size'
theorem TabG.gap (T : TabG t hs) (room : hs.length ≤ t.mask) (h : Int) : ∃ n, n < 10 * SetTable.turns t.mask ∧ way t.mask h n ∉ t.place.toList ∧ ∀ k, k < n → way t.mask h k ∈ t.place.toList := by
  have hl := T.len
  obtain ⟨j, lj, nj⟩ := st_missing t.place.toList (t.mask + 1) (by omega)
  obtain ⟨k, lk, ek⟩ := ways_meet T.mask' h (Nat.le_of_lt_succ lj)
  obtain ⟨n, a1, a2, a3⟩ := st_least (p := fun c => way t.mask h c ∉ t.place.toList) k (by show way t.mask h k ∉ _; rw [ek]; exact nj)
  exact ⟨n, Nat.lt_of_le_of_lt a1 lk, a2, fun c hc => Classical.byContradiction fun z => a3 c hc z⟩
theorem TabG.ahead (T : TabG t hs) {h : Int} {n i j : Nat} (hn : way t.mask h n ∉ t.place.toList) (hi : hs[i]? = some h) (hj : t.place.toList[i]? = some j) : ∃ k, k < n ∧ way t.mask h k = j := by
  obtain ⟨k, e, b⟩ := T.found i h j hi hj
  refine ⟨k, Classical.byContradiction fun z => ?_, e⟩
  by_cases c : k = n
  · rw [← c, e] at hn
    exact hn (List.mem_of_getElem? hj)
  · exact hn (b n (by omega))
theorem TabG.add (T : TabG t hs) {h : Int} {n : Nat} (hn : way t.mask h n ∉ t.place.toList) (hb : ∀ k, k < n → way t.mask h k ∈ t.place.toList) : ∃ p, (t.put (way t.mask h n)).2 = p ∧ p ≤ hs.length ∧ SetTable.below t.place (way t.mask h n) = p ∧
    TabG (t.put (way t.mask h n)).1 (hs.take p ++ h :: hs.drop p) ∧ (t.put (way t.mask h n)).1.mask = t.mask ∧ (t.put (way t.mask h n)).1.led = t.led ∧ (t.put (way t.mask h n)).1.plain = t.plain ∧ (t.put (way t.mask h n)).1.fill = hs.length + 1 := by
  have lm : way t.mask h n ≤ t.mask := way_in
  obtain ⟨j, ej⟩ : ∃ j, way t.mask h n = j := ⟨_, rfl⟩
  rw [ej] at hn lm ⊢
  have tl := T.len
  have cut := (below_cut T.up j).1
  have c1 : SetTable.below t.place j ≤ t.place.toList.length := by rw [Array.length_toList]; exact cut
  have c2 : SetTable.below t.place j ≤ hs.length := by omega
  have pp := put_place t j
  have new : t.place[SetTable.below t.place j]? ≠ some j := fun z => hn (List.mem_of_getElem? (by rw [Array.getElem?_toList]; exact z))
  have up : ∀ x, x ∈ t.place.toList → x ∈ (t.put j).1.place.toList := fun x hx => by rw [pp]; exact mem_ins.2 (.inr hx)
  have sz : (t.put j).1.place.size = hs.length + 1 := by
    rw [← Array.length_toList, pp, len_ins _ c1, tl]
  refine ⟨SetTable.below t.place j, rfl, c2, rfl, ⟨ris_insert T.up new, put_dm T.none' j, by rw [len_ins _ c2]; exact sz, T.mask', fun x hx => ?_, fun i h' j' g1 g2 => ?_⟩, rfl, rfl, rfl, ?_⟩
  · rw [pp] at hx
    rcases mem_ins.1 hx with rfl | z
    · exact lm
    · exact T.under x z
  · rw [tins_get hs c2] at g1
    rw [pp, tins_get _ c1] at g2
    show ∃ k, way t.mask h' k = j' ∧ ∀ k', k' < k → way t.mask h' k' ∈ (t.put j).1.place.toList
    by_cases a1 : i < SetTable.below t.place j
    · rw [if_pos a1] at g1 g2
      obtain ⟨k, e, z⟩ := T.found i h' j' g1 g2
      exact ⟨k, e, fun k' l => up _ (z k' l)⟩
    · rw [if_neg a1] at g1 g2
      by_cases a2 : i = SetTable.below t.place j
      · rw [if_pos a2] at g1 g2
        cases g1
        cases g2
        exact ⟨n, ej, fun k' l => up _ (hb k' l)⟩
      · rw [if_neg a2] at g1 g2
        obtain ⟨k, e, z⟩ := T.found (i - 1) h' j' g1 g2
        exact ⟨k, e, fun k' l => up _ (z k' l)⟩
  · show (t.put j).1.place.size + (t.put j).1.dummies.size = hs.length + 1
    rw [sz, put_dm T.none' j]
    rfl
end
/-! ### laid anew -/
theorem free_at {m : Nat} (hm : MaskG m) (owner : Array (Option Nat)) (h : Int) {j : Nat} (hj : j ≤ m) (hf : oAt owner j = none) :
    ∃ n, SetTable.layClean.free m owner (SetTable.turns m) (SetTable.bits h % (m + 1)) (SetTable.bits h) = some (way m h n) ∧ oAt owner (way m h n) = none ∧ ∀ k, k < n → oAt owner (way m h k) ≠ none := by
  obtain ⟨r, lr, er⟩ := runs_meet hm h hj
  obtain ⟨f, ef⟩ : ∃ f, off m (SetTable.bits h % (m + 1)) (SetTable.bits h) r = f := ⟨_, rfl⟩
  have hw : way m h f = j := by
    show (nth m (runAt m (SetTable.bits h % (m + 1)) (SetTable.bits h)) f).j = j
    rw [← ef, nth_off, itL_run]
    exact er
  obtain ⟨n, a1, a2, a3⟩ := st_least (p := fun k => oAt owner (way m h k) = none) f (by show oAt owner (way m h f) = none; rw [hw]; exact hf)
  have some_of : ∀ {o : Option Nat}, o ≠ none → o.isNone = false := fun {o} z => by cases o with | none => exact absurd rfl z | some _ => rfl
  refine ⟨n, free_spec m owner (SetTable.turns m) r _ _ n (by unfold SetTable.turns; omega) (by omega) (fun k hk => some_of (a3 k hk)) ?_, a2, a3⟩
  have a2 : oAt owner (nth m (runAt m (SetTable.bits h % (m + 1)) (SetTable.bits h)) n).j = none := a2
  rw [a2]
  rfl
theorem own_more {m : Nat} (hm : MaskG m) {done : List Int} {owner : Array (Option Nat)} (W : Own m done owner) (hl : done.length ≤ m) (h : Int) :
    ∃ j, SetTable.layClean.free m owner (SetTable.turns m) (SetTable.bits h % (m + 1)) (SetTable.bits h) = some j ∧ Own m (done ++ [h]) (owner.setIfInBounds j (some done.length)) := by
  obtain ⟨ps, pl, pin⟩ := W.ps
  obtain ⟨z, lz, nz⟩ := st_missing ps (m + 1) (by omega)
  have hz : oAt owner z = none := Classical.byContradiction fun q => nz (pin z (Nat.le_of_lt_succ lz) q)
  obtain ⟨n, b1, b2, b3⟩ := free_at hm owner h (Nat.le_of_lt_succ lz) hz
  obtain ⟨j, ej⟩ : ∃ j, way m h n = j := ⟨_, rfl⟩
  have jm : j ≤ m := by rw [← ej]; exact way_in
  rw [ej] at b1 b2
  have js : j < owner.size := by have := W.sz; omega
  have self := oAt_set_self (owner := owner) (some done.length) js
  have stay : ∀ i, oAt owner i ≠ none → oAt (owner.setIfInBounds j (some done.length)) i ≠ none := fun i hi => by
    by_cases c : i = j
    · rw [c, self]; exact fun e => nomatch e
    · rw [oAt_set_ne _ c]; exact hi
  refine ⟨j, b1, by rw [Array.size_setIfInBounds]; exact W.sz, fun i k hi e => ?_, fun k hk => ?_, j :: ps, by rw [List.length_cons, List.length_append, pl]; rfl, fun i hi e => ?_⟩
  · by_cases c : i = j
    · rw [c, self] at e
      cases e
      refine ⟨h, n, by rw [List.getElem?_append_right (Nat.le_refl _), Nat.sub_self]; rfl, by rw [c]; exact ej, fun k' l => stay _ (b3 k' l)⟩
    · rw [oAt_set_ne _ c] at e
      obtain ⟨h', n', e1, e2, e3⟩ := W.at_ i k hi e
      refine ⟨h', n', ?_, e2, fun k' l => stay _ (e3 k' l)⟩
      rw [List.getElem?_append_left (List.getElem?_eq_some_iff.mp e1).1]
      exact e1
  · rw [List.length_append, List.length_singleton] at hk
    by_cases c : k = done.length
    · exact ⟨j, jm, by rw [c]; exact self⟩
    · obtain ⟨i, hi, e⟩ := W.all k (by omega)
      refine ⟨i, hi, ?_⟩
      rw [oAt_set_ne _ fun q => by rw [q, b2] at e; cases e]
      exact e
  · by_cases c : i = j
    · rw [c]; exact List.mem_cons_self
    · rw [oAt_set_ne _ c] at e
      exact List.mem_cons_of_mem _ (pin i hi e)
theorem lay_all {m : Nat} (hm : MaskG m) : ∀ (rest done : List Int) (owner : Array (Option Nat)), Own m done owner → done.length + rest.length ≤ m → ∃ o', rest.foldl (stepF m) (some (owner, done.length)) = some (o', (done ++ rest).length) ∧ Own m (done ++ rest) o'
  | [], done, owner, W, _ => ⟨owner, by rw [List.append_nil]; rfl, by rw [List.append_nil]; exact W⟩
  | h :: rest, done, owner, W, hl => by
    have hl : done.length + (rest.length + 1) ≤ m := hl
    obtain ⟨j, e, W'⟩ := own_more hm W (by omega) h
    have dl : (done ++ [h]).length = done.length + 1 := List.length_append ..
    obtain ⟨o', f, W2⟩ := lay_all hm rest (done ++ [h]) _ W' (by omega)
    have ea : done ++ [h] ++ rest = done ++ h :: rest := List.append_assoc ..
    rw [ea] at f W2
    rw [dl] at f
    refine ⟨o', ?_, W2⟩
    rw [List.foldl_cons, stepF_some e]
    exact f
theorem lay_ok {m : Nat} (hm : MaskG m) {hs : Array Int} (hn : hs.size ≤ m) : ∃ owner, SetTable.layClean m hs = some owner ∧ Own m hs.toList owner := by
  obtain ⟨owner, f, W⟩ := lay_all hm hs.toList [] _ (Own.init m) (by rw [Array.length_toList]; simpa using hn)
  refine ⟨owner, ?_, W⟩
  rw [layClean_eq, show (0 : Nat) = ([] : List Int).length from rfl, f]
  rfl
theorem relay_ok (t : SetTable) {hs : Array Int} {wanted m : Nat} (hw : SetTable.sizeAbove wanted - 1 = m) (hM : MaskG m) (hn : hs.size ≤ m) :
    ∃ t' order, t.relaid hs wanted = some (t', order) ∧ order.toList.Perm (List.range hs.size) ∧ TabG t' (order.toList.map fun i => hs.getD i 0) ∧ t'.mask = m ∧ t'.led = t.led ∧ t'.plain = t.plain := by
  obtain ⟨owner, e, W⟩ := lay_ok hM hn
  obtain ⟨lv, elv⟩ : ∃ lv, liveOf m owner = lv := ⟨_, rfl⟩
  have hr : t.relaid hs wanted = some (tabOf t m owner, (lv.map (·.2)).toArray) := by
    rw [relaid_eq, hw, e, ← elv]
    rfl
  have ris := ris_live (fun j => owner.getD j none) (List.range (m + 1)) List.pairwise_lt_range
  have r1 : Ris (lv.map (·.1)) := by rw [← elv]; exact ris.1
  have r2 : ∀ x ∈ lv.map (·.1), x ≤ m := fun x hx => by
    rw [← elv] at hx
    exact Nat.le_of_lt_succ (List.mem_range.mp (ris.2 x hx))
  have mem : ∀ {j k}, (j, k) ∈ lv ↔ j ≤ m ∧ oAt owner j = some k := fun {j k} => by rw [← elv]; exact mem_live W.sz
  have nd_of : ∀ {l : List Nat}, Ris l → l.Nodup := fun {l} h => List.Pairwise.imp (fun h => Nat.ne_of_lt h) h
  have tot : lv.length = hs.size := by
    obtain ⟨ps, p1, p2⟩ := W.ps
    have u1 := nat_nodup_len (lv.map (·.1)) ps (nd_of r1) fun x hx => by
      obtain ⟨⟨y, k⟩, hq, rfl⟩ := List.mem_map.mp hx
      obtain ⟨b1, b2⟩ := mem.1 hq
      exact p2 y b1 (by rw [b2]; exact fun z => nomatch z)
    have u2 := nat_nodup_len (List.range hs.size) (lv.map (·.2)) List.nodup_range fun k hk => by
      obtain ⟨j, b1, b2⟩ := W.all k (by rw [Array.length_toList]; exact List.mem_range.mp hk)
      exact List.mem_map.mpr ⟨(j, k), mem.2 ⟨b1, b2⟩, rfl⟩
    have p1' : ps.length = hs.size := p1
    rw [List.length_map, p1'] at u1
    rw [List.length_map, List.length_range] at u2
    omega
  have pl : (tabOf t m owner).place.toList = lv.map (·.1) := by rw [← elv]; rfl
  refine ⟨_, _, hr, perm_range hs.size _ (by simpa using tot) fun k hk => ?_, ⟨by rw [pl]; exact r1, rfl, ?_, hM, fun x hx => r2 x (by rw [pl] at hx; exact hx), fun i h j h1 h2 => ?_⟩, rfl, rfl, rfl⟩
  · obtain ⟨j, b1, b2⟩ := W.all k (by rw [Array.length_toList]; exact hk)
    exact List.mem_map.mpr ⟨(j, k), mem.2 ⟨b1, b2⟩, rfl⟩
  · rw [← Array.length_toList, pl]
    simp
  · rw [pl] at h2 ⊢
    have h1 : ((lv.map (·.2)).map fun i => hs.getD i 0)[i]? = some h := h1
    rw [List.getElem?_map, List.getElem?_map] at h1
    rw [List.getElem?_map] at h2
    cases hq : lv[i]? with
    | none => rw [hq] at h2; cases h2
    | some q =>
      obtain ⟨y, k⟩ := q
      rw [hq] at h1 h2
      cases h2
      have eh : hs.getD k 0 = h := Option.some.inj h1
      obtain ⟨b1, b2⟩ := mem.1 (List.mem_of_getElem? hq)
      obtain ⟨h0, n, a1, a2, a3⟩ := W.at_ y k b1 b2
      have e0 : hs.getD k 0 = h0 := by
        rw [Array.getD_eq_getD_getElem?, ← Array.getElem?_toList, a1]
        rfl
      rw [e0] at eh
      subst eh
      refine ⟨n, a2, fun k' l => ?_⟩
      show way m h0 k' ∈ lv.map (·.1)
      cases z : oAt owner (way m h0 k') with
      | none => exact absurd z (a3 k' l)
      | some k2 => exact List.mem_map.mpr ⟨(way m h0 k', k2), mem.2 ⟨way_in, z⟩, rfl⟩
/-! ### sets of up to 4000 tuples of ints -/
abbrev prb (m : Nat) (h : Int) (c : Nat) : SetTable.Probe := nth m (runAt m (SetTable.bits h % (m + 1)) (SetTable.bits h)) c
theorem prb_more {m : Nat} {h : Int} {c : Nat} (q : Nat) : nth m (prb m h c) q = prb m h (c + q) := (nth_add m c _ q).symm
theorem prb_j {m : Nat} {h : Int} {c : Nat} (q : Nat) : (nth m (prb m h c) q).j = way m h (c + q) := by rw [prb_more]
theorem prb_clean {m : Nat} {h : Int} : ∀ c, (prb m h c).dummy = none
  | 0 => rfl
  | c + 1 => by
    have e : prb m h (c + 1) = adv m (prb m h c) := nth_succ m _ c
    rw [e]
    unfold adv
    split
    · exact prb_clean c
    · exact prb_clean c
structure SetG (P : Program) (w : World) (h : Heap) (a : Addr) (L : List (Addr × List Int)) (es : Array (Int × Value)) (ep : Nat) (t : SetTable) : Prop where
  obj : ∃ o, h.get? a = some o ∧ o.ExactSet ∧ o.data = .set es ep t
  row : es.toList = L2.rowsOf P w L
  tab : TabG t (L.map fun q => thash P w q.2)
  dis : (L.map (·.2)).Nodup
  are : ∀ q ∈ L, IsT P w h q.2 q.1
  pln : t.plain = true
  lead : w.params.followText "set-order" = true ∨ t.led = true
  gap : L.length * 5 < t.mask * 3
  most : L.length ≤ 4000
section
variable {P : Program} {w : World} {A : Around} {E : Value → Shared → Prop} {s : Shared} {a : Addr} {L : List (Addr × List Int)} {es : Array (Int × Value)} {ep : Nat} {t : SetTable}
theorem rows_len {L : List (Addr × List Int)} {es : Array (Int × Value)} (h : es.toList = L2.rowsOf P w L) : es.size = L.length := by
  have z : es.toList.length = (L2.rowsOf P w L).length := by rw [h]
  simpa [L2.rowsOf] using z
theorem rows_at {L : List (Addr × List Int)} {es : Array (Int × Value)} (h : es.toList = L2.rowsOf P w L) {i : Nat} {q : Addr × List Int} (g : L[i]? = some q) : es[i]? = some (thash P w q.2, Value.ref q.1) := by
  rw [← Array.getElem?_toList, h]
  simp [L2.rowsOf, g]
theorem fits_of {t : SetTable} {n : Nat} (d : t.dummies = #[]) (e : t.place.size = n) (l : n ≤ t.mask) : t.fits n = true := by
  simp [SetTable.fits, SetTable.fill, d, e, l]
theorem SetG.len (R : SetG P w s.heap a L es ep t) : es.size = L.length := rows_len R.row
theorem SetG.ok (R : SetG P w s.heap a L es ep t) : t.fits es.size = true := by
  have h1 : t.place.size = L.length := by rw [R.tab.size', List.length_map]
  have h3 := R.gap
  rw [R.len]
  exact fits_of R.tab.none' h1 (by omega)
theorem SetG.stays (R : SetG P w s.heap a L es ep t) : ¬ t.gaveWay = true := by
  simp [SetTable.gaveWay, R.tab.mask'.odd]

/-- a search for the tuple k from its c-th step on; the n-th is the first that meets a gap -/
theorem seek_from (R : SetG P w s.heap a L es ep t) {x : Addr} {k : List Int} (hx : IsT P w s.heap k x) (deep : A.units < cLine) {n : Nat} (nl : n < 10 * SetTable.turns t.mask)
    (ng : way t.mask (thash P w k) n ∉ t.place.toList) (nb : ∀ c, c < n → way t.mask (thash P w k) c ∈ t.place.toList) {Q : SetFound → Shared → Prop}
    (yes : k ∈ L.map (·.2) → Q (.there none) s) (no : k ∉ L.map (·.2) → Q (.free (way t.mask (thash P w k) n) false) s) :
    ∀ (f c : Nat) (stand : Option SetTable.Probe), stand.getD (t.probeStart (thash P w k)) = prb t.mask (thash P w k) c → c ≤ n → n - c < f →
      (∀ (i : Nat) (q : Addr × List Int), L[i]? = some q → q.2 = k → ∃ d, c ≤ d ∧ d < n ∧ t.place.toList[i]? = some (way t.mask (thash P w k) d)) →
      wpAny (model P w) A (setSearchFrom a (.ref x) (thash P w k) true f stand) Q E s := by
  intro f
  induction f with
  | zero => intro c _ _ _ h; exact absurd h (Nat.not_lt_zero _)
  | succ f ih =>
    intro c stand from_ cn room ahead
    obtain ⟨o, ho, _, hd⟩ := R.obj
    obtain ⟨g, eg⟩ : ∃ g : Nat → Int, (fun i => (es[i]?.map (·.1)).getD 0) = g := ⟨_, rfl⟩
    have gat : ∀ (i : Nat) (q : Addr × List Int), L[i]? = some q → g i = thash P w q.2 := fun i q h => by
      rw [← eg]
      simp [rows_at R.row h]
    rw [setSearchFrom_succ]
    refine wpAny_bind (wpAny_setState_of ho hd R.ok ?_)
    dsimp only
    refine wp_if_neg R.stays ?_
    try refine wpAny_bind (wpAny_pure ?_)
    rw [from_, eg]
    have probed := go_spec t R.tab.up R.tab.none' g (thash P w k) (10 * SetTable.turns t.mask) (n - c) (prb t.mask (thash P w k) c) (prb_clean c) (by omega)
      (fun q hq => by rw [prb_j]; exact nb _ (by omega)) (by rw [prb_j, show c + (n - c) = n by omega]; exact ng)
    rcases probed with ⟨q, i, lq, iq, hq, before, e⟩ | ⟨before, e⟩
    · rw [show t.probe g (thash P w k) (prb t.mask (thash P w k) c) = _ from e]
      rw [prb_j] at iq ⊢
      rw [prb_more]
      dsimp only
      have il : i < L.length := by
        have h1 := (List.getElem?_eq_some_iff.mp iq).1
        have h2 := R.tab.len
        rw [List.length_map] at h2
        omega
      obtain ⟨p, hp⟩ : ∃ p, L[i]? = some p := ⟨_, List.getElem?_eq_getElem il⟩
      have pm : p ∈ L := List.mem_of_getElem? hp
      have live : t.slot (way t.mask (thash P w k) (c + q)) = .live i := slot_live R.tab.up iq
      have then_ : wpAny (model P w) A (searchRest a (.ref x) (thash P w k) true f es t (way t.mask (thash P w k) (c + q)) i (prb t.mask (thash P w k) (c + (q + 1)))) Q E s := by
        unfold searchRest
        rw [rows_at R.row hp]
        dsimp only
        refine wpAny_bind (wpAny_holding (wpAny_eqBool_tuple deep (R.are p pm) hx ?_))
        refine wpAny_bind (wpAny_setState_of ho hd R.ok ?_)
        dsimp only
        by_cases same : p.2 = k
        · refine wp_if_pos (by simp [same]) (wpAny_pure (yes ?_))
          exact List.mem_map.mpr ⟨p, pm, same⟩
        · refine wp_if_neg (by simp [same]) ?_
          try refine wpAny_bind (wpAny_pure ?_)
          rw [sameMem]
          dsimp only
          simp only [if_true, live, rows_at R.row hp]
          refine wpAny_bind (wpAny_isSame_ref_self (wpAny_bind (wpAny_pure ?_)))
          simp only [if_true]
          refine wp_if_neg (by simp [same]) (ih (c + (q + 1)) _ rfl (by omega) (by omega) fun i0 p0 h0 k0 => ?_)
          obtain ⟨d, d1, d2, d3⟩ := ahead i0 p0 h0 k0
          refine ⟨d, ?_, d2, d3⟩
          by_cases u : d < c + q
          · exact absurd ((gat i0 p0 h0).trans (by rw [k0])) (before (d - c) i0 (by omega) (by rw [prb_j, show c + (d - c) = d by omega]; exact d3))
          · by_cases v : d = c + q
            · rw [v] at d3
              have l2 := slot_live R.tab.up d3
              rw [live] at l2
              cases l2
              rw [hp] at h0
              cases h0
              exact absurd k0 same
            · omega
      by_cases lead : t.led = true
      · refine wp_if_neg (by simp [lead]) ?_
        try refine wpAny_bind (wpAny_pure ?_)
        exact then_
      · refine wp_if_pos (by simp [lead]) (wpAny_bind (seen_tup hx (fun y hy => ?_) ?_))
        · obtain ⟨z, hz, rfl⟩ := List.mem_map.mp hy
          have hz2 : z ∈ es.toList := by
            have hz3 : z ∈ es ∧ z.1 = thash P w k := by simpa using hz
            simpa using hz3.1
          rw [R.row] at hz2
          obtain ⟨p2, g1, rfl⟩ := List.mem_map.mp hz2
          exact ⟨p2.2, p2.1, rfl, R.are p2 g1⟩
        · refine wp_if_neg (by decide) ?_
          try refine wpAny_bind (wpAny_pure ?_)
          exact then_
    · rw [show t.probe g (thash P w k) (prb t.mask (thash P w k) c) = _ from e, prb_j, show c + (n - c) = n by omega]
      dsimp only
      refine wpAny_pure (no fun hm => ?_)
      obtain ⟨p0, h0, k0⟩ := List.mem_map.mp hm
      obtain ⟨i0, h1⟩ := List.mem_iff_getElem?.mp h0
      obtain ⟨d, d1, d2, d3⟩ := ahead i0 p0 h1 k0
      exact before (d - c) i0 (by omega) (by rw [prb_j, show c + (d - c) = d by omega]; exact d3) ((gat i0 p0 h1).trans (by rw [k0]))
theorem seek_new (R : SetG P w s.heap a L es ep t) {x : Addr} {k : List Int} (hx : IsT P w s.heap k x) (deep : A.units < cLine) {Q : SetFound → Shared → Prop}
    (yes : k ∈ L.map (·.2) → Q (.there none) s)
    (no : ∀ n, k ∉ L.map (·.2) → way t.mask (thash P w k) n ∉ t.place.toList → (∀ c, c < n → way t.mask (thash P w k) c ∈ t.place.toList) → Q (.free (way t.mask (thash P w k) n) false) s) :
    wpAny (model P w) A (setSearch a (.ref x) (thash P w k) true) Q E s := by
  have room := R.gap
  obtain ⟨n, n1, n2, n3⟩ := R.tab.gap (by rw [List.length_map]; omega) (thash P w k)
  have small : n < 100000 := by
    have := R.tab.mask'.le
    unfold SetTable.turns at n1
    omega
  unfold setSearch
  refine seek_from R hx deep n1 n2 n3 yes (fun h => no n h n2 n3) 100000 0 none rfl (Nat.zero_le _) (by omega) fun i q g e => ?_
  have h1 : (L.map fun q => thash P w q.2)[i]? = some (thash P w k) := by rw [List.getElem?_map, g, ← e]; rfl
  have il : i < t.place.toList.length := by
    have := (List.getElem?_eq_some_iff.mp g).1
    have z := R.tab.len
    rw [List.length_map] at z
    omega
  obtain ⟨d, d1, d2⟩ := R.tab.ahead n2 h1 (List.getElem?_eq_getElem il)
  exact ⟨d, Nat.zero_le _, d1, by rw [d2]; exact List.getElem?_eq_getElem il⟩
end
theorem grow32 : SetTable.sizeAbove (SetTable.grown 5) = 32 := by decide +kernel
theorem grow128 : SetTable.sizeAbove (SetTable.grown 19) = 128 := by decide +kernel
theorem grow512 : SetTable.sizeAbove (SetTable.grown 77) = 512 := by decide +kernel
theorem grow2048 : SetTable.sizeAbove (SetTable.grown 307) = 2048 := by decide +kernel
theorem grow8192 : SetTable.sizeAbove (SetTable.grown 1229) = 8192 := by decide +kernel
/-- a full table's next mask -/
theorem next_mask {m n : Nat} (hm : MaskG m) (h1 : n * 5 < m * 3) (h2 : (n + 1) * 5 ≥ m * 3) (h3 : n + 1 ≤ 4000) : ∃ b, MaskG b ∧ SetTable.sizeAbove (SetTable.grown (n + 1)) = b + 1 ∧ (n + 1) * 5 < b * 3 := by
  rcases hm with rfl | rfl | rfl | rfl | rfl | rfl
  · obtain rfl : n = 4 := by omega
    exact ⟨31, .inr (.inl rfl), grow32, by decide⟩
  · obtain rfl : n = 18 := by omega
    exact ⟨127, .inr (.inr (.inl rfl)), grow128, by decide⟩
  · obtain rfl : n = 76 := by omega
    exact ⟨511, .inr (.inr (.inr (.inl rfl))), grow512, by decide⟩
  · obtain rfl : n = 306 := by omega
    exact ⟨2047, .inr (.inr (.inr (.inr (.inl rfl)))), grow2048, by decide⟩
  · obtain rfl : n = 1228 := by omega
    exact ⟨8191, .inr (.inr (.inr (.inr (.inr rfl)))), grow8192, by decide⟩
  · omega
section
variable {P : Program} {w : World} {A : Around} {E : Value → Shared → Prop} {s : Shared} {a : Addr} {L : List (Addr × List Int)} {es : Array (Int × Value)} {ep : Nat} {t : SetTable}
/-- the table is laid anew, greater -/
theorem lay_anew {o : Obj} (ho : s.heap.get? a = some o) (ex : o.ExactSet) (hd : o.data = .set es ep t) (row : es.toList = L2.rowsOf P w L) (d0 : t.dummies = #[]) (sz : t.place.size = es.size) (le : es.size ≤ t.mask)
    (dis : (L.map (·.2)).Nodup) (are : ∀ q ∈ L, IsT P w s.heap q.2 q.1) (pln : t.plain = true) (lead : w.params.followText "set-order" = true ∨ t.led = true) (most : L.length ≤ 4000) {wanted b : Nat}
    (hb : MaskG b) (hw : SetTable.sizeAbove wanted = b + 1) (gap : L.length * 5 < b * 3) {Q : Unit → Shared → Prop}
    (q : ∀ g N fs en u, Heap.SameBut a s.heap g → SetG P w g a N fs en u → N.Perm L → Q () { s with heap := g }) : wpAny (model P w) A (setRelay a wanted) Q E s := by
  have n0 := rows_len row
  have bl := hb.le
  obtain ⟨u, order, r0, r1, r2, r3, r4, r5⟩ := relay_ok t (hs := es.map (·.1)) (wanted := wanted) (m := b) (by omega) hb (by rw [Array.size_map]; omega)
  rw [Array.size_map, n0] at r1
  obtain ⟨N, f1, f2, f3⟩ := order_rows L es order row r1
  rw [← f3] at r2
  have n1 : (order.filterMap fun i => es[i]?).size = es.size := by rw [rows_len f1, f2.length_eq, n0]
  rw [setRelay_eq]
  refine wpAny_bind (wpAny_setState_of ho hd (fits_of d0 sz le) ?_)
  dsimp only
  refine wp_if_neg (by rw [hw, sizeLine_eq]; omega) ?_
  try refine wpAny_bind (wpAny_pure ?_)
  rw [r0]
  dsimp only
  refine wpAny_bind (wp_if_neg (by simp [n1]) ?_)
  try refine wpAny_bind (wpAny_pure ?_)
  refine wpAny_pure ?_
  dsimp only
  refine wpAny_storeSet_of ho hd ?_ (by rw [n1, n0, sizeLine_eq]; omega)
  have but := Heap.SameBut.update (a := a) (h := s.heap) (f := Obj.putSet (order.filterMap fun i => es[i]?) u)
  exact q _ N _ (ep + 1) u but ⟨⟨_, store_at ho hd, ⟨ex.1, ex.2.1, ex.2.2⟩, rfl⟩, f1, r2, (f2.map (·.2)).nodup_iff.mpr dis, fun z hz => isT_same (are z (f2.mem_iff.mp hz)) ho hd but, by rw [r5]; exact pln, by rw [r4]; exact lead, by rw [f2.length_eq, r3]; exact gap, by rw [f2.length_eq]; exact most⟩ f2
/-- one is added -/
theorem add_one (R : SetG P w s.heap a L es ep t) {x : Addr} {k : List Int} (hx : IsT P w s.heap k x) (deep : A.units < cLine) (more : L.length + 1 ≤ 4000) {Q : Bool → Shared → Prop}
    (q : ∀ c g N fs en u, Heap.SameBut a s.heap g → SetG P w g a N fs en u → (k ∈ L.map (·.2) → N = L) → (k ∉ L.map (·.2) → N.Perm ((x, k) :: L)) → Q c { s with heap := g }) :
    wpAny (model P w) A (setAddHashed a (.ref x) (thash P w k)) Q E s := by
  obtain ⟨o, ho, ex, hd⟩ := R.obj
  unfold setAddHashed
  refine wpAny_holding ?_
  rw [show (100000 : Nat) = 99999 + 1 from rfl, setAddHashedIn_succ]
  refine wpAny_bind (wpAny_setState_of ho hd R.ok ?_)
  dsimp only
  refine wp_if_neg (by simp [byScan, Value.scannable]) ?_
  try refine wpAny_bind (wpAny_pure ?_)
  refine wpAny_bind (seek_new R hx deep (fun there => ?_) fun n fresh ng nb => ?_)
  · dsimp only
    exact wpAny_pure (q false s.heap L es ep t (Heap.SameBut.refl a s.heap) R (fun _ => rfl) fun z => absurd there z)
  · dsimp only
    refine wpAny_bind (wpAny_setState_of ho hd R.ok ?_)
    dsimp only
    obtain ⟨p, p1, p2, p3, T, p5, p6, p7, p8⟩ := R.tab.add ng nb
    have pln : (t.put (way t.mask (thash P w k) n)).1.plain = true := by rw [p7]; exact R.pln
    generalize t.put (way t.mask (thash P w k) n) = tp at p1 T p5 p6 p7 p8 pln ⊢
    obtain ⟨u, p'⟩ := tp
    dsimp only at p1 T p5 p6 p7 p8 pln ⊢
    subst p1
    first
      | (refine wpAny_bind ?_; refine wp_if_pos pln ?_; refine hashBy_tup hx ?_)
      | refine wp_if_pos pln (wpAny_bind (hashBy_tup hx ?_))
    simp only [if_true]
    have row : (SetTable.insertAt es p' (thash P w k, Value.ref x)).toList = L2.rowsOf P w (L.take p' ++ (x, k) :: L.drop p') := by
      rw [SetTable.toList_insertAt, rows_put, R.row]
    have perm := put_perm L p' (x, k)
    have hmap : (L.map fun q => thash P w q.2).take p' ++ thash P w k :: (L.map fun q => thash P w q.2).drop p' = (L.take p' ++ (x, k) :: L.drop p').map fun q => thash P w q.2 := by
      rw [List.map_append, List.map_cons, List.map_take, List.map_drop]
    rw [hmap] at T
    generalize SetTable.insertAt es p' (thash P w k, Value.ref x) = fs at row ⊢
    generalize L.take p' ++ (x, k) :: L.drop p' = N at row perm T
    have nl : N.length = L.length + 1 := perm.length_eq
    have fl : fs.size = L.length + 1 := by rw [rows_len row, nl]
    have dis : (N.map (·.2)).Nodup := (perm.map (·.2)).nodup_iff.mpr (List.nodup_cons.mpr ⟨fresh, R.dis⟩)
    refine wpAny_bind (wpAny_storeSet_of ho hd ?_ (by rw [fl, sizeLine_eq]; omega))
    have but := Heap.SameBut.update (a := a) (h := s.heap) (f := Obj.putSet fs u)
    have ho1 := store_at (es' := fs) (t' := u) ho hd
    generalize s.heap.update a (Obj.putSet fs u) = g at but ho1 ⊢
    have are : ∀ z ∈ N, IsT P w g z.2 z.1 := fun z hz => by
      rcases List.mem_cons.mp (perm.mem_iff.mp hz) with rfl | hz
      · exact isT_same hx ho hd but
      · exact isT_same (R.are z hz) ho hd but
    have lead : w.params.followText "set-order" = true ∨ u.led = true := by rw [p6]; exact R.lead
    have room := R.gap
    have full : u.tooFull = decide ((L.length + 1) * 5 ≥ t.mask * 3) := by
      unfold SetTable.tooFull
      rw [p8, p5, List.length_map]
    by_cases c : (L.length + 1) * 5 ≥ t.mask * 3
    · have cf : u.tooFull = true := by rw [full]; exact decide_eq_true c
      obtain ⟨b, hb, hs, gap⟩ := next_mask R.tab.mask' room c more
      first
        | (refine wpAny_bind ?_; refine wp_if_pos (by simp [cf]) ?_)
        | (refine wp_if_pos (by simp [cf]) ?_; refine wpAny_bind ?_)
      rw [R.len]
      refine lay_anew (s := { s with heap := g }) ho1 ⟨ex.1, ex.2.1, ex.2.2⟩ rfl row T.none' (by rw [T.size', List.length_map, nl, fl]) (by rw [fl, p5]; rcases R.tab.mask' with e | e | e | e | e | e <;> rw [e] at room ⊢ <;> omega) dis are pln lead (by omega) hb hs (by rw [nl]; exact gap) ?_
      intro g2 N2 fs2 en2 u2 but2 R2 perm2
      exact wpAny_pure (q true g2 N2 fs2 en2 u2 (but.trans but2) R2 (fun z => absurd z fresh) fun _ => perm2.trans perm)
    · have cf : u.tooFull = false := by rw [full]; exact decide_eq_false c
      first
        | refine wp_if_neg (by simp [cf]) ?_
        | (refine wpAny_bind ?_; refine wp_if_neg (by simp [cf]) ?_; refine wpAny_pure ?_)
      refine wpAny_pure (q true g N fs (ep + 1) u but ⟨⟨_, ho1, ⟨ex.1, ex.2.1, ex.2.2⟩, rfl⟩, row, T, dis, are, pln, lead, ?_, by omega⟩ (fun z => absurd z fresh) fun _ => perm)
      rw [nl, p5]
      omega
/-- told anew where all that was told stays -/
theorem SetG.later {g h : Heap} (R : SetG P w g a L es ep t) (ha : ∀ o, g.get? a = some o → h.get? a = some o) (ht : ∀ q ∈ L, IsT P w h q.2 q.1) : SetG P w h a L es ep t := by
  obtain ⟨o, ho, r⟩ := R.obj
  exact ⟨⟨o, ha o ho, r⟩, R.row, R.tab, R.dis, ht, R.pln, R.lead, R.gap, R.most⟩
/-- a new one -/
theorem SetG.nil {h : Heap} (ho : h.get? a = some (emptyS w)) : SetG P w h a [] #[] 0 (.fresh 0 0 (!w.params.followText "set-order")) :=
  ⟨⟨_, ho, ⟨rfl, rfl, rfl⟩, rfl⟩, rfl, ⟨List.Pairwise.nil, rfl, rfl, .inl rfl, fun x hx => (by cases hx), fun i h j hi => by simp at hi⟩, List.nodup_nil, fun p hp => (by cases hp), rfl, by cases w.params.followText "set-order" <;> simp [SetTable.fresh], by show 0 * 5 < 7 * 3; decide, Nat.zero_le _⟩
end
section
variable {P : Program} {w : World} {A : Around} {E : Value → Shared → Prop} {s : Shared}
/-- a source of tuples is gone through, each is added -/
theorem all_added {I src : Addr} {fp wr : List Addr} {G : Array GenState → Array GenState → Prop} {Pv : Nat → Value → Prop} {St : Nat → Shared → Prop} {R : Result → Shared → Prop} {n : Nat} (ks : List (Addr × List Int))
    (W : WalksS P w A.in1 I fp wr G n Pv St) (hn : n = ks.length) (far : src ∉ fp) (few : ks.length ≤ 4000) (vals : ∀ i v, Pv i v → ∃ q, ks[i]? = some q ∧ v = .ref q.1)
    (g : Heap) (tups : ∀ q ∈ ks, IsT P w g q.2 q.1) (g0 : g.get? src = none) (gw : ∀ b ∈ wr, g.get? b = none) (deep : A.in1.units < cLine) :
    ∀ (left i : Nat) (s : Shared), ks.length - i = left → i ≤ ks.length → St i s → (∀ b o, g.get? b = some o → s.heap.get? b = some o) → (∃ L es ep t, SetG P w s.heap src L es ep t ∧ Got ks i L) →
      (∀ s' L es ep t, Moved (src :: wr) G s s' → SetG P w s'.heap src L es ep t → Got ks ks.length L → (∀ b o, g.get? b = some o → s'.heap.get? b = some o) → R (.ok (.ret .none)) s') →
      codeAny (model P w) A (.builtin "set.update.loop" ⟨[.ref src, .ref I], []⟩) R s := by
  subst hn
  have apart : src ∉ wr := fun h => far (W.sub _ h)
  have wider : ∀ b ∈ wr, b ∈ src :: wr := fun b hb => List.mem_cons_of_mem _ hb
  intro left
  induction left with
  | zero =>
    intro i s le ic st old ⟨L, es, ep, t, set, got⟩ out
    obtain rfl : i = ks.length := by omega
    refine codeAny_builtin F.entry_set_update_loop ?_
    rw [Around.under_plainId F.plain_set_update_loop _]
    show wpAny _ _ (pyNext (.ref I) >>= _) _ _ s
    refine wpAny_bind (W.done s _ _ st fun s' mv => ?_)
    have old' : ∀ b o, g.get? b = some o → s'.heap.get? b = some o := fun b o e => mv.heap b o (fun hb => by rw [gw b hb] at e; cases e) (old b o e)
    exact wpAny_pure (out s' L es ep t (mv.mono wider) (set.later (fun o e => mv.heap src o apart e) fun q hq => isT_keep (tups q (List.mem_of_mem_take (got.sub q hq))) old') got old')
  | succ left ih =>
    intro i s le ic st old ⟨L, es, ep, t, set, got⟩ out
    have lt : i < ks.length := by omega
    refine codeAny_builtin F.entry_set_update_loop ?_
    rw [Around.under_plainId F.plain_set_update_loop _]
    show wpAny _ _ (pyNext (.ref I) >>= _) _ _ s
    refine wpAny_bind (W.item i s _ _ lt st fun v s' pv st' mv => ?_)
    obtain ⟨q, hq, rfl⟩ := vals i v pv
    have old' : ∀ b o, g.get? b = some o → s'.heap.get? b = some o := fun b o e => mv.heap b o (fun hb => by rw [gw b hb] at e; cases e) (old b o e)
    have set' : SetG P w s'.heap src L es ep t := set.later (fun o e => mv.heap src o apart e) fun z hz => isT_keep (tups z (List.mem_of_mem_take (got.sub z hz))) old'
    have hx : IsT P w s'.heap q.2 q.1 := isT_keep (tups q (List.mem_of_getElem? hq)) old'
    show wpAny _ _ (holding [Value.ref q.1] (setAdd src (.ref q.1)) >>= _) _ _ s'
    refine wpAny_bind (wpAny_holding ?_)
    unfold setAdd
    refine wpAny_holding (wpAny_bind (wpAny_pyHash_tuple deep hx ?_))
    refine add_one (s := { s' with toks := s'.toks + (q.2.length + 1) }) set' hx deep (by have := got.len; omega) fun c h N fs en u but set2 c1 c2 => ?_
    have got2 : Got ks (i + 1) N := by
      by_cases m : q.2 ∈ L.map (·.2)
      · rw [c1 m]; exact got.same hq m
      · exact got.more hq (c2 m)
    have stays : ∀ b o, b ≠ src → s'.heap.get? b = some o → h.get? b = some o := fun b o ne e => (but.2 b ne).trans e
    refine wpAny_pure ⟨plainId_quiet F.plain_set_update_loop _, ih (i + 1) _ (by omega) lt (W.frame _ s' _ _ st' (Nat.le_add_right _ _) fun b hb o e => stays b o (fun z => far (by rw [← z]; exact hb)) e) (fun b o e => stays b o (fun z => by rw [z, g0] at e; cases e) (old' b o e)) ⟨N, fs, en, u, set2, got2⟩ fun s2 N2 fs2 en2 u2 mv2 set3 got3 old3 => ?_⟩
    exact out s2 N2 fs2 en2 u2 (Moved.trans W.gtrans ((mv.mono wider).then_heap (Nat.le_add_right _ _) fun b o hb e => stays b o (fun z => hb (by rw [z]; exact List.mem_cons_self)) e) mv2) set3 got3 old3

set_option maxHeartbeats 9000000 in
theorem great_of_tuple {l : Addr} {its : Array Value} (ks : List (Addr × List Int)) {Q : Value → Shared → Prop} (calm : A.handled = none) (ist : IsTup s.heap l its) (vals0 : its.toList = ks.map fun p => Value.ref p.1)
    (tups : ∀ p ∈ ks, IsT P w s.heap p.2 p.1) (few : ks.length ≤ 4000) (deep : A.units + 3 < cLine)
    (out : ∀ (g : Heap) (tk : Nat) L es ep t, SetG P w g s.heap.objs.size L es ep t → Got ks ks.length L → (∀ b o, s.heap.get? b = some o → g.get? b = some o) → Q (.ref s.heap.objs.size) { s with heap := g, toks := tk }) :
    wpAny (model P w) A (call (.type "set") [.ref l]) Q E s := by
  have size_is : its.size = ks.length := by
    have z := congrArg List.length vals0
    rwa [Array.length_toList, List.length_map] at z
  have cs := F.called_set
  obtain ⟨m1, m2, m3⟩ := cs.mro
  have made := cs.made
  have subs := cs.sub
  have nty := cs.notType
  have can := cs.canCreate
  have tcall := F.typeCall_set_1 (.ref l)
  refine wpAny_call (codeAny_of_tree ?_)
  show wpAny _ _ (callAny (Value.type "set") _) _ _ _
  refine wpAny_pure ⟨Code.quiet_builtin _ (by decide +kernel), codeAny_builtin F.entry_type_call ?_⟩
  rw [Around.under_plain (weight_type_call_type "set" [.ref l] []) rfl]
  repeat (any_goals (first | wp_step | assumption))
  refine codeAny_mono (code_set_led1 (.ref l) (E := E) (Q₁ := fun v s1 => v = .ref s.heap.objs.size ∧ s1 = { s with heap := s.heap.push (emptyS w) }) ⟨rfl, rfl⟩) fun res s1 got => ?_
  cases res with
  | error _ => exact got
  | ok flow =>
    cases flow with
    | ret v =>
      obtain ⟨rfl, rfl⟩ := got
      have at0 : (s.heap.push (emptyS w)).get? s.heap.objs.size = some (emptyS w) := Heap.get?_push_size _ rfl
      have ty0 : Shared.TypeIs { s with heap := s.heap.push (emptyS w) } (.ref s.heap.objs.size) "set" := ⟨_, at0, rfl⟩
      have ini1 := cs.init.lookup
      have ini2 := cs.init.bind (.ref s.heap.objs.size)
      repeat (any_goals (first | wp_step | assumption))
      refine codeAny_mono (codeAny_call_builtin (R := wants (fun r s2 => r = .none ∧ ∃ g tk L es ep t, s2 = { s with heap := g, toks := tk } ∧ SetG P w g s.heap.objs.size L es ep t ∧ Got ks ks.length L ∧ (∀ b o, s.heap.get? b = some o → g.get? b = some o)) E) cs.init.plain F.entry_set_init (check_set_init_1 ty0 ?_)) fun res2 s2 got2 => ?_
      · obtain ⟨ob, hob, hcl, n0, hdt⟩ := ist
        obtain ⟨k1, k2, k3, k4⟩ := ob
        simp only at hcl hdt
        subst hcl hdt
        have under : l < s.heap.objs.size := Heap.lt_size hob
        have hob2 : (s.heap.push (emptyS w)).get? l = some { cls := .type "tuple", dict := k2, data := .seq its n0, slots := k4 } := Heap.get?_push_of_some _ hob
        have t1 := F.sub_tuple_set
        have t2 := F.sub_tuple_frozenset
        have t3 : (Value.type "tuple" == Value.type "dict") = false := by decide
        have isl2 : IsTup (s.heap.push (emptyS w)) l its := ⟨_, hob2, rfl, n0, rfl⟩
        unfold Builtin.«set.__init__» noKeywords Builtin.Frozenset.updateFrom
        generalize hit : pyIter = iter
        wp_walk
        subst hit
        refine wpAny_pyIter_tuple isl2 (wpAny_bind (wpAny_runValue ?_))
        have calm3 : A.in1.in1.in1.handled = none := by simp [calm]
        have apart : l ≠ (s.heap.push (emptyS w)).objs.size := by
          rw [Heap.size_push]
          exact Nat.ne_of_lt (Nat.lt_succ_of_lt under)
        have notin : s.heap.objs.size ∉ [(s.heap.push (emptyS w)).objs.size, l] := by
          intro m
          rw [Heap.size_push] at m
          rcases List.mem_cons.mp m with m | m
          · exact absurd m (Nat.ne_of_lt (Nat.lt_succ_self _))
          · exact absurd (List.mem_singleton.mp m) (Nat.ne_of_gt under)
        have vals : ∀ (i : Nat) (v : Value), its[i]? = some v → ∃ p, ks[i]? = some p ∧ v = .ref p.1 := fun i v hv => by
          have z : its.toList[i]? = some v := by rw [Array.getElem?_toList]; exact hv
          rw [vals0, List.getElem?_map] at z
          cases q : ks[i]? with
          | none => rw [q] at z; cases z
          | some p => rw [q] at z; exact ⟨p, rfl, (Option.some.inj z).symm⟩
        have gone : ∀ b, s.heap.objs.size ≤ b → s.heap.get? b = none := fun b hb => by
          cases q : s.heap.get? b with
          | none => rfl
          | some o => exact absurd (Nat.lt_of_lt_of_le (Heap.lt_size q) hb) (Nat.lt_irrefl _)
        refine all_added ks (Walks.tuple calm3 _ l apart its).toS size_is notin few vals s.heap tups (gone _ (Nat.le_refl _)) (fun b hb => gone b ?_) deep (ks.length - 0) 0 _ (by omega) (Nat.zero_le _) ⟨⟨_, Heap.get?_push_size _ rfl, rfl, rfl⟩, isl2.push _⟩ (fun b o e => Heap.get?_push_of_some _ (Heap.get?_push_of_some _ e)) ?first ?last
        · rw [List.mem_singleton.mp hb, Heap.size_push]
          exact Nat.le_succ _
        case first => exact ⟨[], #[], 0, _, SetG.nil (Heap.get?_push_of_some _ at0), Got.zero ks⟩
        case last =>
          intro s3 L es ep t moved set3 got3 keep3
          obtain ⟨g3, e1, e2, tk3, e3⟩ := s3
          have q1 : e1 = s.gens := moved.gens
          have q2 : e2 = s.drawn := moved.drawn
          have q3 : e3 = s.os := moved.os
          subst q1 q2 q3
          exact wpAny_pure (wpAny_pure ⟨rfl, g3, tk3, L, es, ep, t, rfl, set3, got3, keep3⟩)
      · cases res2 with
        | error _ => exact got2
        | ok flow2 =>
          cases flow2 with
          | ret _ =>
            obtain ⟨rfl, g, tk, L, es, ep, t, rfl, y1, y2, y3⟩ := got2
            repeat (any_goals (first | wp_step | assumption))
            exact out _ _ _ _ _ _ y1 y2 y3
          | _ => exact got2.elim
    | _ => exact got.elim

set_option maxHeartbeats 9000000 in
theorem great_of_list {l : Addr} {its : Array Value} (ks : List (Addr × List Int)) {Q : Value → Shared → Prop} (calm : A.handled = none) (ist : Heap.IsList s.heap l its) (vals0 : its.toList = ks.map fun p => Value.ref p.1)
    (tups : ∀ p ∈ ks, IsT P w s.heap p.2 p.1) (few : ks.length ≤ 4000) (deep : A.units + 3 < cLine)
    (out : ∀ (g : Heap) (tk : Nat) L es ep t, SetG P w g s.heap.objs.size L es ep t → Got ks ks.length L → (∀ b o, s.heap.get? b = some o → g.get? b = some o) → Q (.ref s.heap.objs.size) { s with heap := g, toks := tk }) :
    wpAny (model P w) A (call (.type "set") [.ref l]) Q E s := by
  have size_is : its.size = ks.length := by
    have z := congrArg List.length vals0
    rwa [Array.length_toList, List.length_map] at z
  have cs := F.called_set
  obtain ⟨m1, m2, m3⟩ := cs.mro
  have made := cs.made
  have subs := cs.sub
  have nty := cs.notType
  have can := cs.canCreate
  have tcall := F.typeCall_set_1 (.ref l)
  refine wpAny_call (codeAny_of_tree ?_)
  show wpAny _ _ (callAny (Value.type "set") _) _ _ _
  refine wpAny_pure ⟨Code.quiet_builtin _ (by decide +kernel), codeAny_builtin F.entry_type_call ?_⟩
  rw [Around.under_plain (weight_type_call_type "set" [.ref l] []) rfl]
  repeat (any_goals (first | wp_step | assumption))
  refine codeAny_mono (code_set_led1 (.ref l) (E := E) (Q₁ := fun v s1 => v = .ref s.heap.objs.size ∧ s1 = { s with heap := s.heap.push (emptyS w) }) ⟨rfl, rfl⟩) fun res s1 got => ?_
  cases res with
  | error _ => exact got
  | ok flow =>
    cases flow with
    | ret v =>
      obtain ⟨rfl, rfl⟩ := got
      have at0 : (s.heap.push (emptyS w)).get? s.heap.objs.size = some (emptyS w) := Heap.get?_push_size _ rfl
      have ty0 : Shared.TypeIs { s with heap := s.heap.push (emptyS w) } (.ref s.heap.objs.size) "set" := ⟨_, at0, rfl⟩
      have ini1 := cs.init.lookup
      have ini2 := cs.init.bind (.ref s.heap.objs.size)
      repeat (any_goals (first | wp_step | assumption))
      refine codeAny_mono (codeAny_call_builtin (R := wants (fun r s2 => r = .none ∧ ∃ g tk L es ep t, s2 = { s with heap := g, toks := tk } ∧ SetG P w g s.heap.objs.size L es ep t ∧ Got ks ks.length L ∧ (∀ b o, s.heap.get? b = some o → g.get? b = some o)) E) cs.init.plain F.entry_set_init (check_set_init_1 ty0 ?_)) fun res2 s2 got2 => ?_
      · obtain ⟨ob, hob, hcl, n0, hdt⟩ := ist
        obtain ⟨k1, k2, k3, k4⟩ := ob
        simp only at hcl hdt
        subst hcl hdt
        have under : l < s.heap.objs.size := Heap.lt_size hob
        have hob2 : (s.heap.push (emptyS w)).get? l = some { cls := .type "list", dict := k2, data := .seq its n0, slots := k4 } := Heap.get?_push_of_some _ hob
        have t1 := F.sub_list_set
        have t2 := F.sub_list_frozenset
        have t3 : (Value.type "list" == Value.type "dict") = false := by decide
        have isl2 : Heap.IsList (s.heap.push (emptyS w)) l its := ⟨_, hob2, rfl, n0, rfl⟩
        unfold Builtin.«set.__init__» noKeywords Builtin.Frozenset.updateFrom
        generalize hit : pyIter = iter
        wp_walk
        subst hit
        refine wpAny_pyIter_list isl2 (wpAny_bind (wpAny_runValue ?_))
        have calm3 : A.in1.in1.in1.handled = none := by simp [calm]
        have apart : l ≠ (s.heap.push (emptyS w)).objs.size := by
          rw [Heap.size_push]
          exact Nat.ne_of_lt (Nat.lt_succ_of_lt under)
        have notin : s.heap.objs.size ∉ [(s.heap.push (emptyS w)).objs.size, l] := by
          intro m
          rw [Heap.size_push] at m
          rcases List.mem_cons.mp m with m | m
          · exact absurd m (Nat.ne_of_lt (Nat.lt_succ_self _))
          · exact absurd (List.mem_singleton.mp m) (Nat.ne_of_gt under)
        have vals : ∀ (i : Nat) (v : Value), its[i]? = some v → ∃ p, ks[i]? = some p ∧ v = .ref p.1 := fun i v hv => by
          have z : its.toList[i]? = some v := by rw [Array.getElem?_toList]; exact hv
          rw [vals0, List.getElem?_map] at z
          cases q : ks[i]? with
          | none => rw [q] at z; cases z
          | some p => rw [q] at z; exact ⟨p, rfl, (Option.some.inj z).symm⟩
        have gone : ∀ b, s.heap.objs.size ≤ b → s.heap.get? b = none := fun b hb => by
          cases q : s.heap.get? b with
          | none => rfl
          | some o => exact absurd (Nat.lt_of_lt_of_le (Heap.lt_size q) hb) (Nat.lt_irrefl _)
        refine all_added ks (Walks.list calm3 _ l apart its).toS size_is notin few vals s.heap tups (gone _ (Nat.le_refl _)) (fun b hb => gone b ?_) deep (ks.length - 0) 0 _ (by omega) (Nat.zero_le _) ⟨⟨_, Heap.get?_push_size _ rfl, rfl, rfl⟩, isl2.push _⟩ (fun b o e => Heap.get?_push_of_some _ (Heap.get?_push_of_some _ e)) ?first ?last
        · rw [List.mem_singleton.mp hb, Heap.size_push]
          exact Nat.le_succ _
        case first => exact ⟨[], #[], 0, _, SetG.nil (Heap.get?_push_of_some _ at0), Got.zero ks⟩
        case last =>
          intro s3 L es ep t moved set3 got3 keep3
          obtain ⟨g3, e1, e2, tk3, e3⟩ := s3
          have q1 : e1 = s.gens := moved.gens
          have q2 : e2 = s.drawn := moved.drawn
          have q3 : e3 = s.os := moved.os
          subst q1 q2 q3
          exact wpAny_pure (wpAny_pure ⟨rfl, g3, tk3, L, es, ep, t, rfl, set3, got3, keep3⟩)
      · cases res2 with
        | error _ => exact got2
        | ok flow2 =>
          cases flow2 with
          | ret _ =>
            obtain ⟨rfl, g, tk, L, es, ep, t, rfl, y1, y2, y3⟩ := got2
            repeat (any_goals (first | wp_step | assumption))
            exact out _ _ _ _ _ _ y1 y2 y3
          | _ => exact got2.elim
    | _ => exact got.elim
end
theorem perm_back {α β : Type} {f : α → β} : ∀ {l : List β} {L : List α}, l.Perm (L.map f) → ∃ N : List α, N.Perm L ∧ l = N.map f
  | [], L, h => by
    have e := h.nil_eq
    rw [eq_comm, List.map_eq_nil_iff] at e
    subst e
    exact ⟨[], .refl _, rfl⟩
  | b :: l, L, h => by
    obtain ⟨q, hq, rfl⟩ := List.mem_map.mp (h.mem_iff.mp List.mem_cons_self)
    obtain ⟨A, B, rfl⟩ := List.append_of_mem hq
    have h2 : (f q :: l).Perm (f q :: (A ++ B).map f) := by
      refine h.trans ?_
      rw [List.map_append, List.map_cons, List.map_append]
      exact List.perm_middle
    obtain ⟨N, n1, rfl⟩ := perm_back h2.cons_inv
    exact ⟨q :: N, (n1.cons q).trans List.perm_middle.symm, rfl⟩
section
variable {P : Program} {w : World} {A : Around} {E : Value → Shared → Prop} {s : Shared} {a : Addr} {L : List (Addr × List Int)} {es : Array (Int × Value)} {ep : Nat} {t : SetTable}
/-- the pair that is read at a value -/
def twoAt (h : Heap) (v : Value) : Int × Int := ((TS.intsOf h v).getD 0 0, (TS.intsOf h v).getD 1 0)
theorem isPair_of {h : Heap} {b : Addr} {x y : Int} (g : IsT P w h [x, y] b) : Srt.IsPair h (.ref b) x y ∧ twoAt h (.ref b) = (x, y) := by
  have ti := tupInts_of g
  obtain ⟨o, its, n, ho, hc, hd, hi⟩ := g
  refine ⟨?_, by unfold twoAt; rw [ti.ints]; rfl⟩
  have hi := ints_of_items hi
  obtain ⟨l⟩ := its
  cases hi with
  | cons _ t1 r1 =>
    cases r1 with
    | cons _ t2 r2 =>
      cases r2
      exact ⟨b, o, t1, t2, n, rfl, ho, hc, hd⟩
/-- sorted(a great set of pairs) -/
theorem sorted_great (R : SetG P w s.heap a L es ep t) (calm : A.handled = none) (two : ∀ q ∈ L, ∃ x y, q.2 = [x, y]) {Q : Value → Shared → Prop}
    (out : ∀ s' p (ys : Array Value) (c : Nat) (N : List (Addr × List Int)), (∀ b o, s.heap.get? b = some o → s'.heap.get? b = some o) → s'.gens = s.gens → s'.os = s.os → s.heap.objs.size ≤ p →
      s'.heap.get? p = some (seqObj "list" ys c) → ys.toList = N.map (fun q => Value.ref q.1) → N.Perm L → N.Pairwise (fun q r => SrtO.lexB (r.2.getD 0 0, r.2.getD 1 0) (q.2.getD 0 0, q.2.getD 1 0) = false) → Q (.ref p) s') :
    wpAny (model P w) A (call (.builtin "sorted") [.ref a]) Q E s := by
  obtain ⟨o, ho, ex, hd⟩ := R.obj
  have ln := R.len
  have mo := R.most
  refine Calls.call_function_entry kind_sorted plain_sorted entry_sorted (args_sorted1 _) ?_
  unfold Builtin.«sorted»
  refine wpAny_bind (m := checkCount "sorted" 1 1 _) (wpAny_pure ?_)
  refine wpAny_bind (collect_set (A := A.in1) calm ⟨o, ho, ex.1, hd⟩ R.ok (by unfold scanBound; omega) R.tab.up R.lead fun s1 vs keep1 grew g1 o1 perm => ?_)
  have cells : es.toList.map (·.2) = L.map fun q => Value.ref q.1 := by
    rw [R.row]
    unfold L2.rowsOf
    rw [List.map_map]
    rfl
  rw [cells] at perm
  obtain ⟨N0, np0, rfl⟩ := perm_back (f := fun q : Addr × List Int => Value.ref q.1) perm
  have nl : (N0.map fun q => Value.ref q.1).length ≤ sizeLine := by rw [List.length_map, np0.length_eq, sizeLine_eq]; omega
  refine wpAny_bind (wpAny_newList ?_ nl)
  obtain ⟨h2, eh2⟩ : ∃ h2, s1.heap.push (seqObj "list" (N0.map fun q => Value.ref q.1).toArray 0) = h2 := ⟨_, rfl⟩
  have atL : h2.get? s1.heap.objs.size = some (seqObj "list" (N0.map fun q => Value.ref q.1).toArray 0) := by rw [← eh2]; exact Heap.get?_push_size _ rfl
  have keep2 : ∀ b o, s.heap.get? b = some o → h2.get? b = some o := fun b o e => by rw [← eh2]; exact Heap.get?_push_of_some _ (keep1 b o e)
  have pairs : ∀ q ∈ L, Srt.IsPair h2 (.ref q.1) (q.2.getD 0 0) (q.2.getD 1 0) ∧ twoAt h2 (.ref q.1) = (q.2.getD 0 0, q.2.getD 1 0) := fun q hq => by
    obtain ⟨x, y, e⟩ := two q hq
    have it := isT_keep (R.are q hq) keep2
    rw [e] at it ⊢
    exact isPair_of it
  have pr : ∀ v ∈ N0.map (fun q => Value.ref q.1), Srt.IsPair h2 v (twoAt h2 v).1 (twoAt h2 v).2 := fun v hv => by
    obtain ⟨q, hq, rfl⟩ := List.mem_map.mp hv
    obtain ⟨p1, p2⟩ := pairs q (np0.mem_iff.mp hq)
    rw [p2]
    exact p1
  show wpAny _ _ _ _ _ { s1 with heap := s1.heap.push (seqObj "list" (N0.map fun q => Value.ref q.1).toArray 0) }
  rw [eh2]
  refine wpAny_bind (wpAny_holding (wpAny_call_entry slot_list_sort ⟨_, atL, rfl⟩ entry_list_sort
    (SrtO.list_sort_ord (s := { s1 with heap := h2 }) (SrtO.swo_lex (twoAt h2)) atL nl (fun two2 => SrtO.pairs_sortableO (s := { s1 with heap := h2 }) (by omega) pr fun o' e => ?_) fun ys srt stb => ⟨_, rfl, ?_⟩) (args_list_sort _)))
  · have e' : some o' = some (seqObj "list" (N0.map fun q => Value.ref q.1).toArray 0) := e.symm.trans atL
    cases e'
    intro c
    exact absurd (Value.type.inj c) (by decide)
  · obtain ⟨N, np, rfl⟩ := perm_back (f := fun q : Addr × List Int => Value.ref q.1) stb.perm
    have np2 := np.trans np0
    obtain ⟨c, hc⟩ := sortedHeap_at (vs := N0.map fun q => Value.ref q.1) (out := (N.map fun q => Value.ref q.1).toArray) atL
    refine wpAny_pure ⟨_, rfl, out _ s1.heap.objs.size _ c N (fun b u e => ?_) g1 o1 grew hc rfl np2 ?_⟩
    · have lt := Heap.lt_size (keep1 b u e)
      show (sortedHeap h2 s1.heap.objs.size _ _).get? b = some u
      rw [sortedHeap_old (Nat.ne_of_lt lt) (by rw [← eh2, size_push']; exact Nat.lt_succ_of_lt lt)]
      exact keep2 b u e
    · refine List.Pairwise.imp_of_mem (fun {q r} hq hr h => ?_) (List.pairwise_map.mp srt)
      have p1 := (pairs q (np2.mem_iff.mp hq)).2
      have p2 := (pairs r (np2.mem_iff.mp hr)).2
      rw [← p1, ← p2]
      exact h
end
/-- the set, its tuples apart -/
def SetG0 (P : Program) (w : World) (L : List (Addr × List Int)) (es : Array (Int × Value)) (t : SetTable) : Prop :=
  es.toList = L2.rowsOf P w L ∧ TabG t (L.map fun q => thash P w q.2) ∧ (L.map (·.2)).Nodup ∧ t.plain = true ∧ (w.params.followText "set-order" = true ∨ t.led = true) ∧ L.length * 5 < t.mask * 3 ∧ L.length ≤ 4000
def SetGO (P : Program) (w : World) (a : Addr) (L : List (Addr × List Int)) : HO := .ext fun h => ∃ es ep t, (∃ o, h.get? a = some o ∧ o.ExactSet ∧ o.data = .set es ep t) ∧ SetG0 P w L es t
section
variable {P : Program} {w : World} {H : Hp} {h : Heap} {a : Addr} {L : List (Addr × List Int)} {es : Array (Int × Value)} {ep : Nat} {t : SetTable}
theorem setGO_ok (R : SetG P w h a L es ep t) : ObjOk P w H h a (SetGO P w a L) := by
  have ⟨o, ho, _⟩ := R.obj
  refine ⟨⟨es, ep, t, R.obj, R.row, R.tab, R.dis, R.pln, R.lead, R.gap, R.most⟩, ⟨o, ho⟩, fun h1 h2 p k => ?_⟩
  obtain ⟨es', ep', t', ⟨o', ho', r'⟩, q'⟩ := p
  exact ⟨es', ep', t', ⟨o', k o' ho', r'⟩, q'⟩
theorem setGO_at (x : ObjOk P w H h a (SetGO P w a L)) (ti : ∀ q ∈ L, IsT P w h q.2 q.1) : ∃ es ep t, SetG P w h a L es ep t := by
  obtain ⟨⟨es, ep, t, ob, z⟩, _⟩ := x
  obtain ⟨z1, z2, z3, z4, z5, z6, z7⟩ := z
  exact ⟨es, ep, t, ob, z1, z2, z3, ti, z4, z5, z6, z7⟩
end
section
variable {X : Cx}
/-- set(xs), xs a list or a tuple of up to 4000 tuples of ints -/
def rGreat (sq : Hp → Addr → List V → Prop) (K : PySem.W.Frag) (P : Program) (w : World) : List V → Hp → VK → Prop := fun xs H Q => ∃ (l : Addr) (ks : List (Addr × List Int)), xs = [V.ref l] ∧ sq H l (ks.map fun q => V.ref q.1) ∧ (∀ q ∈ ks, SqT K H q.1 (q.2.map V.int)) ∧ ks.length ≤ 4000 ∧
  ∀ L, (∀ q ∈ L, q ∈ ks) → (∀ q ∈ ks, q.2 ∈ L.map (·.2)) → ∀ a, H a = none → Q (.ref a) (upd H a (SetGO P w a L))
def rGreatT (K : PySem.W.Frag) := rGreat (SqT K) K
def rGreatL (K : PySem.W.Frag) := rGreat (SqL K) K
theorem cr_greatT (calm : X.calm = true) (deep : X.A.units + 64 < cLine) : CallR X (.type "set") (rGreatT X.K X.prog X.w) := by
  intro pins s σ H xs us Q I r h
  obtain ⟨l, ks, rfl, hl, hk, few, q⟩ := h
  obtain ⟨its, rv, pl, _⟩ := I.tuple hl
  rw [Vals.ref1 r]
  refine great_of_tuple (P := X.prog) (w := X.w) ks (I.ok.hd calm) pl (by simpa using refs_of_vals rv) (fun q hq => I.isT (hk q hq)) few (by omega) fun g tk L es ep t R got kp => ?_
  exact ⟨.ref s.heap.objs.size, upd H s.heap.objs.size (SetGO X.prog X.w s.heap.objs.size L), I.laid (t' := tk) kp (Nat.le_refl _) (setGO_ok R), rfl, q L (fun q hq => List.mem_of_mem_take (got.sub q hq)) (fun q hq => got.all q (by rw [List.take_length]; exact hq)) _ (I.hok.fresh (Nat.le_refl _))⟩
theorem cr_greatL (calm : X.calm = true) (deep : X.A.units + 64 < cLine) : CallR X (.type "set") (rGreatL X.K X.prog X.w) := by
  intro pins s σ H xs us Q I r h
  obtain ⟨l, ks, rfl, hl, hk, few, q⟩ := h
  obtain ⟨its, rv, pl, _⟩ := I.list hl
  rw [Vals.ref1 r]
  refine great_of_list (P := X.prog) (w := X.w) ks (I.ok.hd calm) pl.isList (by simpa using refs_of_vals rv) (fun q hq => I.isT (hk q hq)) few (by omega) fun g tk L es ep t R got kp => ?_
  exact ⟨.ref s.heap.objs.size, upd H s.heap.objs.size (SetGO X.prog X.w s.heap.objs.size L), I.laid (t' := tk) kp (Nat.le_refl _) (setGO_ok R), rfl, q L (fun q hq => List.mem_of_mem_take (got.sub q hq)) (fun q hq => got.all q (by rw [List.take_length]; exact hq)) _ (I.hok.fresh (Nat.le_refl _))⟩
/-- sorted(it), of pairs -/
def rSortGreat (K : PySem.W.Frag) (P : Program) (w : World) : List V → Hp → VK → Prop := fun vs H Q => ∃ (a : Addr) (L : List (Addr × List Int)), vs = [V.ref a] ∧ H a = some (SetGO P w a L) ∧ (∀ q ∈ L, ∃ x y, q.2 = [x, y] ∧ SqT K H q.1 [.int x, .int y]) ∧
  ∀ N : List (Addr × List Int), N.Perm L → (N.map (·.2)).Nodup → N.Pairwise (fun q r => SrtO.lexB (r.2.getD 0 0, r.2.getD 1 0) (q.2.getD 0 0, q.2.getD 1 0) = false) → newK H (.lst (N.map fun q => V.ref q.1)) Q
theorem cr_sortGreat (calm : X.calm = true) : CallR X (.builtin "sorted") (rSortGreat X.K X.prog X.w) := by
  intro pins s σ H vs us Q I r h
  obtain ⟨a, L, rfl, ha, two, q⟩ := h
  obtain ⟨es, ep, t, R⟩ := setGO_at (I.hok a _ ha) fun p hp => by
    obtain ⟨x, y, e, g⟩ := two p hp
    rw [e]
    exact I.isT (k := [x, y]) g
  rw [Vals.ref1 r]
  refine sorted_great R (I.ok.hd calm) (fun p hp => by obtain ⟨x, y, e, _⟩ := two p hp; exact ⟨x, y, e⟩) fun s' p ys c N k g o hp hg out pm pw => ?_
  have few : N.length ≤ 4000 := by rw [pm.length_eq]; exact R.most
  have hn : H p = none := I.hok.fresh hp
  have J : Inv X pins σ (upd H p (.lst (N.map fun q => V.ref q.1))) { s with heap := s'.heap, gens := s'.gens, drawn := s'.drawn, toks := s'.toks } :=
    I.call (ch := []) (Un.laid k hp hn) (I.hok.laid k hp ⟨by rw [List.length_map, sizeLine_eq]; omega, ys.toList, c, by rw [out]; exact vals_of_refs N, hg⟩) (by rw [g]; exact I.bare) (fun _ z => nomatch z)
  have e : s' = { s with heap := s'.heap, gens := s'.gens, drawn := s'.drawn, toks := s'.toks } := by
    obtain ⟨_, _, _, _, _⟩ := s'
    cases o
    rfl
  rw [e]
  exact ⟨.ref p, _, J, rfl, q N pm ((pm.map (·.2)).nodup_iff.mpr R.dis) pw p hn⟩
end
/-! ### min, max of a tuple -/
section
variable {X : Cx}
/-- a tuple of ints, any number of them above none -/
def rLeastT (K : PySem.W.Frag) : List V → Hp → VK → Prop := fun vs H Q => ∃ (a : Addr) (ns : List Int), vs = [.ref a] ∧ SqT K H a (ns.map V.int) ∧ ns ≠ [] ∧ ∀ m, m ∈ ns → (∀ j ∈ ns, m ≤ j) → Q (.int m) H
def rMostT (K : PySem.W.Frag) : List V → Hp → VK → Prop := fun vs H Q => ∃ (a : Addr) (ns : List Int), vs = [.ref a] ∧ SqT K H a (ns.map V.int) ∧ ns ≠ [] ∧ ∀ m, m ∈ ns → (∀ j ∈ ns, j ≤ m) → Q (.int m) H
theorem ints_nth : ∀ {us : List Value} {ns : List Int}, IntsAre us ns → ∀ (i : Nat) (v : Value), us[i]? = some v → ∃ t, v = .int (ns.getD i 0) t
  | _, _, .nil, i, v, h => by simp at h
  | _, _, .cons n t r, 0, v, h => by cases h; exact ⟨t, rfl⟩
  | _, _, .cons n t r, i + 1, v, h => by
    obtain ⟨t', e⟩ := ints_nth r i v (by simpa using h)
    exact ⟨t', by simpa using e⟩
theorem cr_leastT (calm : X.calm = true) : CallR X (.builtin "min") (rLeastT X.K) := by
  intro pins s σ H vs us Q I r h
  obtain ⟨a, ns, rfl, ht, ne, q⟩ := h
  obtain ⟨its, rv, pl, _⟩ := I.tuple ht
  rw [Vals.ref1 r]
  have ia := rv.ints
  have lt : a < s.heap.objs.size := by obtain ⟨o, e, _⟩ := pl; exact Heap.lt_size e
  have ln : its.length = ns.length := by rw [← rv.length, List.length_map]
  have np : 0 < ns.length := List.length_pos_iff.mpr ne
  refine call_min_walk (wpAny_pyIter_tuple pl ?_)
  refine ⟨_, _, _, _, _, _, _, rfl, Walks.tuple (A := X.A.in1) (I.ok.hd calm) s.heap.objs.size a (Nat.ne_of_lt lt) its.toArray, ⟨⟨_, Heap.get?_push_size _ rfl, rfl, rfl⟩, pl.push _⟩, fun b hb => ?_, by rw [List.size_toArray]; omega,
    CmpOf.ints_lt (fun i => ns.getD i 0) fun i v hv => ints_nth ia i v (by simpa using hv), fun v h' tk hv hk => ?_⟩
  · rw [Heap.size_push]
    rcases List.mem_cons.mp hb with rfl | hb
    · exact Nat.lt_succ_self _
    · rw [List.mem_singleton.mp hb]; exact Nat.lt_succ_of_lt lt
  · have hv2 := hv
    rw [List.getElem?_toArray] at hv2
    obtain ⟨t, rfl⟩ := ints_nth ia _ v hv2
    have sz : its.toArray.size = its.length := List.size_toArray ..
    obtain ⟨b1, b2⟩ := argBest_lt (fun i => ns.getD i 0) (its.toArray.size - 1)
    have keep : ∀ b o, s.heap.get? b = some o → h'.get? b = some o := fun b o e => hk b o (fun z => by
      rw [List.mem_singleton.mp z] at e
      exact Nat.lt_irrefl _ (Heap.lt_size e)) (Heap.get?_push_of_some _ e)
    refine ⟨.int _, H, I.kept (t' := tk) keep, ⟨t, rfl⟩, q _ ?_ fun j hj => ?_⟩
    · exact PySem.getD_mem (by omega)
    · obtain ⟨i, hi, rfl⟩ := mem_getD hj
      exact b2 i (by omega)
theorem cr_mostT (calm : X.calm = true) : CallR X (.builtin "max") (rMostT X.K) := by
  intro pins s σ H vs us Q I r h
  obtain ⟨a, ns, rfl, ht, ne, q⟩ := h
  obtain ⟨its, rv, pl, _⟩ := I.tuple ht
  rw [Vals.ref1 r]
  have ia := rv.ints
  have lt : a < s.heap.objs.size := by obtain ⟨o, e, _⟩ := pl; exact Heap.lt_size e
  have ln : its.length = ns.length := by rw [← rv.length, List.length_map]
  have np : 0 < ns.length := List.length_pos_iff.mpr ne
  refine call_max_walk (wpAny_pyIter_tuple pl ?_)
  refine ⟨_, _, _, _, _, _, _, rfl, Walks.tuple (A := X.A.in1) (I.ok.hd calm) s.heap.objs.size a (Nat.ne_of_lt lt) its.toArray, ⟨⟨_, Heap.get?_push_size _ rfl, rfl, rfl⟩, pl.push _⟩, fun b hb => ?_, by rw [List.size_toArray]; omega,
    CmpOf.ints_gt (fun i => ns.getD i 0) fun i v hv => ints_nth ia i v (by simpa using hv), fun v h' tk hv hk => ?_⟩
  · rw [Heap.size_push]
    rcases List.mem_cons.mp hb with rfl | hb
    · exact Nat.lt_succ_self _
    · rw [List.mem_singleton.mp hb]; exact Nat.lt_succ_of_lt lt
  · have hv2 := hv
    rw [List.getElem?_toArray] at hv2
    obtain ⟨t, rfl⟩ := ints_nth ia _ v hv2
    have sz : its.toArray.size = its.length := List.size_toArray ..
    obtain ⟨b1, b2⟩ := argBest_gt (fun i => ns.getD i 0) (its.toArray.size - 1)
    have keep : ∀ b o, s.heap.get? b = some o → h'.get? b = some o := fun b o e => hk b o (fun z => by
      rw [List.mem_singleton.mp z] at e
      exact Nat.lt_irrefl _ (Heap.lt_size e)) (Heap.get?_push_of_some _ e)
    refine ⟨.int _, H, I.kept (t' := tk) keep, ⟨t, rfl⟩, q _ ?_ fun j hj => ?_⟩
    · exact PySem.getD_mem (by omega)
    · obtain ⟨i, hi, rfl⟩ := mem_getD hj
      exact b2 i (by omega)
end
theorem r_least2 {K : PySem.W.Frag} {H : Hp} {Q : VK} {a : Addr} {x y : Int} (h : SqT K H a [.int x, .int y]) (q : Q (.int (min x y)) H) : rLeastT K [.ref a] H Q :=
  ⟨a, [x, y], rfl, h, by simp, fun m hm hl => by
    have h1 := hl x (by simp)
    have h2 := hl y (by simp)
    have e : m = min x y := by
      rcases List.mem_cons.mp hm with rfl | hm
      · omega
      · rw [List.mem_singleton.mp hm] at h1 ⊢; omega
    rw [e]; exact q⟩
theorem r_most2 {K : PySem.W.Frag} {H : Hp} {Q : VK} {a : Addr} {x y : Int} (h : SqT K H a [.int x, .int y]) (q : Q (.int (max x y)) H) : rMostT K [.ref a] H Q :=
  ⟨a, [x, y], rfl, h, by simp, fun m hm hl => by
    have h1 := hl x (by simp)
    have h2 := hl y (by simp)
    have e : m = max x y := by
      rcases List.mem_cons.mp hm with rfl | hm
      · omega
      · rw [List.mem_singleton.mp hm] at h1 ⊢; omega
    rw [e]; exact q⟩
/-! ### a thing that is read from now on alone -/
def frzK (v : V) (H : Hp) (Q : VK) : Prop := ∃ d u, v = .ref d ∧ H d = some u ∧ Mut (some u) ∧ ∀ od, Q v (upd H d (.frz od u))
def tFrz (t : TE) : TE := fun σ H Q => t σ H fun v H1 => frzK v H1 Q
theorem pe_frz {X : Cx} {e : Expr} {t : TE} (h : PE X e t) : PE X e (tFrz t) := by
  refine ⟨fun pins s σ H Q I hw => ?_⟩
  refine thn (h.run pins s σ H _ I hw) fun v s1 ⟨x, H1, I1, r, d, u, ex, hd, mu, q⟩ => ?_
  obtain ⟨od, I2⟩ := I1.lock hd mu
  exact ⟨x, _, I2, r, q od⟩
section
variable {io : List Addr} {H0 F0 F H : Hp} {M L : List (Addr × Cel)} {K : PySem.W.Frag} {Q : VK} {QH : Hp → Prop} {a b : Addr} {o : HO}
theorem Sep.lock (S : Sep io H0 F0 F H M) (k : Nat) (hk : M[k]? = some (a, .is o)) (od : Obj) : ∃ F', Sep io H0 F0 F' (upd H a (.frz od o)) (M.eraseIdx k) ∧ Evl.Ex F F' ∧ F' a = some (.frz od o) := by
  have S := S.put k hk (.frz od o)
  obtain ⟨F', S', e, c⟩ := S.frz k (o := .frz od o) (List.getElem?_set_self (List.getElem?_eq_some_iff.mp hk).1)
  rw [List.eraseIdx_set_eq] at S'
  exact ⟨F', S', e, c⟩
theorem r_frz {t : TE} {σ : L2.St} (h : t σ H fun v H1 => frzK v H1 Q) : tFrz t σ H Q := h
theorem s_frz (S : Sep io H0 F0 F H M) (k : Nat) (hk : M[k]? = some (a, .is o)) (mu : Mut (some o)) (q : ∀ od F' H', Sep io H0 F0 F' H' (M.eraseIdx k) → Evl.Ex F F' → F' a = some (.frz od o) → Q (.ref a) H') : frzK (.ref a) H Q := by
  refine ⟨a, o, rfl, S.rdM k hk, mu, fun od => ?_⟩
  obtain ⟨F', S', e, c⟩ := S.lock k hk od
  exact q od F' _ S' e c
theorem r_break {D : Ends} {σ : L2.St} (h : D.bk σ H) : tBreak D σ H := h
/-! ### going over dicts -/
theorem s_forIt {g : TG} {tb : TS} {D : Ends} {σ : L2.St} {od : Obj} {kvs : List (Key × V)} (I : Nat → L2.St → Hp → List (Addr × Cel) → Prop) (S : Sep io H0 F0 F H M) (hd : F a = some (.frz od (.dK kvs))) (h0 : I 0 σ F M)
    (hb : ∀ i k v t σ' F1 F' H' M', kvs[i]? = some (k, v) → Sep io H0 F0 F' H' M' → Evl.Ex F F1 → Evl.Ex F1 F' → F' t = some (.tup [kV k, v]) → I i σ' F1 M' → Body io H0 F0 F I D g tb i (.ref t) σ' H')
    (hn : ∀ σ' F' H' M', Sep io H0 F0 F' H' M' → Evl.Ex F F' → I kvs.length σ' F' M' → D.nx σ' H') : ForW (Iti a od kvs) D g tb σ H := by
  refine for_it walk_items (LI io H0 F0 F I) ⟨F, M, S, Evl.Ex.refl _, h0⟩ ?_ ?_ ?_
  · rintro i σ' H' _ ⟨F', M', S', e, _⟩
    exact S'.rdC e hd
  · rintro i x σ' H' H'' hi ⟨F', M', S', e, h⟩ ⟨t, x1, x2, rfl, ht, rfl, e1, e2⟩
    obtain ⟨⟨k, v⟩, ek⟩ : ∃ p, kvs[i]? = some p := ⟨_, List.getElem?_eq_getElem hi⟩
    simp only [ek, Option.map_some, Option.some.injEq] at e1 e2
    subst e1 e2
    exact hb i k v t σ' F' _ _ M' ek (S'.newF ht _) e (Evl.Ex.new (S'.fnone ht)) upd_same h
  · rintro σ' H' ⟨F', M', S', e, h⟩
    exact hn σ' F' H' M' S' e h
def ikeysK (x : V) (H : Hp) (R : It → Hp → Prop) : Prop := ∃ d o, x = .ref d ∧ ((∃ kvs, H d = some (.frz o (.dK kvs)) ∧ R (Itk d o kvs) H) ∨ ∃ kvs, H d = some (.frz o (.dT kvs)) ∧ R (Itkt d o kvs) H)
theorem r_iKeys {td : TE} {σ : L2.St} {R : It → Hp → Prop} (h : td σ H fun x H1 => ikeysK x H1 R) : iKeys td σ H R := h
theorem s_ikeys {od : Obj} {kvs : List (Key × V)} {R : It → Hp → Prop} (hd : H b = some (.frz od (.dK kvs))) (q : R (Itk b od kvs) H) : ikeysK (.ref b) H R := ⟨b, od, rfl, .inl ⟨kvs, hd, q⟩⟩
theorem s_ikeysT {od : Obj} {kvs : List (List Key × V)} {R : It → Hp → Prop} (hd : H b = some (.frz od (.dT kvs))) (q : R (Itkt b od kvs) H) : ikeysK (.ref b) H R := ⟨b, od, rfl, .inr ⟨kvs, hd, q⟩⟩
def iitemsK (x : V) (H : Hp) (R : It → Hp → Prop) : Prop := ∃ d o kvs, x = .ref d ∧ H d = some (.frz o (.dK kvs)) ∧ R (Iti d o kvs) H
theorem r_iItems {td : TE} {σ : L2.St} {R : It → Hp → Prop} (h : td σ H fun x H1 => iitemsK x H1 R) : iItems td σ H R := h
theorem s_iitems {od : Obj} {kvs : List (Key × V)} {R : It → Hp → Prop} (hd : H b = some (.frz od (.dK kvs))) (q : R (Iti b od kvs) H) : iitemsK (.ref b) H R := ⟨b, od, kvs, rfl, hd, q⟩
theorem srcK {od : Obj} {kvs : List (Key × V)} (hd : F b = some (.frz od (.dK kvs))) : Src (Itk b od kvs) io H0 F0 F [] kvs (fun p x _ => x = kV p.1) :=
  ⟨_, _, walk_keys, fun F' H' M' S e _ => S.rdC e hd, fun i p x F' H' H'' M' hp S e _ y => by
    obtain ⟨rfl, k, v, e1, e2⟩ := y
    rw [hp] at e1
    cases e1
    exact ⟨F', S, Evl.Ex.refl _, e2⟩⟩
/-- a comprehension over keys that are tuples: told of the heap itself -/
theorem s_lcKT {od : Obj} {kvs : List (List Key × V)} {g : TG} {tt : TT} {te : TE} {vs : List Nat} {σ : L2.St} (I : Nat → List V → Hp → List (Addr × Cel) → Prop) (hd : F b = some (.frz od (.dT kvs))) (S : Sep io H0 F0 F H M) (h0 : I 0 [] F M)
    (hb : ∀ (i : Nat) (k : List Key) (v : V) q acc D F' H' M', kvs[i]? = some (k, v) → H' q = some (.tup (k.map kV)) → Sep io H0 F0 F' H' ((D, .is (.lst acc)) :: M') → Evl.Ex F F' → I i acc F' M' → g (.ref q) (wipe σ vs) H' fun σ2 H2 => wipe σ2 vs = wipe σ vs ∧ tt σ2 H2 fun b H3 =>
      if b = true then te σ2 H3 (PutK D (CI io H0 F0 F D I (i + 1))) else CI io H0 F0 F D I (i + 1) H3)
    (hn : ∀ D acc F' H' M', Sep io H0 F0 F' H' ((D, .is (.lst acc)) :: M') → Evl.Ex F F' → I kvs.length acc F' M' → Q (.ref D) H') : lcK (Itkt b od kvs) g tt te vs σ H Q := by
  intro D hD
  refine lc_it walk_keysT (fun i H' => CI io H0 F0 F D I i H') ⟨[], F, M, S.newM hD _, Evl.Ex.refl _, h0⟩ ?_ ?_ ?_
  · rintro i H' _ ⟨acc, F', M', S', e, h⟩
    exact S'.rdC e hd
  · rintro i x H' H'' hi ⟨acc, F', M', S', e, h⟩ ⟨rfl, k, v, q, e1, rfl, e3⟩
    exact hb i k v q acc D F' _ M' e1 e3 S' e h
  · rintro H' ⟨acc, F', M', S', e, h⟩
    exact hn D acc F' H' M' S' e h
/-! ### dicts written -/
def dputK (x y v : V) (H : Hp) (QH : Hp → Prop) : Prop := ∃ a H4, x = .ref a ∧ DPut H a y v H4 ∧ QH H4
theorem r_dput {td ty tv : TE} {D : Ends} {σ : L2.St} (h : tv σ H fun v H1 => td σ H1 fun x H2 => ty σ H2 fun y H3 => dputK x y v H3 (D.nx σ)) : sDPut td ty tv D σ H := h
theorem s_dputT {kvs : List (List Key × V)} {x y : Int} {t : Addr} {v : V} (S : Sep io H0 F0 F H M) (k : Nat) (hk : M[k]? = some (a, .is (.dT kvs))) (ht : F t = some (.tup [.int x, .int y])) (few : kvs.length < 100000)
    (q : ∀ H', Sep io H0 F0 F H' (M.set k (a, .is (.dT (putK kvs [.inl x, .inl y] v)))) → QH H') : dputK (.ref a) (.ref t) v H QH :=
  ⟨a, _, rfl, DPut.t (k := [.inl x, .inl y]) (S.rdM k hk) (S.fr _ _ ht) (Evl.sz_lt few), q _ (S.put k hk _)⟩
theorem s_dputK {kvs : List (Key × V)} {x : Int} {v : V} (S : Sep io H0 F0 F H M) (k : Nat) (hk : M[k]? = some (a, .is (.dK kvs))) (few : kvs.length < 100000)
    (q : ∀ H', Sep io H0 F0 F H' (M.set k (a, .is (.dK (putK kvs (.inl x) v)))) → QH H') : dputK (.ref a) (.int x) v H QH :=
  ⟨a, _, rfl, DPut.k (k := .inl x) (S.rdM k hk) (Evl.sz_lt few), q _ (S.put k hk _)⟩
/-! dicts read -/
def dgetK (x y : V) (H : Hp) (Q : VK) : Prop := ∃ a v, x = .ref a ∧ DGet H a y (some v) ∧ Q v H
theorem r_dget {td ty : TE} {σ : L2.St} (h : td σ H fun x H1 => ty σ H1 fun y H2 => dgetK x y H2 Q) : tDGet td ty σ H Q := h
theorem s_dget {kvs : List (Key × V)} {x : Int} {v : V} (h : Rd H a (.dK kvs)) (e : valV kvs (.inl x) = some v) (q : Q v H) : dgetK (.ref a) (.int x) H Q :=
  ⟨a, v, rfl, .inl ⟨kvs, .inl x, h, rfl, e.symm⟩, q⟩
def dinK (n : Bool) (x y : V) (H : Hp) (Q : VK) : Prop := ∃ a o, x = .ref a ∧ DGet H a y o ∧ Q (.bl (if n then !o.isSome else o.isSome)) H
theorem r_din {td ty : TE} {σ : L2.St} (h : ty σ H fun y H1 => td σ H1 fun x H2 => dinK false x y H2 Q) : tDIn ty td σ H Q := h
theorem r_dnotin {td ty : TE} {σ : L2.St} (h : ty σ H fun y H1 => td σ H1 fun x H2 => dinK true x y H2 Q) : tDNotIn ty td σ H Q := h
theorem s_din {kvs : List (Key × V)} {x : Int} (h : Rd H a (.dK kvs)) (q : Q (.bl (valV kvs (.inl x)).isSome) H) : dinK false (.ref a) (.int x) H Q :=
  ⟨a, _, rfl, .inl ⟨kvs, .inl x, h, rfl, rfl⟩, q⟩
theorem s_dnotin {kvs : List (Key × V)} {x : Int} (h : Rd H a (.dK kvs)) (q : Q (.bl (!(valV kvs (.inl x)).isSome)) H) : dinK true (.ref a) (.int x) H Q :=
  ⟨a, _, rfl, .inl ⟨kvs, .inl x, h, rfl, rfl⟩, q⟩
theorem s_dnewT (S : Sep io H0 F0 F H M) (q : ∀ d H', Sep io H0 F0 F H' ((d, .is (.dT [])) :: M) → Q (.ref d) H') {σ : L2.St} : tDNewT σ H Q := fun p hp => q p _ (S.newM hp _)
theorem s_dnewK (S : Sep io H0 F0 F H M) (q : ∀ d H', Sep io H0 F0 F H' ((d, .is (.dK [])) :: M) → Q (.ref d) H') {σ : L2.St} : tDNewK σ H Q := fun p hp => q p _ (S.newM hp _)
/-! ### dicts by comprehensions -/
theorem swaps_dc {kx vx : Expr} {gs : List Comprehension} {scope : Scope} {pos py : Pos} {y : Str} {l : Nat} {env : Env} (fn : env.scope.kind = .function) (loc : env.scope.names.lookup y = some .local) (line : (py.line == pos.line) = true)
    (none_ : (scope.names.any fun (n, k) => n == y && (k == .local || k == .cell)) = false) : swapsWith (.DictComp kx vx gs scope pos) (some (.Name y py)) l env = pure true := by
  have e1 : env.kindOf y = some .local := loc
  have e2 : env.blockKind = .function := by unfold Env.blockKind; rw [fn]; rfl
  unfold swapsWith
  simp only [e1, e2, none_, Expr.pos, line]
  rfl
section
variable {X : Cx}
/-- y = {k: v for ..}, y a local -/
theorem ps_asgDc {i : Nat} {y : Str} {py pos spos : Pos} {kx vx tg iter : Expr} {scope : Scope} {own : List (Str × Nat)} {wi : TI} {g : TG} {tt : TT} {tk tv : TE} (calm : X.calm = true) (nd : X.N.Nodup) (at_ : X.N[i]? = some y) (loc : X.env.scope.names.lookup y = some .local)
    (sw : swapsWith (.DictComp kx vx [⟨tg, iter, [], 0⟩] scope pos) (some (.Name y py)) spos.line X.env = pure true) (pi : PI X tg iter wi) (blk : BlkOk X.N X.env.scope scope own)
    (pg : ∀ (s : Shared) (H : Hp) (C : Addr) (cl : List (Str × Addr)) (fp : List Addr), PG (X.blk s H scope (compEnvC scope cl C X.env) fp) tg g)
    (pt : ∀ (s : Shared) (H : Hp) (C : Addr) (cl : List (Str × Addr)) (fp : List Addr), PTs (X.blk s H scope (compEnvC scope cl C X.env) fp) [] tt)
    (pk : ∀ (s : Shared) (H : Hp) (C : Addr) (cl : List (Str × Addr)) (fp : List Addr), PE (X.blk s H scope (compEnvC scope cl C X.env) fp) kx tk)
    (pv' : ∀ (s : Shared) (H : Hp) (C : Addr) (cl : List (Str × Addr)) (fp : List Addr), PE (X.blk s H scope (compEnvC scope cl C X.env) fp) vx tv) (fold : ∀ x, foldedSetIterable iter X.env x = pure x := by intro _; rfl) :
    PS X (.Assign [.Name y py] (.DictComp kx vx [⟨tg, iter, [], 0⟩] scope pos) spos) (tAsg (tDc wi g tt tk tv (own.map (·.2))) (gName i)) := by
  constructor
  intro pins s σ H D I h
  have h : tDc wi g tt tk tv (own.map (·.2)) σ H (fun x H1 => gName i x σ H1 D.nx) := h
  rw [exec_Assign_Name_used _ _ _ _ sw]
  refine wpAny_bind (wpAny_standAt (wpAny_bind ?_))
  show wpAny _ X.A (do
    let _ ← comprehension (.DictComp kx vx [⟨tg, iter, [], 0⟩] scope pos) scope X.env (firstIterPos [⟨tg, iter, [], 0⟩] pos) newDict false (eval iter X.env) (some (assign (.Name y py) X.env))) _ _ s
  refine wpAny_bind (thn (dc_core (Qf := fun _ s' => SP X pins D .next s') calm nd I pi blk pg pt pk pv' fold h fun D' C s' m H' J q hn fpo => ?_) fun _ s' z => wpAny_pure (wpAny_pure z))
  obtain ⟨g0, g1, g2, g3, g4, g5⟩ := fpo
  show wpAny _ _ (assign (.Name y py) X.env (.ref D')) _ _ _
  refine wpAny_assign_Name (store_ok2 (v := V.ref D') J nd at_ (.inl loc) rfl (fun s2 J2 ⟨a, but, wh⟩ => ⟨m, hn.sameBut but fun e => ?_, fun h3 but3 => ⟨_, H', J2.turned (t' := s2.toks) (fun b o hb e => (but3.2 b hb).trans e) g0 g1 g3 g4 g5, q⟩⟩) (.inr loc))
  rcases wh with z | z
  · exact g1 (e.trans z)
  · exact g4 y a z e.symm
end
def dcK (J : It) (g : TG) (tt : TT) (tk tv : TE) (vs : List Nat) (σ : L2.St) (H1 : Hp) (Q : VK) : Prop := ∀ D, H1 D = none → ∃ W : Nat → Nat → Hp → Prop, (∃ m, W 0 m (upd H1 D (.dK []))) ∧ ∀ i m H, W i m H →
  (J.stop i H ∧ Q (.ref D) H) ∨ (J.go i H ∧ ∃ Nx : Hp → Prop, (∀ H', Nx H' → ∃ m', m' < m ∧ W (i + 1) m' H') ∧ ∀ x H', J.yld i H x H' → g x (wipe σ vs) H' fun σ2 H2 => wipe σ2 vs = wipe σ vs ∧ tt σ2 H2 fun b H3 =>
    if b = true then tk σ2 H3 fun y H4 => tv σ2 H4 fun z H5 => ∃ kvs k, y = kV k ∧ H5 D = some (.dK kvs) ∧ kvs.length < sizeLine ∧ Nx (upd H5 D (.dK (putK kvs k z))) else Nx H3)
theorem s_dc {wi : TI} {g : TG} {tt : TT} {tk tv : TE} {vs : List Nat} {σ : L2.St} (h : wi σ H fun J H1 => dcK J g tt tk tv vs σ H1 Q) : tDc wi g tt tk tv vs σ H Q := h
def CD (io : List Addr) (H0 F0 F : Hp) (D : Addr) (I : Nat → List (Key × V) → Hp → List (Addr × Cel) → Prop) (i : Nat) (H : Hp) : Prop := ∃ kvs F' M', Sep io H0 F0 F' H ((D, .is (.dK kvs)) :: M') ∧ Evl.Ex F F' ∧ I i kvs F' M'
def PutD (D : Addr) (P : Hp → Prop) (y z : V) (H5 : Hp) : Prop := ∃ kvs k, y = kV k ∧ H5 D = some (.dK kvs) ∧ kvs.length < sizeLine ∧ P (upd H5 D (.dK (putK kvs k z)))
theorem CD.put {I : Nat → List (Key × V) → Hp → List (Addr × Cel) → Prop} {i : Nat} {D : Addr} {kvs : List (Key × V)} {F' H' : Hp} {M1 : List (Addr × Cel)} {x : Int} {z : V} (S : Sep io H0 F0 F' H' M1) (j : Nat) (hj : M1[j]? = some (D, .is (.dK kvs))) (e : Evl.Ex F F') (hl : kvs.length < 100000)
    (hp : ∀ H'', Sep io H0 F0 F' H'' (M1.set j (D, .is (.dK (putK kvs (.inl x) z)))) → CD io H0 F0 F D I (i + 1) H'') : PutD D (CD io H0 F0 F D I (i + 1)) (.int x) z H' :=
  ⟨kvs, .inl x, rfl, S.rdM j hj, Evl.sz_lt hl, hp _ (S.put j hj _)⟩
theorem s_dcI {α : Type} {J : It} {g : TG} {tt : TT} {tk tv : TE} {vs : List Nat} {σ : L2.St} {as : List α} {X : α → V → Hp → Prop} (src : Src J io H0 F0 F L as X) (I : Nat → List (Key × V) → Hp → List (Addr × Cel) → Prop) (S : Sep io H0 F0 F H M) (h0 : I 0 [] F M) (hL : ∀ i kvs F' M', I i kvs F' M' → ∀ m ∈ L, m ∈ M')
    (hb : ∀ (i : Nat) (a : α) x kvs D F1 F' H' M', as[i]? = some a → Sep io H0 F0 F' H' ((D, .is (.dK kvs)) :: M') → Evl.Ex F F1 → Evl.Ex F1 F' → X a x F' → I i kvs F1 M' → g x (wipe σ vs) H' fun σ2 H2 => wipe σ2 vs = wipe σ vs ∧ tt σ2 H2 fun b H3 =>
      if b = true then tk σ2 H3 fun y H4 => tv σ2 H4 (PutD D (CD io H0 F0 F D I (i + 1)) y) else CD io H0 F0 F D I (i + 1) H3)
    (hd : ∀ D kvs F' H' M', Sep io H0 F0 F' H' ((D, .is (.dK kvs)) :: M') → Evl.Ex F F' → I as.length kvs F' M' → Q (.ref D) H') : dcK J g tt tk tv vs σ H Q := by
  intro D hD
  obtain ⟨G, Y, w, s1, s2⟩ := src
  have gs : ∀ i H', CD io H0 F0 F D I i H' → G H' := by
    rintro i H' ⟨kvs, F', M', S', e, h⟩
    exact s1 F' H' _ S' e fun m hm => List.mem_cons_of_mem _ (hL i kvs F' M' h m hm)
  refine ⟨fun i m H' => m + i = as.length ∧ CD io H0 F0 F D I i H', ⟨as.length, rfl, [], F, M, S.newM hD _, Evl.Ex.refl _, h0⟩, ?_⟩
  rintro i m H' ⟨hm, c⟩
  have g0 := gs i H' c
  cases m with
  | zero =>
    have e : i = as.length := by omega
    subst e
    obtain ⟨kvs, F', M', S', e, h⟩ := c
    exact .inl ⟨w.stops H' g0, hd D kvs F' H' M' S' e h⟩
  | succ m =>
    have hi : i < as.length := by omega
    refine .inr ⟨w.goes i H' hi g0, fun H'' => CD io H0 F0 F D I (i + 1) H'', fun H'' q => ⟨m, Nat.lt_succ_self _, by omega, q⟩, fun x H'' y => ?_⟩
    obtain ⟨kvs, F', M', S', e, h⟩ := c
    obtain ⟨F'', S'', e2, hx⟩ := s2 i as[i] x F' H' H'' _ (List.getElem?_eq_getElem hi) S' e (fun m hm => List.mem_cons_of_mem _ (hL i kvs F' M' h m hm)) (w.yields i H' x H'' hi g0 y)
    exact hb i as[i] x kvs D F' F'' H'' M' (List.getElem?_eq_getElem hi) S'' e e2 hx h
/-- a list with a drawn place for the next -/
def rInsert : V → List V → Hp → VK → Prop := fun x vs H Q => ∃ (l : Addr) (xs : List V) (i : Int) (y : V), x = .ref l ∧ vs = [.int i, y] ∧ H l = some (.lst xs) ∧ xs.length < sizeLine ∧ 0 ≤ i ∧ i < 2 ^ 63 ∧ Q .non (upd H l (.lst (xs.take i.toNat ++ [y] ++ xs.drop i.toNat)))
theorem mt_ins {X : Cx} : MtR X "list.insert" rInsert := mt_insert
theorem s_insert {xs : List V} {y : V} {i : Int} (S : Sep io H0 F0 F H M) (k : Nat) (hk : M[k]? = some (a, .is (.lst xs))) (few : xs.length < 100000) (h0 : 0 ≤ i) (h1 : i < 2 ^ 63) (q : ∀ H', Sep io H0 F0 F H' (M.set k (a, .is (.lst (xs.take i.toNat ++ [y] ++ xs.drop i.toNat)))) → Q .non H') : rInsert (.ref a) [.int i, y] H Q :=
  ⟨a, xs, i, y, rfl, rfl, S.rdM k hk, Evl.sz_lt few, h0, h1, q _ (S.put k hk _)⟩
end
/-- the keys of a dict, each once, as they are put -/
theorem putK_keys {κ : Type} [DecidableEq κ] (kvs : List (κ × V)) (k : κ) (v : V) : ∀ p ∈ putK kvs k v, p.1 = k ∨ ∃ q ∈ kvs, q.1 = p.1 := by
  intro p hp
  unfold putK at hp
  split at hp
  · obtain ⟨q, hq, rfl⟩ := List.mem_map.mp hp
    refine .inr ⟨q, hq, ?_⟩
    split <;> rfl
  · rcases List.mem_append.mp hp with hp | hp
    · exact .inr ⟨p, hp, rfl⟩
    · rw [List.mem_singleton.mp hp]; exact .inl rfl
theorem u1 {k : Nat} {A : Around} (r : Room k A) : A.units + 1 < cLine := by have := r.units; omega
section
variable {io : List Addr} {H0 F0 F H : Hp} {M : List (Addr × Cel)} {K : PySem.W.Frag} {P : Program} {w : World} {Q : VK} {a : Addr}
theorem ties_keys {xs : List V} {ps : List (Int × Int)} (ht : DpAll K F xs (ps.map tieD)) : ∃ ks : List (Addr × List Int), xs = ks.map (fun p => V.ref p.1) ∧ ks.map (·.2) = ps.map (fun t => [t.1, t.2]) ∧ ∀ p ∈ ks, ∃ t : Int × Int, t ∈ ps ∧ p.2 = [t.1, t.2] ∧ SqT K F p.1 [.int t.1, .int t.2] := by
  induction ps generalizing xs with
  | nil => cases ht; exact ⟨[], rfl, rfl, fun p hp => by cases hp⟩
  | cons t r ih =>
    cases ht with
    | cons hx hr =>
      obtain ⟨b, rfl, hb⟩ := tieD_at hx
      obtain ⟨ks, i1, i2, i3⟩ := ih hr
      refine ⟨(b, [t.1, t.2]) :: ks, by rw [i1]; rfl, by rw [List.map_cons, List.map_cons, i2], fun p hp => ?_⟩
      rcases List.mem_cons.mp hp with rfl | hp
      · exact ⟨t, List.mem_cons_self, rfl, hb⟩
      · obtain ⟨u, g1, g2, g3⟩ := i3 p hp
        exact ⟨u, List.mem_cons_of_mem _ g1, g2, g3⟩
/-- set(xs), xs a list of pairs -/
theorem s_great {sq : Hp → Addr → List V → Prop} {xs : List V} {ps : List (Int × Int)} (S : Sep io H0 F0 F H M) (h : sq H a xs) (ht : DpAll K F xs (ps.map tieD)) (few : ps.length ≤ 4000)
    (k : ∀ (q : Addr) (L : List (Addr × List Int)) (F' H' : Hp), Sep io H0 F0 F' H' M → Evl.Ex F F' → F' q = some (SetGO P w q L) → (∀ p ∈ L, ∃ t : Int × Int, t ∈ ps ∧ p.2 = [t.1, t.2] ∧ SqT K F' p.1 [.int t.1, .int t.2]) → (∀ t ∈ ps, [t.1, t.2] ∈ L.map (·.2)) → Q (.ref q) H') : rGreat sq K P w [.ref a] H Q := by
  obtain ⟨ks, e1, e2, e3⟩ := ties_keys ht
  subst e1
  have kl : ks.length = ps.length := by rw [← List.length_map (f := fun p : Addr × List Int => p.2), e2, List.length_map]
  refine ⟨a, ks, rfl, h, fun p hp => ?_, by omega, fun L h1 h2 q hq => ?_⟩
  · obtain ⟨t, _, g2, g3⟩ := e3 p hp
    rw [g2]
    exact Evl.ex_t S.fr g3
  · refine k q L _ _ (S.newF hq _) (Evl.Ex.new (S.fnone hq)) upd_same (fun p hp => ?_) fun t ht => ?_
    · obtain ⟨t, g1, g2, g3⟩ := e3 p (h1 p hp)
      exact ⟨t, g1, g2, Evl.ex_t (Evl.Ex.new (S.fnone hq)) g3⟩
    · have m : [t.1, t.2] ∈ ks.map (·.2) := by rw [e2]; exact List.mem_map.mpr ⟨t, ht, rfl⟩
      obtain ⟨p, hp, e⟩ := List.mem_map.mp m
      rw [← e]
      exact h2 p hp
theorem lex_lt {x y x' y' : Int} (h : SrtO.lexB (x', y') (x, y) = false) (ne : ([x, y] : List Int) ≠ [x', y']) : Lx (x, y) (x', y') := by
  have z := SrtO.lexB_no.mp h
  simp only at z
  by_cases e : x = x'
  · subst e
    refine .inr ⟨rfl, ?_⟩
    have ne2 : y ≠ y' := fun q => ne (by rw [q])
    show y < y'
    omega
  · exact .inl (by show x < x'; omega)
/-- sorted(that set): the pairs, each once, rising -/
theorem s_sortGreat {ps : List (Int × Int)} {L : List (Addr × List Int)} (S : Sep io H0 F0 F H M) (h : F a = some (SetGO P w a L)) (h1 : ∀ p ∈ L, ∃ t : Int × Int, t ∈ ps ∧ p.2 = [t.1, t.2] ∧ SqT K F p.1 [.int t.1, .int t.2]) (h2 : ∀ t ∈ ps, [t.1, t.2] ∈ L.map (·.2))
    (k : ∀ (q : Addr) (ys : List V) (ts : List (Int × Int)) (H' : Hp), Sep io H0 F0 F H' ((q, .is (.lst ys)) :: M) → DpAll K F ys (ts.map tieD) → ts.Pairwise Lx → (∀ t, t ∈ ts ↔ t ∈ ps) → Q (.ref q) H') : rSortGreat K P w [.ref a] H Q := by
  refine ⟨a, L, rfl, S.fr _ _ h, fun p hp => ?_, fun N pm nd pw q hq => ?_⟩
  · obtain ⟨t, _, g2, g3⟩ := h1 p hp
    exact ⟨t.1, t.2, g2, Evl.ex_t S.fr g3⟩
  · have S' := S.newM hq (.lst (N.map fun q => V.ref q.1))
    let f : Addr × List Int → Int × Int := fun p => (p.2.getD 0 0, p.2.getD 1 0)
    have hf : ∀ p ∈ N, ∃ t : Int × Int, t ∈ ps ∧ p.2 = [t.1, t.2] ∧ SqT K F p.1 [.int t.1, .int t.2] ∧ f p = t := fun p hp' => by
      obtain ⟨t, g1, g2, g3⟩ := h1 p (pm.mem_iff.mp hp')
      refine ⟨t, g1, g2, g3, ?_⟩
      show (p.2.getD 0 0, p.2.getD 1 0) = t
      rw [g2]
      rfl
    refine k q _ (N.map f) _ S' ?_ ?_ fun t => ?_
    · clear pm nd pw S' hq
      induction N with
      | nil => exact .nil
      | cons p r ih =>
        obtain ⟨t, _, _, g3, g4⟩ := hf p List.mem_cons_self
        refine .cons ?_ (ih fun p hp => hf p (List.mem_cons_of_mem _ hp))
        rw [g4]
        exact .tup g3 (.cons (.int _) (.cons (.int _) .nil))
    · refine List.pairwise_map.mpr (List.Pairwise.imp_of_mem ?_ (List.Pairwise.and pw (List.pairwise_map.mp nd)))
      intro p r hp' hr' ⟨c, ne⟩
      obtain ⟨t, g1, g2, _, g4⟩ := hf p hp'
      obtain ⟨u, k1, k2, _, k4⟩ := hf r hr'
      rw [g4, k4]
      rw [g2, k2] at c ne
      exact lex_lt c ne
    · constructor
      · intro m
        obtain ⟨p, hp', e⟩ := List.mem_map.mp m
        obtain ⟨u, g1, _, _, g4⟩ := hf p hp'
        rw [← e, g4]
        exact g1
      · intro m
        obtain ⟨p, hp', e⟩ := List.mem_map.mp (h2 t m)
        refine List.mem_map.mpr ⟨p, pm.mem_iff.mpr hp', ?_⟩
        show (p.2.getD 0 0, p.2.getD 1 0) = t
        rw [e]
        rfl
/-! ### families of cells of one's own -/
def cellsOf (as : List (Addr × HO)) : List (Addr × Cel) := as.map fun p => (p.1, Cel.is p.2)
theorem cells_put {as : List (Addr × HO)} {i : Nat} {a : Addr} {o : HO} : (cellsOf as).set i (a, .is o) = cellsOf (as.set i (a, o)) := by
  unfold cellsOf
  rw [List.map_set]
theorem cells_at {as : List (Addr × HO)} {i : Nat} {a : Addr} {o : HO} (h : as[i]? = some (a, o)) : (cellsOf as)[i]? = some (a, .is o) := by
  unfold cellsOf
  rw [List.getElem?_map, h]
  rfl
theorem Sep.frzAll : ∀ {as : List (Addr × HO)} {F H : Hp}, Sep io H0 F0 F H (cellsOf as ++ M) → ∃ F', Sep io H0 F0 F' H M ∧ Evl.Ex F F' ∧ ∀ p ∈ as, F' p.1 = some p.2
  | [], F, H, S => ⟨F, S, Evl.Ex.refl _, fun p hp => by cases hp⟩
  | (a, o) :: as, F, H, S => by
    obtain ⟨F1, S1, e1, c1⟩ := S.frz 0 (a := a) (o := o) rfl
    obtain ⟨F2, S2, e2, c2⟩ := Sep.frzAll (as := as) S1
    refine ⟨F2, S2, e1.trans e2, fun p hp => ?_⟩
    rcases List.mem_cons.mp hp with rfl | hp
    · exact e2 _ _ c1
    · exact c2 p hp
/-- a call that tells a plain value may read all that stands -/
theorem r_callV {α : Type} {A : α → List V → Hp → Prop} {B : α → V → List (Addr × Cel) → Hp → Prop} {vs : List V} {E : XK} (S : Sep io H0 F0 F H M) (x : α) (h : A x vs H) (k : ∀ v N F' H', Sep io H0 F0 F H' M → Evl.Ex H H' → B x v N F' → Q v H') : SpF A B vs H Q E :=
  ⟨x, H, Evl.Ex.refl _, h, fun v N F' H' S' b => by
    have e : Evl.Ex H H' := S'.ex
    refine k v N F' H' ⟨fun a o g n => e a o (S.old a o g n), fun a g => S.nn a (S'.nn a g), S.gr, S.gn, S.fr.trans e, fun m hm => ⟨Cel.mono (S.own m hm).1 (Evl.Ex.refl _) (e _), (S.own m hm).2⟩, S.nd⟩ e b⟩
end
/-! ### rounds of draws -/
/-- the houses of left that h is tied to, in the ties' order -/
def nbL (ties : List (Int × Int)) (left : List Int) (h : Int) : List Int :=
  ties.flatMap fun t => if t.1 ∈ left ∧ t.2 ∈ left then (if t.1 = h then [t.2] else if t.2 = h then [t.1] else []) else []
def TiedW (ties : List (Int × Int)) (h o : Int) : Prop := (h, o) ∈ ties ∨ (o, h) ∈ ties
abbrev UpT (ties : List (Int × Int)) : Prop := ∀ t ∈ ties, t.1 < t.2
theorem TiedW.symm {ties : List (Int × Int)} {h o : Int} (x : TiedW ties h o) : TiedW ties o h := Or.symm x
theorem TiedW.ne {ties : List (Int × Int)} (u : UpT ties) {h o : Int} (x : TiedW ties h o) : h ≠ o := by
  rcases x with x | x <;> have := u _ x <;> simp only at this <;> omega
theorem nbL_mem {ties : List (Int × Int)} (u : UpT ties) {left : List Int} {h o : Int} : o ∈ nbL ties left h ↔ h ∈ left ∧ o ∈ left ∧ TiedW ties h o := by
  unfold nbL TiedW
  rw [List.mem_flatMap]
  constructor
  · rintro ⟨⟨a, b⟩, ht, hx⟩
    have := u _ ht
    simp only at this hx
    split at hx
    · rename_i c
      split at hx
      · rename_i e
        rw [List.mem_singleton] at hx
        subst e hx
        exact ⟨c.1, c.2, .inl ht⟩
      · split at hx
        · rename_i e
          rw [List.mem_singleton] at hx
          subst e hx
          exact ⟨c.2, c.1, .inr ht⟩
        · cases hx
    · cases hx
  · rintro ⟨h1, h2, h3⟩
    rcases h3 with h3 | h3
    · refine ⟨_, h3, ?_⟩
      simp [h1, h2]
    · have := u _ h3
      refine ⟨_, h3, ?_⟩
      simp only at this
      have ne : o ≠ h := by omega
      simp [h1, h2, ne]
theorem nbL_snoc {ties : List (Int × Int)} {left : List Int} {h : Int} {t : Int × Int} : nbL (ties ++ [t]) left h = nbL ties left h ++ (if t.1 ∈ left ∧ t.2 ∈ left then (if t.1 = h then [t.2] else if t.2 = h then [t.1] else []) else []) := by
  unfold nbL
  rw [List.flatMap_append]
  simp
def leastOf (ties : List (Int × Int)) (left : List Int) (f : Int → Int) : List Int := left.filter fun h => (nbL ties left h).all fun o => decide (f h < f o)
def outBy (ties : List (Int × Int)) (left chosen : List Int) : List Int := left.filter fun h => (nbL ties left h).any fun o => decide (o ∈ chosen)
def behind (left chosen out : List Int) : List Int := left.filter fun h => !decide (h ∈ chosen ++ out)
def rowF (row : List Int) (h : Int) : Int := row.getD h.toNat 0
def runL (ties : List (Int × Int)) : List Int → List (List Int) → List (List Int × List Int) × List Int
  | left, [] => ([], left)
  | left, row :: rest => if left = [] then ([], left) else
    ((leastOf ties left (rowF row), outBy ties left (leastOf ties left (rowF row))) :: (runL ties (behind left (leastOf ties left (rowF row)) (outBy ties left (leastOf ties left (rowF row)))) rest).1,
     (runL ties (behind left (leastOf ties left (rowF row)) (outBy ties left (leastOf ties left (rowF row)))) rest).2)
theorem runL_nil {ties : List (Int × Int)} : ∀ ds : List (List Int), runL ties [] ds = ([], [])
  | [] => rfl
  | _ :: _ => by rw [runL, if_pos rfl]
/-- by lists of those tied, in any order -/
def lawSome (N : Int → List Int) (here : List Int) (f : Int → Int) : List Int := here.filter fun h => ((N h).filter fun o => decide (o ∈ here)).all fun o => decide (f h < f o)
def lawOut (N : Int → List Int) (here some' : List Int) : List Int := here.filter fun h => !decide (h ∈ some') && !((N h).filter fun o => decide (o ∈ some')).isEmpty
section
variable {ties : List (Int × Int)} {left here : List Int} {N : Int → List Int} {f : Int → Int}
theorem leastOf_mem (u : UpT ties) {h : Int} : h ∈ leastOf ties left f ↔ h ∈ left ∧ ∀ o ∈ left, TiedW ties h o → f h < f o := by
  unfold leastOf
  rw [List.mem_filter, List.all_eq_true]
  refine and_congr_right fun hl => ⟨fun z o h1 h2 => of_decide_eq_true (z o ((nbL_mem u).2 ⟨hl, h1, h2⟩)), fun z o ho => ?_⟩
  obtain ⟨_, a, b⟩ := (nbL_mem u).1 ho
  exact decide_eq_true (z o a b)
theorem outBy_mem (u : UpT ties) {chosen : List Int} {h : Int} : h ∈ outBy ties left chosen ↔ h ∈ left ∧ ∃ o ∈ left, TiedW ties h o ∧ o ∈ chosen := by
  unfold outBy
  rw [List.mem_filter, List.any_eq_true]
  refine and_congr_right fun hl => ⟨?_, ?_⟩
  · rintro ⟨o, ho, z⟩
    obtain ⟨_, a, b⟩ := (nbL_mem u).1 ho
    exact ⟨o, a, b, of_decide_eq_true z⟩
  · rintro ⟨o, a, b, c⟩
    exact ⟨o, (nbL_mem u).2 ⟨hl, a, b⟩, decide_eq_true c⟩
theorem leastOf_apart (u : UpT ties) {h o : Int} (h1 : h ∈ leastOf ties left f) (h2 : o ∈ leastOf ties left f) : ¬ TiedW ties h o := fun z => by
  obtain ⟨a1, a2⟩ := (leastOf_mem u).1 h1
  obtain ⟨b1, b2⟩ := (leastOf_mem u).1 h2
  have c1 := a2 o b1 z
  have c2 := b2 h a1 z.symm
  omega
theorem lawSome_eq (u : UpT ties) (hN : ∀ h ∈ here, ∀ o, o ∈ N h ↔ TiedW ties h o) : lawSome N here f = leastOf ties here f := by
  unfold lawSome leastOf
  refine List.filter_congr fun h hh => ?_
  rw [Bool.eq_iff_iff, List.all_eq_true, List.all_eq_true]
  refine ⟨fun z o ho => ?_, fun z o ho => ?_⟩
  · obtain ⟨_, a, b⟩ := (nbL_mem u).1 ho
    exact z o (List.mem_filter.mpr ⟨(hN h hh o).2 b, decide_eq_true a⟩)
  · obtain ⟨a, b⟩ := List.mem_filter.mp ho
    exact z o ((nbL_mem u).2 ⟨hh, of_decide_eq_true b, (hN h hh o).1 a⟩)
theorem lawOut_eq (u : UpT ties) (hN : ∀ h ∈ here, ∀ o, o ∈ N h ↔ TiedW ties h o) {c : List Int} (hc : ∀ o ∈ c, o ∈ here) (ha : ∀ h ∈ c, ∀ o ∈ c, ¬ TiedW ties h o) : lawOut N here c = outBy ties here c := by
  unfold lawOut outBy
  refine List.filter_congr fun h hh => ?_
  rw [Bool.eq_iff_iff, Bool.and_eq_true, List.any_eq_true]
  constructor
  · rintro ⟨_, z⟩
    cases e : (N h).filter (fun o => decide (o ∈ c)) with
    | nil => rw [e] at z; cases z
    | cons o r =>
      have m : o ∈ (N h).filter (fun o => decide (o ∈ c)) := by rw [e]; exact List.mem_cons_self
      obtain ⟨a, b⟩ := List.mem_filter.mp m
      have b := of_decide_eq_true b
      exact ⟨o, (nbL_mem u).2 ⟨hh, hc o b, (hN h hh o).1 a⟩, decide_eq_true b⟩
  · rintro ⟨o, ho, z⟩
    obtain ⟨_, a, b⟩ := (nbL_mem u).1 ho
    have z := of_decide_eq_true z
    refine ⟨?_, ?_⟩
    · rw [Bool.not_eq_true', decide_eq_false_iff_not]
      exact fun q => ha h q o z b
    · cases e : (N h).filter (fun o => decide (o ∈ c)) with
      | nil =>
        have m : o ∈ (N h).filter (fun o => decide (o ∈ c)) := List.mem_filter.mpr ⟨(hN h hh o).2 b, decide_eq_true z⟩
        rw [e] at m
        cases m
      | cons _ _ => rfl
theorem behind_sub {c o : List Int} : ∀ h ∈ behind here c o, h ∈ here := fun h hh => (List.mem_filter.mp hh).1
theorem leastOf_sub : ∀ h ∈ leastOf ties here f, h ∈ here := fun h hh => (List.mem_filter.mp hh).1
theorem outBy_sub {c : List Int} : ∀ h ∈ outBy ties here c, h ∈ here := fun h hh => (List.mem_filter.mp hh).1
theorem behind_len {c o : List Int} : (behind here c o).length ≤ here.length := List.length_filter_le _ _
theorem leastOf_len : (leastOf ties here f).length ≤ here.length := List.length_filter_le _ _
theorem outBy_len {c : List Int} : (outBy ties here c).length ≤ here.length := List.length_filter_le _ _
theorem behind_up {c o : List Int} (h : here.Pairwise (· < ·)) : (behind here c o).Pairwise (· < ·) := h.sublist List.filter_sublist
theorem leastOf_up (h : here.Pairwise (· < ·)) : (leastOf ties here f).Pairwise (· < ·) := h.sublist List.filter_sublist
theorem outBy_up {c : List Int} (h : here.Pairwise (· < ·)) : (outBy ties here c).Pairwise (· < ·) := h.sublist List.filter_sublist
end
/-! ### the dict of those left -/
def nearK (left : List Int) (as : List Addr) : List (Key × V) := List.zipWith (fun h a => (Sum.inl h, V.ref a)) left as
theorem nearK_get {left : List Int} {as : List Addr} {i : Nat} {h : Int} {a : Addr} (e1 : left[i]? = some h) (e2 : as[i]? = some a) : (nearK left as)[i]? = some (.inl h, .ref a) := by
  unfold nearK
  rw [List.getElem?_zipWith, e1, e2]
theorem nearK_len {left : List Int} {as : List Addr} (e : as.length = left.length) : (nearK left as).length = left.length := by
  unfold nearK
  rw [List.length_zipWith, e, Nat.min_self]
theorem nearK_val : ∀ {left : List Int} {as : List Addr} {i : Nat} {h : Int} {a : Addr}, left.Nodup → left[i]? = some h → as[i]? = some a → valV (nearK left as) (.inl h) = some (.ref a)
  | [], _, i, _, _, _, e, _ => by simp at e
  | _ :: _, [], i, _, _, _, _, e => by simp at e
  | x :: l, b :: as, 0, h, a, _, e1, e2 => by
    cases e1
    cases e2
    simp [nearK, valV]
  | x :: l, b :: as, i + 1, h, a, nd, e1, e2 => by
    have ih := nearK_val (i := i) (List.nodup_cons.mp nd).2 (by simpa using e1) (by simpa using e2)
    have ne : x ≠ h := fun z => (List.nodup_cons.mp nd).1 (by rw [z]; exact List.mem_of_getElem? (by simpa using e1))
    unfold nearK valV at ih ⊢
    rw [List.zipWith_cons_cons, List.find?_cons_of_neg (by simpa using ne)]
    exact ih
theorem nearK_none : ∀ {left : List Int} {as : List Addr} {h : Int}, h ∉ left → valV (nearK left as) (.inl h) = none
  | [], _, _, _ => rfl
  | _ :: _, [], _, _ => rfl
  | x :: l, b :: as, h, nm => by
    have ih := nearK_none (left := l) (as := as) (h := h) fun z => nm (List.mem_cons_of_mem _ z)
    have ne : x ≠ h := fun z => nm (by rw [z]; exact List.mem_cons_self)
    unfold nearK valV at ih ⊢
    rw [List.zipWith_cons_cons, List.find?_cons_of_neg (by simpa using ne)]
    exact ih
theorem nearK_some {left : List Int} {as : List Addr} (nd : left.Nodup) (e : as.length = left.length) {h : Int} : (valV (nearK left as) (.inl h)).isSome = decide (h ∈ left) := by
  by_cases m : h ∈ left
  · obtain ⟨i, hi⟩ := List.mem_iff_getElem?.mp m
    have lt : i < as.length := by rw [e]; exact (List.getElem?_eq_some_iff.mp hi).1
    rw [nearK_val nd hi (List.getElem?_eq_getElem lt), decide_eq_true m]
    rfl
  · rw [nearK_none m, decide_eq_false m]
    rfl
theorem nearK_put {left : List Int} {as : List Addr} {i : Nat} {h : Int} {a : Addr} (nd : left.Nodup) (hi : left[i]? = some h) (e : as.length = i) : putK (nearK (left.take i) as) (.inl h) (.ref a) = nearK (left.take (i + 1)) (as ++ [a]) := by
  have lt := (List.getElem?_eq_some_iff.mp hi).1
  have no : ∀ x ∈ left.take i, x ≠ h := fun x hx z => by
    obtain ⟨j, hj⟩ := List.mem_iff_getElem?.mp hx
    have lj := (List.getElem?_eq_some_iff.mp hj).1
    rw [List.length_take] at lj
    rw [List.getElem?_take_of_lt (by omega), z] at hj
    have := nd_ix' nd hi hj
    omega
  unfold putK
  rw [if_neg]
  · unfold nearK
    rw [take_snoc hi, List.zipWith_append (by rw [List.length_take, e]; omega)]
    rfl
  · rw [List.any_eq_true]
    rintro ⟨p, hp, z⟩
    unfold nearK at hp
    obtain ⟨j, hj⟩ := List.mem_iff_getElem?.mp hp
    rw [List.getElem?_zipWith] at hj
    cases q1 : (left.take i)[j]? with
    | none => rw [q1] at hj; simp at hj
    | some x =>
      cases q2 : as[j]? with
      | none => rw [q1, q2] at hj; simp at hj
      | some y =>
        rw [q1, q2] at hj
        cases hj
        have z := of_decide_eq_true z
        exact no x (List.mem_of_getElem? q1) (by injection z)
theorem nearK_inv {left : List Int} {as : List Addr} {i : Nat} {k : Key} {v : V} (h : (nearK left as)[i]? = some (k, v)) : ∃ x a, left[i]? = some x ∧ as[i]? = some a ∧ k = .inl x ∧ v = .ref a := by
  unfold nearK at h
  rw [List.getElem?_zipWith] at h
  cases q1 : left[i]? with
  | none => rw [q1] at h; simp at h
  | some x =>
    cases q2 : as[i]? with
    | none => rw [q1, q2] at h; simp at h
    | some y =>
      rw [q1, q2] at h
      cases h
      exact ⟨x, y, rfl, rfl, rfl, rfl⟩
theorem take_filter {α : Type} (l : List α) (f : α → Bool) {i : Nat} {x : α} (h : l[i]? = some x) : (l.take (i + 1)).filter f = (l.take i).filter f ++ (if f x = true then [x] else []) := by
  rw [take_snoc h, List.filter_append]
  congr 1
  rw [List.filter_cons, List.filter_nil]
/-- what near_left tells -/
def NearAt (F : Hp) (d : Addr) (ties : List (Int × Int)) (left : List Int) : Prop := ∃ od as, as.length = left.length ∧ F d = some (.frz od (.dK (nearK left as))) ∧ ∀ (i : Nat) h a, left[i]? = some h → as[i]? = some a → F a = some (.lst ((nbL ties left h).map V.int))
def NearNew (F : Hp) (d : Addr) (ties : List (Int × Int)) (left : List Int) (c : Addr) : Prop := d ≠ c ∧ ∃ od as, as.length = left.length ∧ F d = some (.frz od (.dK (nearK left as))) ∧ (∀ (i : Nat) h a, left[i]? = some h → as[i]? = some a → F a = some (.lst ((nbL ties left h).map V.int))) ∧ ∀ b ∈ as, b ≠ c
theorem NearNew.at' {F F' : Hp} {d c : Addr} {ties : List (Int × Int)} {left : List Int} (h : NearNew F d ties left c) (e : ∀ b, b ≠ c → F' b = F b) : NearAt F' d ties left := by
  obtain ⟨h0, od, as, h1, h2, h3, h4⟩ := h
  exact ⟨od, as, h1, by rw [e d h0]; exact h2, fun i h a x y => by rw [e a (h4 a (List.mem_of_getElem? y))]; exact h3 i h a x y⟩
theorem NearAt.ex {F F' : Hp} {d : Addr} {ties : List (Int × Int)} {left : List Int} (h : NearAt F d ties left) (e : Evl.Ex F F') : NearAt F' d ties left := by
  obtain ⟨od, as, h1, h2, h3⟩ := h
  exact ⟨od, as, h1, e _ _ h2, fun i h a x y => e _ _ (h3 i h a x y)⟩
section
variable {io : List Addr} {H0 F0 F H : Hp} {M N : List (Addr × Cel)} {Q : VK}
theorem Sep.perm (S : Sep io H0 F0 F H M) (p : N.Perm M) : Sep io H0 F0 F H N := ⟨S.old, S.nn, S.gr, S.gn, S.fr, fun m hm => S.own m (p.mem_iff.mp hm), (p.map _).nodup_iff.mpr S.nd⟩
theorem s_forN {g : TG} {tb : TS} {D : Ends} {σ : L2.St} {od : Obj} {d : Addr} {left : List Int} {as : List Addr} (I : Nat → L2.St → Hp → List (Addr × Cel) → Prop) (S : Sep io H0 F0 F H M) (la : as.length = left.length) (hd : F d = some (.frz od (.dK (nearK left as)))) (h0 : I 0 σ F M)
    (hb : ∀ (i : Nat) h a t σ' F1 F' H' M', left[i]? = some h → as[i]? = some a → Sep io H0 F0 F' H' M' → Evl.Ex F F1 → Evl.Ex F1 F' → F' t = some (.tup [.int h, .ref a]) → I i σ' F1 M' → Body io H0 F0 F I D g tb i (.ref t) σ' H')
    (hn : ∀ σ' F' H' M', Sep io H0 F0 F' H' M' → Evl.Ex F F' → I left.length σ' F' M' → D.nx σ' H') : ForW (Iti d od (nearK left as)) D g tb σ H := by
  refine s_forIt I S hd h0 (fun i ky v t σ' F1 F' H' M' e S' e1 e2 ct h => ?_) fun σ' F' H' M' S' e h => hn σ' F' H' M' S' e (by rw [nearK_len la] at h; exact h)
  obtain ⟨x, a, i1, i2, rfl, rfl⟩ := nearK_inv e
  exact hb i x a t σ' F1 F' H' M' i1 i2 S' e1 e2 ct h
theorem srcN {od : Obj} {d : Addr} {left : List Int} {as : List Addr} (la : as.length = left.length) (hd : F d = some (.frz od (.dK (nearK left as)))) : Src (Itk d od (nearK left as)) io H0 F0 F [] left (fun h x _ => x = .int h) := by
  refine ⟨_, _, nearK_len la ▸ walk_keys, fun F' H' M' S e _ => S.rdC e hd, fun i h x F' H' H'' M' hh S e _ y => ?_⟩
  obtain ⟨rfl, k, v, e1, rfl⟩ := y
  obtain ⟨z, a, i1, i2, rfl, rfl⟩ := nearK_inv e1
  rw [hh] at i1
  cases i1
  exact ⟨F', S, Evl.Ex.refl _, rfl⟩
/-- a call that reads one cell of one's own -/
theorem r_callL {α : Type} {A : α → List V → Hp → Prop} {B : α → V → List (Addr × Cel) → Hp → Prop} {vs : List V} {E : XK} {a : Addr} {o : HO} (S : Sep io H0 F0 F H M) (j : Nat) (hj : M[j]? = some (a, .is o)) (x : α) (hA : A x vs (upd F a o)) (np : ∀ v N F', B x v N F' → ∀ m ∈ N, ∃ o, m.2 = .is o)
    (k : ∀ v N F1 F' H', Sep io H0 F0 F' H' (N ++ M) → Evl.Ex F F' → (∀ b, b ≠ a → F' b = F1 b) → B x v N F1 → Q v H') : SpF A B vs H Q E := by
  obtain ⟨⟨g1, g2⟩, g3⟩ := S.own _ (mem_of_k hj)
  have fr1 : Evl.Ex (upd F a o) H := fun b u h => by
    by_cases e : b = a
    · subst e; rw [upd_same] at h; cases h; exact g1
    · rw [upd_ne e] at h; exact S.fr b u h
  refine ⟨x, upd F a o, fr1, hA, fun v N F1 H' S' b => ?_⟩
  have ex : Evl.Ex H H' := S'.ex
  have hF : Evl.Ex F (fun b => if b = a then none else F1 b) := fun b u h => by
    have e : b ≠ a := fun e => by rw [e] at h; rw [h] at g3; cases g3
    show (if b = a then none else F1 b) = some u
    rw [if_neg e]
    exact S'.gr b u (by rw [upd_ne e]; exact h)
  refine k v N F1 (fun b => if b = a then none else F1 b) H' ⟨fun b u h n => ex b u (S.old b u h n), fun b h => S.nn b (S'.nn b h), S.gr.trans hF, fun b h => ?_, fun b u h => ?_, fun m hm => ?_, ?_⟩ hF (fun b e => if_neg e) b
  · by_cases e : b = a
    · exact absurd (if_pos e) h
    · rcases S'.gn b (fun z => h (by show (if b = a then none else F1 b) = none; rw [if_neg e]; exact z)) with z | z
      · rw [upd_ne e] at z; exact S.gn b z
      · exact .inr (S.nn b z)
  · have h : (if b = a then none else F1 b) = some u := h
    by_cases e : b = a
    · rw [if_pos e] at h; cases h
    · rw [if_neg e] at h; exact S'.fr b u h
  · have off : ∀ z : Addr, F1 z = none → (if z = a then none else F1 z) = none := fun z hz => by by_cases q : z = a <;> simp [q, hz]
    rcases List.mem_append.mp hm with hm | hm
    · obtain ⟨h1, h2⟩ := S'.own m hm
      obtain ⟨u, eu⟩ := np v N F1 b m hm
      obtain ⟨z, c⟩ := m
      subst eu
      exact ⟨⟨h1.1, S.nn _ h1.2⟩, off z h2⟩
    · obtain ⟨h1, h2⟩ := S.own m hm
      refine ⟨Cel.mono h1 hF (ex _), ?_⟩
      show (if m.1 = a then none else F1 m.1) = none
      by_cases e : m.1 = a
      · exact if_pos e
      · rw [if_neg e]
        cases q : F1 m.1 with
        | none => rfl
        | some u =>
          rcases S'.gn m.1 (Hp.some_ne q) with z | z
          · rw [upd_ne e] at z; exact absurd h2 z
          · exact absurd z (Cel.nz h1)
  · rw [List.map_append]
    refine List.nodup_append.mpr ⟨S'.nd, S.nd, ?_⟩
    intro y hy z hz e
    obtain ⟨m, hm, rfl⟩ := List.mem_map.mp hy
    obtain ⟨n, hn, rfl⟩ := List.mem_map.mp hz
    obtain ⟨h1, _⟩ := S'.own m hm
    obtain ⟨u, eu⟩ := np v N F1 b m hm
    obtain ⟨y, c⟩ := m
    subst eu
    exact Cel.nz (S.own n hn).1 (by rw [← e]; exact h1.2)
/-- a call that reads all that stands -/
theorem r_callW {α : Type} {A : α → List V → Hp → Prop} {B : α → V → List (Addr × Cel) → Hp → Prop} {vs : List V} {E : XK} (S : Sep io H0 F0 F H M) (x : α) (a : A x vs H) (np : ∀ v N F', B x v N F' → ∀ m ∈ N, ∃ o, m.2 = .is o)
    (k : ∀ v N F1 F' H', Sep io H0 F0 F' H' (N ++ M) → Evl.Ex F F' → B x v N F1 → Q v H') : SpF A B vs H Q E :=
  ⟨x, H, Evl.Ex.refl _, a, fun v N F1 H' S' b => by
    have ex : Evl.Ex H H' := S'.ex
    have hF : Evl.Ex F (fun a => if H a = none then F1 a else F a) := fun a o h => by
      show (if H a = none then F1 a else F a) = some o
      rw [if_neg (by rw [S.fr a o h]; exact fun z => nomatch z)]
      exact h
    refine k v N F1 (fun a => if H a = none then F1 a else F a) H' ⟨fun a o h n => ex a o (S.old a o h n), fun a h => S.nn a (S'.nn a h), S.gr.trans hF, fun a h => ?_, fun a o h => ?_, fun m hm => ?_, ?_⟩ hF b
    · by_cases c : H a = none
      · exact .inr (S.nn a c)
      · exact S.gn a fun z => h (by show (if H a = none then F1 a else F a) = none; rw [if_neg c]; exact z)
    · have h : (if H a = none then F1 a else F a) = some o := h
      by_cases c : H a = none
      · rw [if_pos c] at h; exact S'.fr a o h
      · rw [if_neg c] at h; exact ex a o (S.fr a o h)
    · rcases List.mem_append.mp hm with hm | hm
      · obtain ⟨h1, h2⟩ := S'.own m hm
        obtain ⟨o, eo⟩ := np v N F1 b m hm
        obtain ⟨z, c⟩ := m
        subst eo
        refine ⟨⟨h1.1, S.nn _ h1.2⟩, ?_⟩
        show (if H z = none then F1 z else F z) = none
        rw [if_pos h1.2]
        exact h2
      · obtain ⟨h1, h2⟩ := S.own m hm
        refine ⟨Cel.mono h1 hF (ex _), ?_⟩
        show (if H m.1 = none then F1 m.1 else F m.1) = none
        rw [if_neg (Cel.nz h1)]
        exact h2
    · rw [List.map_append]
      refine List.nodup_append.mpr ⟨S'.nd, S.nd, ?_⟩
      intro y hy z hz e
      obtain ⟨m, hm, rfl⟩ := List.mem_map.mp hy
      obtain ⟨n, hn, rfl⟩ := List.mem_map.mp hz
      obtain ⟨h1, _⟩ := S'.own m hm
      obtain ⟨o, eo⟩ := np v N F1 b m hm
      obtain ⟨y, c⟩ := m
      subst eo
      exact Cel.nz (S.own n hn).1 (by rw [← e]; exact h1.2)⟩
end
/-! ### what run_by tells: a tuple, lists of one's own -/
def fam (as : List Addr) (ls : List (List Int)) : List (Addr × HO) := List.zipWith (fun a l => (a, HO.lst (l.map V.int))) as ls
theorem fam_snoc {as : List Addr} {ls : List (List Int)} {a : Addr} {l : List Int} (e : as.length = ls.length) : fam (as ++ [a]) (ls ++ [l]) = fam as ls ++ [(a, .lst (l.map V.int))] := by
  unfold fam
  rw [List.zipWith_append e]
  rfl
theorem fam_at {as : List Addr} {ls : List (List Int)} {i : Nat} {a : Addr} {l : List Int} (e1 : as[i]? = some a) (e2 : ls[i]? = some l) : (fam as ls)[i]? = some (a, .lst (l.map V.int)) := by
  unfold fam
  rw [List.getElem?_zipWith, e1, e2]
theorem fam_len {as : List Addr} {ls : List (List Int)} (e : as.length = ls.length) : (fam as ls).length = ls.length := by
  unfold fam
  rw [List.length_zipWith, e, Nat.min_self]
structure RunCells (F : Hp) (ts cs os : List Addr) (rs : List (List Int × List Int)) : Prop where
  lt : ts.length = rs.length
  lc : cs.length = rs.length
  lo : os.length = rs.length
  tup : ∀ (i : Nat) t c o, ts[i]? = some t → cs[i]? = some c → os[i]? = some o → F t = some (.tup [.ref c, .ref o])
def runM (cs os : List Addr) (rs : List (List Int × List Int)) : List (Addr × Cel) := cellsOf (fam cs (rs.map Prod.fst) ++ fam os (rs.map Prod.snd))
theorem RunCells.nil {F : Hp} : RunCells F [] [] [] [] := ⟨rfl, rfl, rfl, fun i t c o h => by simp at h⟩
theorem RunCells.ex {F F' : Hp} {ts cs os : List Addr} {rs : List (List Int × List Int)} (h : RunCells F ts cs os rs) (e : Evl.Ex F F') : RunCells F' ts cs os rs := ⟨h.lt, h.lc, h.lo, fun i t c o a b d => e _ _ (h.tup i t c o a b d)⟩
theorem snoc_at {α : Type} {l : List α} {x y : α} {i : Nat} (h : (l ++ [x])[i]? = some y) : (i < l.length ∧ l[i]? = some y) ∨ (i = l.length ∧ y = x) := by
  have li := (List.getElem?_eq_some_iff.mp h).1
  rw [List.length_append, List.length_singleton] at li
  by_cases c : i < l.length
  · rw [List.getElem?_append_left c] at h
    exact .inl ⟨c, h⟩
  · have e : i = l.length := by omega
    subst e
    rw [List.getElem?_append_right (Nat.le_refl _), Nat.sub_self] at h
    exact .inr ⟨rfl, (Option.some.inj h).symm⟩
theorem RunCells.snoc {F : Hp} {ts cs os : List Addr} {rs : List (List Int × List Int)} {t c o : Addr} {r : List Int × List Int} (h : RunCells F ts cs os rs) (e : F t = some (.tup [.ref c, .ref o])) : RunCells F (ts ++ [t]) (cs ++ [c]) (os ++ [o]) (rs ++ [r]) := by
  refine ⟨by simp [h.lt], by simp [h.lc], by simp [h.lo], fun i t' c' o' a b d => ?_⟩
  rcases snoc_at a with ⟨a1, a2⟩ | ⟨a1, a2⟩ <;> rcases snoc_at b with ⟨b1, b2⟩ | ⟨b1, b2⟩ <;> rcases snoc_at d with ⟨d1, d2⟩ | ⟨d1, d2⟩
  · exact h.tup i _ _ _ a2 b2 d2
  all_goals first | (have := h.lt; have := h.lc; have := h.lo; exfalso; omega) | (rw [a2, b2, d2]; exact e)
theorem runM_snoc {F : Hp} {ts cs os : List Addr} {rs : List (List Int × List Int)} (h : RunCells F ts cs os rs) {c o : Addr} {C O : List Int} (b r : Addr × Cel) :
    (b :: r :: runM (cs ++ [c]) (os ++ [o]) (rs ++ [(C, O)])).Perm (b :: (o, .is (.lst (O.map V.int))) :: (c, .is (.lst (C.map V.int))) :: r :: runM cs os rs) := by
  unfold runM
  rw [List.map_append, List.map_append, List.map_singleton, List.map_singleton, fam_snoc (by rw [h.lc, List.length_map]), fam_snoc (by rw [h.lo, List.length_map])]
  unfold cellsOf
  simp only [List.map_append, List.map_cons, List.map_nil]
  generalize List.map (fun p : Addr × HO => (p.1, Cel.is p.2)) (fam cs (List.map Prod.fst rs)) = A
  generalize List.map (fun p : Addr × HO => (p.1, Cel.is p.2)) (fam os (List.map Prod.snd rs)) = B
  generalize (c, Cel.is (HO.lst (List.map V.int C))) = x
  generalize (o, Cel.is (HO.lst (List.map V.int O))) = y
  refine List.Perm.cons _ ?_
  have h1 : (A ++ [x] ++ (B ++ [y])).Perm (y :: x :: (A ++ B)) := by
    rw [← List.append_assoc]
    refine (List.perm_append_singleton _ _).trans (List.Perm.cons _ ?_)
    rw [List.append_assoc]
    exact List.perm_middle
  exact (List.Perm.cons r h1).trans ((List.Perm.swap _ _ _).trans (List.Perm.cons _ (List.Perm.swap _ _ _)))
/-- the rows of a run from here on -/
theorem runL_step {ties : List (Int × Int)} {left : List Int} {row : List Int} {rest : List (List Int)} (ne : left ≠ []) : runL ties left (row :: rest) =
    ((leastOf ties left (rowF row), outBy ties left (leastOf ties left (rowF row))) :: (runL ties (behind left (leastOf ties left (rowF row)) (outBy ties left (leastOf ties left (rowF row)))) rest).1,
     (runL ties (behind left (leastOf ties left (rowF row)) (outBy ties left (leastOf ties left (rowF row)))) rest).2) := by
  rw [runL, if_neg ne]
def roundD (r : List Int × List Int) : PyData := .tuple [intsD r.1, intsD r.2]
def runD (r : List (List Int × List Int) × List Int) : PyData := .tuple [.list (r.1.map roundD), intsD r.2]
/-- rows of a run whose lists stay -/
structure RawRows (F : Hp) (ts cs os : List Addr) (rs : List (List Int × List Int)) : Prop extends RunCells F ts cs os rs where
  ca : ∀ (i : Nat) c r, cs[i]? = some c → rs[i]? = some r → F c = some (.lst (r.1.map V.int))
  oa : ∀ (i : Nat) o r, os[i]? = some o → rs[i]? = some r → F o = some (.lst (r.2.map V.int))
theorem RawRows.ex {F F' : Hp} {ts cs os : List Addr} {rs : List (List Int × List Int)} (h : RawRows F ts cs os rs) (e : Evl.Ex F F') : RawRows F' ts cs os rs := ⟨h.toRunCells.ex e, fun i c r a b => e _ _ (h.ca i c r a b), fun i c r a b => e _ _ (h.oa i c r a b)⟩
theorem RawRows.nil {F : Hp} : RawRows F [] [] [] [] := ⟨RunCells.nil, fun i c r a => by simp at a, fun i c r a => by simp at a⟩
theorem RawRows.snoc {F : Hp} {ts cs os : List Addr} {rs : List (List Int × List Int)} {t c o : Addr} {r : List Int × List Int} (h : RawRows F ts cs os rs) (e : F t = some (.tup [.ref c, .ref o])) (ec : F c = some (.lst (r.1.map V.int))) (eo : F o = some (.lst (r.2.map V.int))) : RawRows F (ts ++ [t]) (cs ++ [c]) (os ++ [o]) (rs ++ [r]) := by
  refine ⟨h.toRunCells.snoc e, fun i c' r' a b => ?_, fun i c' r' a b => ?_⟩
  · rcases snoc_at a with ⟨a1, a2⟩ | ⟨a1, a2⟩ <;> rcases snoc_at b with ⟨b1, b2⟩ | ⟨b1, b2⟩
    · exact h.ca i _ _ a2 b2
    all_goals first | (have := h.lc; exfalso; omega) | (rw [a2, b2]; exact ec)
  · rcases snoc_at a with ⟨a1, a2⟩ | ⟨a1, a2⟩ <;> rcases snoc_at b with ⟨b1, b2⟩ | ⟨b1, b2⟩
    · exact h.oa i _ _ a2 b2
    all_goals first | (have := h.lo; exfalso; omega) | (rw [a2, b2]; exact eo)
theorem RawRows.dp {K : PySem.W.Frag} {F : Hp} {ts cs os : List Addr} {rs : List (List Int × List Int)} (h : RawRows F ts cs os rs) : DpAll K F (ts.map V.ref) (rs.map roundD) := by
  refine dpAll_ix (by rw [List.length_map, List.length_map, h.lt]) fun i x d e1 e2 => ?_
  rw [List.getElem?_map] at e1 e2
  have l1 := h.lt
  have l2 := h.lc
  have l3 := h.lo
  cases q1 : ts[i]? with
  | none => rw [q1] at e1; cases e1
  | some t =>
    cases q2 : rs[i]? with
    | none => rw [q2] at e2; cases e2
    | some r =>
      rw [q1] at e1
      rw [q2] at e2
      cases e1
      cases e2
      have li := (List.getElem?_eq_some_iff.mp q2).1
      obtain ⟨c, q3⟩ : ∃ c, cs[i]? = some c := ⟨_, List.getElem?_eq_getElem (by omega)⟩
      obtain ⟨o, q4⟩ : ∃ o, os[i]? = some o := ⟨_, List.getElem?_eq_getElem (by omega)⟩
      exact .tup (SqT.of (h.tup i t c o q1 q3 q4)) (.cons (dp_intsD (SqL.of (h.ca i c r q3 q2))) (.cons (dp_intsD (SqL.of (h.oa i o r q4 q2))) .nil))
/-- a run as it is told, all of it staying -/
def RunRaw (F : Hp) (v : V) (rs : List (List Int × List Int)) (left : List Int) : Prop := ∃ T R L ts cs os, v = .ref T ∧ F T = some (.tup [.ref R, .ref L]) ∧ F R = some (.lst (ts.map V.ref)) ∧ F L = some (.lst (left.map V.int)) ∧ RawRows F ts cs os rs
theorem RunRaw.ex {F F' : Hp} {v : V} {rs : List (List Int × List Int)} {left : List Int} (h : RunRaw F v rs left) (e : Evl.Ex F F') : RunRaw F' v rs left := by
  obtain ⟨T, R, L, ts, cs, os, rfl, h1, h2, h3, h4⟩ := h
  exact ⟨T, R, L, ts, cs, os, rfl, e _ _ h1, e _ _ h2, e _ _ h3, h4.ex e⟩
theorem RunRaw.dp {K : PySem.W.Frag} {F : Hp} {v : V} {rs : List (List Int × List Int)} {left : List Int} (h : RunRaw F v rs left) : Dp K F v (runD (rs, left)) := by
  obtain ⟨T, R, L, ts, cs, os, rfl, h1, h2, h3, h4⟩ := h
  exact .tup (SqT.of h1) (.cons (.lst (SqL.of h2) h4.dp) (.cons (dp_intsD (SqL.of h3)) .nil))
/-- a run as it is told: lists of one's own -/
def RunAt (rs : List (List Int × List Int)) (left : List Int) (v : V) (N : List (Addr × Cel)) (F : Hp) : Prop := ∃ T R L ts cs os, v = .ref T ∧ F T = some (.tup [.ref R, .ref L]) ∧ RunCells F ts cs os rs ∧ N = (L, .is (.lst (left.map V.int))) :: (R, .is (.lst (ts.map V.ref))) :: runM cs os rs
theorem RunAt.ex {F F' : Hp} {rs : List (List Int × List Int)} {left : List Int} {v : V} {N : List (Addr × Cel)} (h : RunAt rs left v N F) (e : Evl.Ex F F') : RunAt rs left v N F' := by
  obtain ⟨T, R, L, ts, cs, os, rfl, h1, h2, rfl⟩ := h
  exact ⟨T, R, L, ts, cs, os, rfl, e _ _ h1, h2.ex e, rfl⟩
theorem fam_in {as : List Addr} {ls : List (List Int)} {i : Nat} {a : Addr} {l : List Int} (e1 : as[i]? = some a) (e2 : ls[i]? = some l) : (a, HO.lst (l.map V.int)) ∈ fam as ls := List.mem_of_getElem? (fam_at e1 e2)
section
variable {io : List Addr} {H0 F0 F H : Hp} {M N : List (Addr × Cel)}
/-- .. as it stands in the heap -/
theorem RunAt.raw {rs : List (List Int × List Int)} {left : List Int} {v : V} (h : RunAt rs left v N F) (S : Sep io H0 F0 F H (N ++ M)) : RunRaw H v rs left := by
  obtain ⟨T, R, L, ts, cs, os, rfl, h1, h2, rfl⟩ := h
  refine ⟨T, R, L, ts, cs, os, rfl, S.fr _ _ h1, S.rdM 1 rfl, S.rdM 0 rfl, h2.ex S.fr, fun i c r a b => ?_, fun i o r a b => ?_⟩
  · have m : (c, Cel.is (HO.lst (r.1.map V.int))) ∈ runM cs os rs := List.mem_map.mpr ⟨_, List.mem_append_left _ (fam_in a (by rw [List.getElem?_map, b]; rfl)), rfl⟩
    exact (S.own _ (List.mem_append_left _ (List.mem_cons_of_mem _ (List.mem_cons_of_mem _ m)))).1.1
  · have m : (o, Cel.is (HO.lst (r.2.map V.int))) ∈ runM cs os rs := List.mem_map.mpr ⟨_, List.mem_append_right _ (fam_in a (by rw [List.getElem?_map, b]; rfl)), rfl⟩
    exact (S.own _ (List.mem_append_left _ (List.mem_cons_of_mem _ (List.mem_cons_of_mem _ m)))).1.1
/-- .. from now on it stays -/
theorem RunAt.frz {rs : List (List Int × List Int)} {left : List Int} {v : V} (h : RunAt rs left v N F) (S : Sep io H0 F0 F H (N ++ M)) : ∃ F', Sep io H0 F0 F' H M ∧ Evl.Ex F F' ∧ RunRaw F' v rs left := by
  obtain ⟨T, R, L, ts, cs, os, rfl, h1, h2, rfl⟩ := h
  have S : Sep io H0 F0 F H (cellsOf ((L, HO.lst (left.map V.int)) :: (R, HO.lst (ts.map V.ref)) :: (fam cs (rs.map Prod.fst) ++ fam os (rs.map Prod.snd))) ++ M) := S
  obtain ⟨F', S', e, c⟩ := S.frzAll
  refine ⟨F', S', e, T, R, L, ts, cs, os, rfl, e _ _ h1, c (R, _) (List.mem_cons_of_mem _ List.mem_cons_self), c (L, _) List.mem_cons_self, h2.ex e, fun i c' r a b => ?_, fun i o r a b => ?_⟩
  · exact c (c', _) (List.mem_cons_of_mem _ (List.mem_cons_of_mem _ (List.mem_append_left _ (fam_in a (by rw [List.getElem?_map, b]; rfl)))))
  · exact c (o, _) (List.mem_cons_of_mem _ (List.mem_cons_of_mem _ (List.mem_append_right _ (fam_in a (by rw [List.getElem?_map, b]; rfl)))))
end
/-! ### small data -/
structure RunSmall (rs : List (List Int × List Int)) (left : List Int) : Prop where
  rows : rs.length ≤ 1000
  lists : ∀ r ∈ rs, r.1.length ≤ 1000 ∧ r.2.length ≤ 1000
  left' : left.length ≤ 1000
theorem depthAll_le {n : Nat} : ∀ {ds : List PyData}, (∀ d ∈ ds, d.depth ≤ n) → PyData.depthAll ds ≤ n
  | [], _ => Nat.zero_le _
  | d :: r, h => by
    rw [PyData.depthAll]
    exact Nat.max_le.mpr ⟨h d List.mem_cons_self, depthAll_le fun x hx => h x (List.mem_cons_of_mem _ hx)⟩
theorem wdAll_of : ∀ {ds : List PyData}, (∀ d ∈ ds, wd d = true) → wdAll ds = true
  | [], _ => rfl
  | d :: r, h => by
    rw [wdAll, h d List.mem_cons_self, wdAll_of fun x hx => h x (List.mem_cons_of_mem _ hx)]
    rfl
theorem ints_depth (ns : List Int) : (intsD ns).depth ≤ 1 := by
  unfold intsD
  rw [PyData.depth]
  refine Nat.succ_le_succ (depthAll_le fun d hd => ?_)
  obtain ⟨i, _, rfl⟩ := List.mem_map.mp hd
  exact Nat.le_refl _
theorem ints_wd {ns : List Int} (h : ns.length ≤ 1000) : wd (intsD ns) = true := by
  unfold intsD
  rw [wd, List.length_map, decide_eq_true (show ns.length ≤ 100000 by omega), wdAll_of fun d hd => ?_]
  · rfl
  · obtain ⟨i, _, rfl⟩ := List.mem_map.mp hd
    rfl
theorem round_depth (r : List Int × List Int) : (roundD r).depth ≤ 2 := by
  unfold roundD
  rw [PyData.depth]
  refine Nat.succ_le_succ (depthAll_le fun d hd => ?_)
  rcases List.mem_cons.mp hd with rfl | hd
  · exact ints_depth _
  · rw [List.mem_singleton.mp hd]; exact ints_depth _
theorem round_wd {r : List Int × List Int} (h : r.1.length ≤ 1000 ∧ r.2.length ≤ 1000) : wd (roundD r) = true := by
  unfold roundD
  rw [wd, wdAll_of fun d hd => ?_]
  · rfl
  · rcases List.mem_cons.mp hd with rfl | hd
    · exact ints_wd h.1
    · rw [List.mem_singleton.mp hd]; exact ints_wd h.2
theorem rounds_depth (rs : List (List Int × List Int)) : (PyData.list (rs.map roundD)).depth ≤ 3 := by
  rw [PyData.depth]
  refine Nat.succ_le_succ (depthAll_le fun d hd => ?_)
  obtain ⟨r, _, rfl⟩ := List.mem_map.mp hd
  exact round_depth r
theorem rounds_wd {rs : List (List Int × List Int)} (h : rs.length ≤ 1000) (hl : ∀ r ∈ rs, r.1.length ≤ 1000 ∧ r.2.length ≤ 1000) : wd (PyData.list (rs.map roundD)) = true := by
  rw [wd, List.length_map, decide_eq_true (show rs.length ≤ 100000 by omega), wdAll_of fun d hd => ?_]
  · rfl
  · obtain ⟨r, hr, rfl⟩ := List.mem_map.mp hd
    exact round_wd (hl r hr)
theorem run_depth (r : List (List Int × List Int) × List Int) : (runD r).depth ≤ 4 := by
  unfold runD
  rw [PyData.depth]
  refine Nat.succ_le_succ (depthAll_le fun d hd => ?_)
  rcases List.mem_cons.mp hd with rfl | hd
  · exact rounds_depth _
  · rw [List.mem_singleton.mp hd]; exact Nat.le_trans (ints_depth _) (by decide)
theorem run_wd {rs : List (List Int × List Int)} {left : List Int} (h : RunSmall rs left) : wd (runD (rs, left)) = true := by
  unfold runD
  rw [wd, wdAll_of fun d hd => ?_]
  · rfl
  · rcases List.mem_cons.mp hd with rfl | hd
    · exact rounds_wd h.rows h.lists
    · rw [List.mem_singleton.mp hd]; exact ints_wd h.left'
theorem runL_small {ties : List (Int × Int)} : ∀ {ds : List (List Int)} {left : List Int} {n : Nat}, left.length ≤ n → (∀ r ∈ (runL ties left ds).1, r.1.length ≤ n ∧ r.2.length ≤ n) ∧ (runL ties left ds).1.length ≤ ds.length ∧ (runL ties left ds).2.length ≤ n
  | [], left, n, h => ⟨fun r hr => (by cases hr), Nat.le_refl _, h⟩
  | row :: rest, left, n, h => by
    by_cases e : left = []
    · rw [runL, if_pos e]
      exact ⟨fun r hr => (by cases hr), Nat.zero_le _, h⟩
    · rw [runL_step e]
      obtain ⟨a, b, c⟩ := runL_small (ds := rest) (left := behind left (leastOf ties left (rowF row)) (outBy ties left (leastOf ties left (rowF row)))) (n := n) (Nat.le_trans behind_len h)
      refine ⟨fun r hr => ?_, Nat.succ_le_succ b, c⟩
      rcases List.mem_cons.mp hr with rfl | hr
      · exact ⟨Nat.le_trans leastOf_len h, Nat.le_trans outBy_len h⟩
      · exact a r hr
theorem runL_fits {ties : List (Int × Int)} {many : Int} (hm : many ≤ 60) {ds : List (List Int)} (hd : ds.length ≤ 500) : RunSmall (runL ties (rgI many) ds).1 (runL ties (rgI many) ds).2 := by
  obtain ⟨a, b, c⟩ := runL_small (ties := ties) (ds := ds) (left := rgI many) (n := 60) (by rw [rgI_len]; omega)
  exact ⟨by omega, fun r hr => by have := a r hr; omega, by omega⟩
theorem shaped_draws (ds : List (List Int)) : SeqAt.shaped (.list (ds.map intsD)) = true := by
  have h0 : ∀ l : List Int, PyData.canLayAll0 (l.map PyData.int) = true := fun l => by
    induction l with
    | nil => rfl
    | cons x r ih => simp [PyData.canLayAll0, PyData.canLay0, ih]
  have h1 : PyData.canLayAll0 (ds.map intsD) = true := by
    induction ds with
    | nil => rfl
    | cons x r ih =>
      have := h0 x
      simp [PyData.canLayAll0, PyData.canLay0, intsD, ih, this] at *
  have h2 : PyData.depthAll (ds.map intsD) ≤ 1 := depthAll_le fun d hd => by
    obtain ⟨x, _, rfl⟩ := List.mem_map.mp hd
    exact ints_depth x
  unfold SeqAt.shaped
  simp [PyData.canLay0, h1, PyData.depth]
  omega
/-! ### list times a number -/
def rRepN : R2 := fun x y H Q => ∃ l k xs, x = .ref l ∧ y = .int k ∧ H l = some (.lst xs) ∧ -(2 ^ 63) ≤ k ∧ k < 2 ^ 63 ∧ xs.length * k.toNat ≤ sizeLine ∧ newK H (.lst (List.replicate k.toNat xs).flatten) Q
theorem op_repN {X : Cx} : OpR X (binaryOp .Mult) rRepN := op_rep
theorem s_rep {H : Hp} {a : Addr} {xs : List V} {k : Int} {Q : VK} (h : H a = some (.lst xs)) (h0 : 0 ≤ k) (h1 : k ≤ 1000) (hl : xs.length * k.toNat ≤ 100000) (q : newK H (.lst (List.replicate k.toNat xs).flatten) Q) : rRepN (.ref a) (.int k) H Q :=
  ⟨a, k, xs, rfl, rfl, h, by omega, by omega, Nat.le_trans hl (by decide), q⟩
theorem rep_one {α : Type} (n : Nat) (x : α) : (List.replicate n [x]).flatten = List.replicate n x := by
  induction n with
  | zero => rfl
  | succ n ih => rw [List.replicate_succ, List.flatten_cons, ih, List.replicate_succ]; rfl
theorem WebOk.few {many : Int} {ties : List (Int × Int)} (W : WebOk many ties) : ties.length ≤ 4000 := by
  have h2 := W.hi
  have nd : (ties.map fun t => (t.1 * 60 + t.2).toNat).Nodup := by
    refine List.pairwise_map.mpr (List.Pairwise.imp_of_mem (fun {a b} ha hb h e => ?_) W.up)
    have oa := W.ok a ha
    have ob := W.ok b hb
    unfold Lx at h
    omega
  have := nat_nodup_len _ (List.range 4000) nd fun x hx => by
    obtain ⟨t, ht, rfl⟩ := List.mem_map.mp hx
    have := W.ok t ht
    rw [List.mem_range]
    omega
  rw [List.length_map, List.length_range] at this
  exact this
/-! ### lists of a run written to -/
section
variable {io : List Addr} {H0 F0 F H : Hp} {M X : List (Addr × Cel)} {ts cs os : List Addr} {rs : List (List Int × List Int)}
theorem runM_c (rc : RunCells F ts cs os rs) {i : Nat} {c : Addr} {r : List Int × List Int} (hc : cs[i]? = some c) (hr : rs[i]? = some r) : (runM cs os rs ++ X)[i]? = some (c, .is (.lst (r.1.map V.int))) := by
  have li := (List.getElem?_eq_some_iff.mp hr).1
  have fl : (fam cs (rs.map Prod.fst)).length = rs.length := by rw [fam_len (by rw [rc.lc, List.length_map]), List.length_map]
  unfold runM cellsOf
  rw [List.getElem?_append_left (by rw [List.length_map, List.length_append]; omega), List.getElem?_map, List.getElem?_append_left (by omega), fam_at hc (l := r.1) (by rw [List.getElem?_map, hr]; rfl)]
  rfl
theorem runM_o (rc : RunCells F ts cs os rs) {i : Nat} {o : Addr} {r : List Int × List Int} (ho : os[i]? = some o) (hr : rs[i]? = some r) : (runM cs os rs ++ X)[rs.length + i]? = some (o, .is (.lst (r.2.map V.int))) := by
  have li := (List.getElem?_eq_some_iff.mp hr).1
  have fl : (fam cs (rs.map Prod.fst)).length = rs.length := by rw [fam_len (by rw [rc.lc, List.length_map]), List.length_map]
  have fl2 : (fam os (rs.map Prod.snd)).length = rs.length := by rw [fam_len (by rw [rc.lo, List.length_map]), List.length_map]
  unfold runM cellsOf
  rw [List.getElem?_append_left (by rw [List.length_map, List.length_append]; omega), List.getElem?_map, List.getElem?_append_right (by omega), fl, Nat.add_sub_cancel_left, fam_at ho (l := r.2) (by rw [List.getElem?_map, hr]; rfl)]
  rfl
theorem fam_set {as : List Addr} {ls : List (List Int)} {i : Nat} {a : Addr} {l : List Int} (h : as[i]? = some a) : (fam as ls).set i (a, .lst (l.map V.int)) = fam as (ls.set i l) := by
  refine List.ext_getElem? fun n => ?_
  unfold fam
  rw [List.getElem?_zipWith]
  by_cases e : i = n
  · subst e
    by_cases c : i < ls.length
    · have la := (List.getElem?_eq_some_iff.mp h).1
      rw [List.getElem?_set_self (by rw [List.length_zipWith]; omega), List.getElem?_set_self c, h]
    · rw [List.getElem?_eq_none (by rw [List.length_set, List.length_zipWith]; omega), List.getElem?_eq_none (l := ls.set i l) (by rw [List.length_set]; omega), h]
  · rw [List.getElem?_set_ne e, List.getElem?_set_ne e, List.getElem?_zipWith]
theorem runM_set (rc : RunCells F ts cs os rs) {i : Nat} {c o : Addr} {C O : List Int} (hc : cs[i]? = some c) (ho : os[i]? = some o) (hi : i < rs.length) :
    ((runM cs os rs ++ X).set i (c, .is (.lst (C.map V.int)))).set (rs.length + i) (o, .is (.lst (O.map V.int))) = runM cs os (rs.set i (C, O)) ++ X := by
  have fl : (fam cs (rs.map Prod.fst)).length = rs.length := by rw [fam_len (by rw [rc.lc, List.length_map]), List.length_map]
  have fl2 : (fam os (rs.map Prod.snd)).length = rs.length := by rw [fam_len (by rw [rc.lo, List.length_map]), List.length_map]
  unfold runM
  rw [List.set_append_left _ _ (by unfold cellsOf; rw [List.length_map, List.length_append]; omega), cells_put, List.set_append_left _ _ (by unfold cellsOf; rw [List.length_map, List.length_set, List.length_append]; omega), cells_put,
    List.set_append_left _ _ (by omega), List.set_append_right _ _ (by rw [List.length_set]; omega), List.length_set, fl, Nat.add_sub_cancel_left, fam_set hc, fam_set ho, List.map_set, List.map_set]
theorem RunCells.as {rs' : List (List Int × List Int)} (h : RunCells F ts cs os rs) (e : rs'.length = rs.length) : RunCells F ts cs os rs' := ⟨by rw [h.lt, e], by rw [h.lc, e], by rw [h.lo, e], h.tup⟩
theorem rawRows_of (S : Sep io H0 F0 F H M) (rc : RunCells F ts cs os rs) (hm : ∀ m ∈ runM cs os rs, m ∈ M) : RawRows H ts cs os rs := by
  refine ⟨rc.ex S.fr, fun i c r a b => ?_, fun i o r a b => ?_⟩
  · have m : (c, Cel.is (HO.lst (r.1.map V.int))) ∈ runM cs os rs := List.mem_map.mpr ⟨_, List.mem_append_left _ (fam_in a (by rw [List.getElem?_map, b]; rfl)), rfl⟩
    exact (S.own _ (hm _ m)).1.1
  · have m : (o, Cel.is (HO.lst (r.2.map V.int))) ∈ runM cs os rs := List.mem_map.mpr ⟨_, List.mem_append_right _ (fam_in a (by rw [List.getElem?_map, b]; rfl)), rfl⟩
    exact (S.own _ (hm _ m)).1.1
end
def bentR (r : List Int × List Int) : List Int × List Int := (r.1 ++ [-1], r.2 ++ [-2])
def bentN (rs : List (List Int × List Int)) (i : Nat) : List (List Int × List Int) := (rs.take i).map bentR ++ rs.drop i
theorem bentN_len (rs : List (List Int × List Int)) (i : Nat) : (bentN rs i).length = rs.length := by
  unfold bentN
  rw [List.length_append, List.length_map, List.length_take, List.length_drop]
  omega
theorem bentN_at {rs : List (List Int × List Int)} {i : Nat} {r : List Int × List Int} (h : rs[i]? = some r) : (bentN rs i)[i]? = some r := by
  have li := (List.getElem?_eq_some_iff.mp h).1
  unfold bentN
  rw [List.getElem?_append_right (by rw [List.length_map, List.length_take]; omega), List.length_map, List.length_take, Nat.min_eq_left (by omega), Nat.sub_self, List.getElem?_drop]
  exact h
theorem bentN_set {rs : List (List Int × List Int)} {i : Nat} {r : List Int × List Int} (h : rs[i]? = some r) : (bentN rs i).set i (bentR r) = bentN rs (i + 1) := by
  have li := (List.getElem?_eq_some_iff.mp h).1
  unfold bentN
  rw [List.set_append_right _ _ (by rw [List.length_map, List.length_take]; omega), List.length_map, List.length_take, Nat.min_eq_left (by omega), Nat.sub_self, take_snoc h, List.map_append, List.append_assoc]
  congr 1
  have d : rs.drop i = r :: rs.drop (i + 1) := by
    rw [List.drop_eq_getElem_cons li]
    congr 1
    rw [List.getElem?_eq_getElem li] at h
    exact Option.some.inj h
  rw [d]
  rfl
theorem rise_ext : ∀ {a b : List Int}, a.Pairwise (· < ·) → b.Pairwise (· < ·) → (∀ x, x ∈ a ↔ x ∈ b) → a = b
  | [], [], _, _, _ => rfl
  | [], y :: b, _, _, h => absurd ((h y).2 List.mem_cons_self) (by simp)
  | x :: a, [], _, _, h => absurd ((h x).1 List.mem_cons_self) (by simp)
  | x :: a, y :: b, ha, hb, h => by
    obtain ⟨a1, a2⟩ := List.pairwise_cons.mp ha
    obtain ⟨b1, b2⟩ := List.pairwise_cons.mp hb
    have e : x = y := by
      rcases List.mem_cons.mp ((h x).1 List.mem_cons_self) with e | m
      · exact e
      · rcases List.mem_cons.mp ((h y).2 List.mem_cons_self) with e | n
        · exact e.symm
        · have := b1 x m
          have := a1 y n
          omega
    subst e
    rw [rise_ext a2 b2 fun z => ?_]
    constructor
    · intro m
      rcases List.mem_cons.mp ((h z).1 (List.mem_cons_of_mem _ m)) with e | n
      · have := a1 z m; omega
      · exact n
    · intro m
      rcases List.mem_cons.mp ((h z).2 (List.mem_cons_of_mem _ m)) with e | n
      · have := b1 z m; omega
      · exact n
/-! ### whether a run may be told -/
def mayB (ties : List (Int × Int)) (left c : List Int) : Bool := decide (c = left.filter fun h => decide (h ∈ c)) && left.all fun h => !(!decide (h ∈ c) && (nbL ties left h).isEmpty) && !(decide (h ∈ c) && (nbL ties left h).any fun o => decide (o ∈ c))
def isRunB (ties : List (Int × Int)) : List Int → List (List Int × List Int) → List Int → Bool
  | left, [], e => decide (left = e)
  | left, r :: rest, e => !left.isEmpty && mayB ties left r.1 && decide (r.2 = outBy ties left r.1) && isRunB ties (behind left r.1 r.2) rest e
def besideL (N : Int → List Int) (here : List Int) (h : Int) : List Int := (N h).filter fun o => decide (o ∈ here)
def metL (N : Int → List Int) (here c : List Int) (h : Int) : List Int := (besideL N here h).filter fun o => decide (o ∈ c)
/-- one house of a round, as the law goes through it -/
def lawHouse (N : Int → List Int) (here c o : List Int) (h : Int) : Bool :=
  !((decide (h ∈ c) && !(metL N here c h).isEmpty) || (!decide (h ∈ c) && (besideL N here h).isEmpty)) && (decide (h ∈ o) == (!decide (h ∈ c) && !(metL N here c h).isEmpty))
def lawRound (N : Int → List Int) (here c o : List Int) : Bool := !here.isEmpty && (c.filter fun h => !decide (h ∈ here)).isEmpty && here.all (lawHouse N here c o) && (o.filter fun h => !decide (h ∈ here)).isEmpty
def lawRunB (N : Int → List Int) : List Int → List (List Int × List Int) → List Int → Bool
  | here, [], e => decide (here = e)
  | here, r :: rest, e => lawRound N here r.1 r.2 && lawRunB N (behind here r.1 r.2) rest e
section
variable {ties : List (Int × Int)} {here c o : List Int} {N : Int → List Int}
theorem isEmpty_iff {α : Type} {l : List α} : l.isEmpty = true ↔ ∀ x, x ∉ l := by
  cases l with
  | nil => exact ⟨(fun _ x h => nomatch h), fun _ => rfl⟩
  | cons x r => exact ⟨(fun h => nomatch h), fun h => absurd List.mem_cons_self (h x)⟩
theorem notEmpty_iff {α : Type} {l : List α} : (!l.isEmpty) = true ↔ ∃ x, x ∈ l := by
  cases l with
  | nil => exact ⟨(fun h => nomatch h), fun ⟨x, h⟩ => nomatch h⟩
  | cons x r => exact ⟨fun _ => ⟨x, List.mem_cons_self⟩, fun _ => rfl⟩
theorem mayB_iff (u : UpT ties) (hh : here.Pairwise (· < ·)) (hc : c.Pairwise (· < ·)) : mayB ties here c = true ↔ (∀ h ∈ c, h ∈ here) ∧ (∀ h ∈ here, h ∉ c → ∃ x ∈ here, TiedW ties h x) ∧ ∀ h ∈ here, h ∈ c → ∀ x ∈ here, TiedW ties h x → x ∉ c := by
  unfold mayB
  rw [Bool.and_eq_true, decide_eq_true_eq, List.all_eq_true]
  constructor
  · rintro ⟨e, a⟩
    refine ⟨fun h m => ?_, fun h m n => ?_, fun h m n x mx t q => ?_⟩
    · rw [e] at m; exact (List.mem_filter.mp m).1
    · have := (Bool.and_eq_true _ _ ▸ a h m).1
      rw [decide_eq_false n] at this
      have z : (!(nbL ties here h).isEmpty) = true := by simpa using this
      obtain ⟨x, mx⟩ := notEmpty_iff.mp z
      obtain ⟨_, b, d⟩ := (nbL_mem u).1 mx
      exact ⟨x, b, d⟩
    · have := (Bool.and_eq_true _ _ ▸ a h m).2
      rw [decide_eq_true n, Bool.true_and, Bool.not_eq_true'] at this
      have := List.any_eq_false.mp this x ((nbL_mem u).2 ⟨m, mx, t⟩)
      exact this (decide_eq_true q)
  · rintro ⟨e, a, b⟩
    refine ⟨rise_ext hc (hh.sublist List.filter_sublist) fun x => ?_, fun h m => ?_⟩
    · rw [List.mem_filter, decide_eq_true_eq]
      exact ⟨fun m => ⟨e x m, m⟩, fun m => m.2⟩
    · by_cases n : h ∈ c
      · rw [decide_eq_true n]
        have : ((nbL ties here h).any fun o => decide (o ∈ c)) = false := List.any_eq_false.mpr fun x mx q => by
          obtain ⟨_, d, t⟩ := (nbL_mem u).1 mx
          exact b h m n x d t (of_decide_eq_true q)
        rw [this]
        rfl
      · rw [decide_eq_false n]
        obtain ⟨x, mx, t⟩ := a h m n
        have : (nbL ties here h).isEmpty = false := by
          cases q : nbL ties here h with
          | nil => have := (nbL_mem u).2 ⟨m, mx, t⟩; rw [q] at this; cases this
          | cons _ _ => rfl
        rw [this]
        rfl
theorem besideL_mem (hN : ∀ h ∈ here, ∀ x, x ∈ N h ↔ TiedW ties h x) {h x : Int} (hm : h ∈ here) : x ∈ besideL N here h ↔ x ∈ here ∧ TiedW ties h x := by
  unfold besideL
  rw [List.mem_filter, hN h hm, decide_eq_true_eq, and_comm]
theorem metL_mem (hN : ∀ h ∈ here, ∀ x, x ∈ N h ↔ TiedW ties h x) {h x : Int} (hm : h ∈ here) : x ∈ metL N here c h ↔ (x ∈ here ∧ TiedW ties h x) ∧ x ∈ c := by
  unfold metL
  rw [List.mem_filter, besideL_mem hN hm, decide_eq_true_eq]
theorem round_iff (u : UpT ties) (hN : ∀ h ∈ here, ∀ x, x ∈ N h ↔ TiedW ties h x) (hh : here.Pairwise (· < ·)) (hc : c.Pairwise (· < ·)) (ho : o.Pairwise (· < ·)) :
    (!here.isEmpty && mayB ties here c && decide (o = outBy ties here c)) = lawRound N here c o := by
  rw [Bool.eq_iff_iff]
  unfold lawRound
  rw [Bool.and_eq_true, Bool.and_eq_true, decide_eq_true_eq, Bool.and_eq_true, Bool.and_eq_true, Bool.and_eq_true, mayB_iff u hh hc, isEmpty_iff, isEmpty_iff, List.all_eq_true]
  have out_iff : o = outBy ties here c ↔ ∀ h, h ∈ o ↔ h ∈ here ∧ ∃ x ∈ here, TiedW ties h x ∧ x ∈ c := by
    constructor
    · intro e h
      rw [e, outBy_mem u]
    · intro e
      exact rise_ext ho (outBy_up hh) fun h => by rw [e, outBy_mem u]
  rw [out_iff]
  have met_ne : ∀ h ∈ here, ((!(metL N here c h).isEmpty) = true ↔ ∃ x ∈ here, TiedW ties h x ∧ x ∈ c) := fun h hm => by
    rw [notEmpty_iff]
    constructor
    · rintro ⟨x, m⟩
      obtain ⟨⟨a, b⟩, d⟩ := (metL_mem hN hm).1 m
      exact ⟨x, a, b, d⟩
    · rintro ⟨x, a, b, d⟩
      exact ⟨x, (metL_mem hN hm).2 ⟨⟨a, b⟩, d⟩⟩
  have bes_e : ∀ h ∈ here, ((besideL N here h).isEmpty = true ↔ ∀ x ∈ here, ¬ TiedW ties h x) := fun h hm => by
    rw [isEmpty_iff]
    exact ⟨fun z x m t => z x ((besideL_mem hN hm).2 ⟨m, t⟩), fun z x m => z x ((besideL_mem hN hm).1 m).1 ((besideL_mem hN hm).1 m).2⟩
  constructor
  · rintro ⟨⟨e0, e1, e2, e3⟩, e4⟩
    refine ⟨⟨⟨e0, fun x m => ?_⟩, fun h hm => ?_⟩, fun x m => ?_⟩
    · obtain ⟨a, b⟩ := List.mem_filter.mp m
      have := e1 x a
      simp [this] at b
    · have mn := met_ne h hm
      have be := bes_e h hm
      have q := e4 h
      have f1 : ¬ ((decide (h ∈ c) && !(metL N here c h).isEmpty) = true) := fun z => by
        rw [Bool.and_eq_true, decide_eq_true_eq, mn] at z
        obtain ⟨zc, x, a, b, d⟩ := z
        exact e3 h hm zc x a b d
      have f2 : ¬ ((!decide (h ∈ c) && (besideL N here h).isEmpty) = true) := fun z => by
        rw [Bool.and_eq_true, be, Bool.not_eq_true', decide_eq_false_iff_not] at z
        obtain ⟨x, a, b⟩ := e2 h hm z.1
        exact z.2 x a b
      have f3 : (decide (h ∈ o) = true) ↔ (!decide (h ∈ c) && !(metL N here c h).isEmpty) = true := by
        rw [decide_eq_true_eq, q, Bool.and_eq_true, mn, Bool.not_eq_true', decide_eq_false_iff_not]
        refine ⟨fun z => ⟨fun zc => ?_, z.2⟩, fun z => ⟨hm, z.2⟩⟩
        obtain ⟨x, a, b, d⟩ := z.2
        exact e3 h hm zc x a b d
      unfold lawHouse
      rw [Bool.eq_false_iff.mpr f1, Bool.eq_false_iff.mpr f2, Bool.eq_iff_iff.mpr f3]
      simp
    · obtain ⟨a, b⟩ := List.mem_filter.mp m
      have := ((e4 x).1 a).1
      simp [this] at b
  · rintro ⟨⟨⟨e0, e1⟩, e2⟩, e3⟩
    have sub : ∀ h ∈ c, h ∈ here := fun h m => by
      have := e1 h
      rw [List.mem_filter] at this
      by_cases q : h ∈ here
      · exact q
      · exact absurd ⟨m, by simp [q]⟩ this
    have sub2 : ∀ h ∈ o, h ∈ here := fun h m => by
      have := e3 h
      rw [List.mem_filter] at this
      by_cases q : h ∈ here
      · exact q
      · exact absurd ⟨m, by simp [q]⟩ this
    have parts : ∀ h ∈ here, ¬ ((decide (h ∈ c) && !(metL N here c h).isEmpty) = true) ∧ ¬ ((!decide (h ∈ c) && (besideL N here h).isEmpty) = true) ∧ ((decide (h ∈ o) = true) ↔ (!decide (h ∈ c) && !(metL N here c h).isEmpty) = true) := fun h hm => by
      have z := e2 h hm
      unfold lawHouse at z
      rw [Bool.and_eq_true, Bool.not_eq_true', Bool.or_eq_false_iff, beq_iff_eq] at z
      exact ⟨Bool.eq_false_iff.mp z.1.1, Bool.eq_false_iff.mp z.1.2, by rw [z.2]⟩
    have no : ∀ h ∈ here, h ∈ c → ∀ x ∈ here, TiedW ties h x → x ∉ c := fun h hm hc x mx t q => by
      refine (parts h hm).1 ?_
      rw [Bool.and_eq_true, decide_eq_true_eq, met_ne h hm]
      exact ⟨hc, x, mx, t, q⟩
    refine ⟨⟨e0, sub, fun h hm hc => ?_, no⟩, fun h => ?_⟩
    · refine Classical.byContradiction fun q => (parts h hm).2.1 ?_
      rw [Bool.and_eq_true, bes_e h hm, Bool.not_eq_true', decide_eq_false_iff_not]
      exact ⟨hc, fun x mx t => q ⟨x, mx, t⟩⟩
    · constructor
      · intro m
        have hm := sub2 h m
        have z := (parts h hm).2.2.1 (decide_eq_true m)
        rw [Bool.and_eq_true, met_ne h hm] at z
        exact ⟨hm, z.2⟩
      · rintro ⟨hm, z⟩
        refine of_decide_eq_true ((parts h hm).2.2.2 ?_)
        rw [Bool.and_eq_true, met_ne h hm, Bool.not_eq_true', decide_eq_false_iff_not]
        obtain ⟨x, mx, t, q⟩ := z
        exact ⟨fun hc => no h hm hc x mx t q, x, mx, t, q⟩
theorem isRun_law (u : UpT ties) {many : Int} (hN : ∀ h, 0 ≤ h → h < many → ∀ x, x ∈ N h ↔ TiedW ties h x) {e : List Int} : ∀ {rs : List (List Int × List Int)} {here : List Int}, here.Pairwise (· < ·) → (∀ h ∈ here, 0 ≤ h ∧ h < many) → (∀ r ∈ rs, r.1.Pairwise (· < ·) ∧ r.2.Pairwise (· < ·)) → isRunB ties here rs e = lawRunB N here rs e
  | [], _, _, _, _ => rfl
  | r :: rest, here, hh, hr, ho => by
    have o1 := ho r List.mem_cons_self
    rw [isRunB, lawRunB, round_iff u (fun h hm => hN h (hr h hm).1 (hr h hm).2) hh o1.1 o1.2, isRun_law u hN (rs := rest) (behind_up hh) (fun h hm => hr h (behind_sub h hm)) fun r hm => ho r (List.mem_cons_of_mem _ hm)]
/-- runs by draws -/
theorem isRun_run (u : UpT ties) : ∀ {ds : List (List Int)} {left : List Int}, left.Pairwise (· < ·) → isRunB ties left (runL ties left ds).1 (runL ties left ds).2 = true
  | [], _, _ => by rw [runL, isRunB]; exact decide_eq_true rfl
  | row :: rest, left, hl => by
    by_cases e : left = []
    · rw [runL, if_pos e, isRunB]; exact decide_eq_true rfl
    · rw [runL_step e, isRunB]
      simp only
      rw [isRun_run u (ds := rest) (behind_up hl), (mayB_iff u hl (leastOf_up hl)).mpr ⟨leastOf_sub, fun h hm hn => ?_, fun h hm hc x mx t q => leastOf_apart u hc q t⟩]
      · cases left with
        | nil => exact absurd rfl e
        | cons _ _ => simp
      · refine Classical.byContradiction fun q => hn ((leastOf_mem u).2 ⟨hm, fun x mx t => ?_⟩)
        exact absurd ⟨x, mx, t⟩ q
end
/-! ### rows of a run as values -/
def RowV (F : Hp) (x : V) (r : List Int × List Int) : Prop := ∃ t c o, x = .ref t ∧ F t = some (.tup [.ref c, .ref o]) ∧ F c = some (.lst (r.1.map V.int)) ∧ F o = some (.lst (r.2.map V.int))
def RowsV (F : Hp) : List V → List (List Int × List Int) → Prop
  | [], [] => True
  | x :: xs, r :: rs => RowV F x r ∧ RowsV F xs rs
  | _, _ => False
section
variable {F F' : Hp} {K : PySem.W.Frag}
theorem RowV.ex {x : V} {r : List Int × List Int} (h : RowV F x r) (e : Evl.Ex F F') : RowV F' x r := by
  obtain ⟨t, c, o, rfl, h1, h2, h3⟩ := h
  exact ⟨t, c, o, rfl, e _ _ h1, e _ _ h2, e _ _ h3⟩
theorem RowV.dp {x : V} {r : List Int × List Int} (h : RowV F x r) : Dp K F x (roundD r) := by
  obtain ⟨t, c, o, rfl, h1, h2, h3⟩ := h
  exact .tup (SqT.of h1) (.cons (dp_intsD (SqL.of h2)) (.cons (dp_intsD (SqL.of h3)) .nil))
theorem RowsV.ex (e : Evl.Ex F F') : ∀ {xs : List V} {rs : List (List Int × List Int)}, RowsV F xs rs → RowsV F' xs rs
  | [], [], _ => trivial
  | _ :: _, _ :: _, h => ⟨h.1.ex e, RowsV.ex e h.2⟩
  | [], _ :: _, h => h.elim
  | _ :: _, [], h => h.elim
theorem RowsV.dp : ∀ {xs : List V} {rs : List (List Int × List Int)}, RowsV F xs rs → DpAll K F xs (rs.map roundD)
  | [], [], _ => .nil
  | _ :: _, _ :: _, h => .cons h.1.dp (RowsV.dp h.2)
  | [], _ :: _, h => h.elim
  | _ :: _, [], h => h.elim
theorem RowsV.len : ∀ {xs : List V} {rs : List (List Int × List Int)}, RowsV F xs rs → xs.length = rs.length
  | [], [], _ => rfl
  | _ :: _, _ :: _, h => by rw [List.length_cons, List.length_cons, RowsV.len h.2]
  | [], _ :: _, h => h.elim
  | _ :: _, [], h => h.elim
theorem RowsV.get : ∀ {xs : List V} {rs : List (List Int × List Int)} {i : Nat} {r : List Int × List Int}, RowsV F xs rs → rs[i]? = some r → ∃ x, xs[i]? = some x ∧ RowV F x r
  | [], [], i, _, _, e => by simp at e
  | x :: _, _ :: _, 0, _, h, e => by cases e; exact ⟨x, rfl, h.1⟩
  | _ :: _, _ :: _, i + 1, _, h, e => by
    obtain ⟨x, e1, e2⟩ := RowsV.get (i := i) h.2 (by simpa using e)
    exact ⟨x, by simpa using e1, e2⟩
  | [], _ :: _, _, _, h, _ => h.elim
  | _ :: _, [], _, _, h, _ => h.elim
theorem RowsV.app : ∀ {xs ys : List V} {rs ss : List (List Int × List Int)}, RowsV F xs rs → RowsV F ys ss → RowsV F (xs ++ ys) (rs ++ ss)
  | [], _, [], _, _, h => h
  | _ :: _, _, _ :: _, _, a, h => ⟨a.1, RowsV.app a.2 h⟩
  | [], _, _ :: _, _, a, _ => a.elim
  | _ :: _, _, [], _, a, _ => a.elim
theorem RowsV.take : ∀ {xs : List V} {rs : List (List Int × List Int)} (n : Nat), RowsV F xs rs → RowsV F (xs.take n) (rs.take n)
  | _, _, 0, _ => by rw [List.take_zero, List.take_zero]; trivial
  | [], [], _ + 1, _ => trivial
  | _ :: _, _ :: _, n + 1, h => ⟨h.1, RowsV.take n h.2⟩
  | [], _ :: _, _, h => h.elim
  | _ :: _, [], _, h => h.elim
theorem RowsV.drop : ∀ {xs : List V} {rs : List (List Int × List Int)} (n : Nat), RowsV F xs rs → RowsV F (xs.drop n) (rs.drop n)
  | _, _, 0, h => h
  | [], [], _ + 1, _ => trivial
  | _ :: _, _ :: _, n + 1, h => RowsV.drop n h.2
  | [], _ :: _, _, h => h.elim
  | _ :: _, [], _, h => h.elim
theorem RowsV.rev : ∀ {xs : List V} {rs : List (List Int × List Int)}, RowsV F xs rs → RowsV F xs.reverse rs.reverse
  | [], [], _ => trivial
  | x :: xs, r :: rs, h => by
    rw [List.reverse_cons, List.reverse_cons]
    exact RowsV.app (RowsV.rev h.2) ⟨h.1, trivial⟩
  | [], _ :: _, h => h.elim
  | _ :: _, [], h => h.elim
theorem RowsV.rep {x : V} {r : List Int × List Int} (h : RowV F x r) : ∀ n : Nat, RowsV F (List.replicate n x) (List.replicate n r)
  | 0 => trivial
  | n + 1 => ⟨h, RowsV.rep h n⟩
theorem RawRows.vals {ts cs os : List Addr} {rs : List (List Int × List Int)} (h : RawRows F ts cs os rs) : RowsV F (ts.map V.ref) rs := by
  have lt := h.lt
  have lc := h.lc
  have lo := h.lo
  have key : ∀ n, n ≤ rs.length → RowsV F ((ts.take n).map V.ref) (rs.take n) := by
    intro n
    induction n with
    | zero => intro _; rw [List.take_zero, List.take_zero]; trivial
    | succ n ih =>
      intro hn
      have e1 := List.getElem?_eq_getElem (l := ts) (i := n) (by omega)
      have e2 := List.getElem?_eq_getElem (l := rs) (i := n) (by omega)
      have e3 := List.getElem?_eq_getElem (l := cs) (i := n) (by omega)
      have e4 := List.getElem?_eq_getElem (l := os) (i := n) (by omega)
      rw [take_snoc e1, take_snoc e2, List.map_append]
      exact RowsV.app (ih (by omega)) ⟨⟨_, _, _, rfl, h.tup n _ _ _ e1 e3 e4, h.ca n _ _ e3 e2, h.oa n _ _ e4 e2⟩, trivial⟩
  have := key rs.length (Nat.le_refl _)
  rw [List.take_length, ← lt, List.take_length] at this
  exact this
end
/-- a source of rows -/
theorem srcRows {io : List Addr} {H0 F0 F : Hp} {K : PySem.W.Frag} {b : Addr} {xs : List V} {rs : List (List Int × List Int)} (h : SqL K F b xs) (hv : RowsV F xs rs) : Src (Itl K b) io H0 F0 F [] rs (fun r x F' => RowV F' x r) := by
  refine ⟨_, _, hv.len ▸ walk_list (xs := xs), fun F' H' M' S e _ => S.rdL e h, fun i r x F' H' H'' M' hr S e _ y => ?_⟩
  obtain ⟨rfl, y⟩ := y
  obtain ⟨x', e1, e2⟩ := hv.get hr
  rw [e1] at y
  cases y
  exact ⟨F', S, Evl.Ex.refl _, e2.ex e⟩
/-- lists of houses of a run that is handed in -/
structure RowsOk (many : Int) (rs : List (List Int × List Int)) (left : List Int) : Prop where
  rows : ∀ r ∈ rs, SetOk many r.1 ∧ SetOk many r.2
  left' : SetOk many left
/-! ### len(set(xs)) of any list of ints: a number told by the ints -/
def cntI (ns : List Int) : Nat := (PyProof.Rows.firstMet (fun i => ns.getD i 0) ns.length).length
section
variable {X : Cx}
def tLenSetG (K : PySem.W.Frag) (ta : TE) : TE := fun σ H Q => ta σ H fun x H1 => ∃ (l : Addr) (ns : List Int), x = V.ref l ∧ SqL K H1 l (ns.map V.int) ∧ ns.length ≤ 4000 ∧ Q (.int (cntI ns)) H1
theorem pe_lenSetG {a : Expr} {ta : TE} {p p2 q pos : Pos} (hc : X.calm = true) (hg : Gl X "len") (hm : X.mg "len" = none) (hg2 : Gl X "set") (hm2 : X.mg "set" = none) (ha : PE X a ta)
    (na : starEach [a] X.env = (false, eval a X.env) :: starEach [] X.env := by rfl) : PE X (.Call (.Name "len" p) [.Call (.Name "set" p2) [a] [] q] [] pos) (tLenSetG X.K ta) := by
  refine ⟨fun pins s σ H Q I h => ?_⟩
  refine Call_ (ld_blt I hg hm PySem.boot_len ?_)
  refine PyProof.Rows.callWith_builtin1 (PyProof.Rows.args_cons ?_ rfl) rfl rfl
  refine Call_ (ld_blt I hg2 hm2 PyProof.Rows.boot_set ?_)
  refine PyProof.Rows.callWith_type1 (PyProof.Rows.args_cons (thn (ha.run pins s σ H _ I h) fun v s1 ⟨x, H1, I1, r1, q1⟩ => PyProof.Rows.args_nil ?_) na) na rfl
  obtain ⟨l, ns, rfl, hq, h1, q1⟩ := q1
  cases r1
  obtain ⟨its, r, pl, hz⟩ := I1.list hq
  have hl : its.toArray.size = ns.length := by rw [List.size_toArray, ← r.length, List.length_map]
  refine call_set_list (I1.ok.hd hc) pl.isList (ns := ns) (by simpa using r.ints) (by unfold scanBound; omega) fun h' tk hS hk => ?_
  rw [hl] at hS
  refine PyProof.Rows.args_nil ?_
  have le := PyProof.Rows.firstMet_length_le (fun i => ns.getD i 0) ns.length
  obtain ⟨o, es, ep, t, ho, hex, hd, _, _, _, hf, hn⟩ := hS
  have I2 : Inv X pins σ H1 { s1 with heap := h', toks := tk } := I1.kept fun b o e => hk b o (Heap.lt_size e) e
  refine call_len_set ho hex hd hf (by rw [hn]; omega) ⟨.int (cntI ns), H1, I2.tok _, ⟨_, by rw [hn]; rfl⟩, q1⟩
end
def housesL (ts : List (Int × Int)) : List Int := ts.flatMap fun t => [t.1, t.2]
theorem housesL_snoc {ts : List (Int × Int)} {i : Nat} {t : Int × Int} (h : ts[i]? = some t) : housesL (ts.take (i + 1)) = housesL (ts.take i) ++ [t.1, t.2] := by
  rw [take_snoc h]
  unfold housesL
  rw [List.flatMap_append]
  simp
theorem housesL_len (ts : List (Int × Int)) : (housesL ts).length = 2 * ts.length := by
  unfold housesL
  induction ts with
  | nil => rfl
  | cons t r ih => rw [List.flatMap_cons, List.length_append, ih, List.length_cons]; simp; omega
structure TieL (many : Int) (l : List (Int × Int)) : Prop where
  nd : l.Nodup
  ok : ∀ t ∈ l, 0 ≤ t.1 ∧ t.1 < t.2 ∧ t.2 < many
def pairs60 : List (Int × Int) := (List.range 60).flatMap fun (b : Nat) => (List.range b).map fun (a : Nat) => ((a : Int), (b : Int))
theorem TieL.len {many : Int} {l : List (Int × Int)} (h : TieL many l) (m : many ≤ 60) : l.length ≤ 1770 := by
  have e : pairs60.length = 1770 := by decide +kernel
  rw [← e]
  refine len_le_of_sub h.nd fun t ht => ?_
  obtain ⟨a, b, c⟩ := h.ok t ht
  unfold pairs60
  refine List.mem_flatMap.mpr ⟨t.2.toNat, List.mem_range.mpr (by omega), List.mem_map.mpr ⟨t.1.toNat, List.mem_range.mpr (by omega), ?_⟩⟩
  refine Prod.ext ?_ ?_ <;> simp <;> omega
theorem TieL.sub {many : Int} {l l' : List (Int × Int)} (h : TieL many l) (s : l'.Sublist l) : TieL many l' := ⟨h.nd.sublist s, fun t ht => h.ok t (s.subset ht)⟩
theorem TieL.perm {many : Int} {l l' : List (Int × Int)} (h : TieL many l) (s : l'.Perm l) : TieL many l' := ⟨s.nodup_iff.mpr h.nd, fun t ht => h.ok t (s.mem_iff.mp ht)⟩
section
variable {X : Cx}
/-- set(xs), xs a longer list of ints -/
def rSetN4 (K : PySem.W.Frag) (w : World) : List V → Hp → VK → Prop := fun vs H Q => ∃ (a : Addr) (ns : List Int), vs = [.ref a] ∧ SqL K H a (ns.map V.int) ∧ ns.length ≤ 4000 ∧
  ∀ (q : Addr) (n : Nat), H q = none → n ≤ ns.length → Q (.ref q) (upd H q (SetO w q (fun j => decide (j ∈ ns)) n))
theorem cr_setN4 (hc : X.calm = true) : CallR X (.type "set") (rSetN4 X.K X.w) := by
  intro pins s σ H vs us Q I r h
  obtain ⟨a, ns, rfl, hs, hl, q⟩ := h
  obtain ⟨its, rv, pl, hz⟩ := I.list hs
  rw [Vals.ref1 r]
  refine call_set_ofList ns (I.ok.hd hc) pl.isList (by simpa using rv.ints) (Nat.lt_of_le_of_lt (Nat.add_le_add_right hl 1) (by decide)) fun g tk n S hn kp => ?_
  exact ⟨.ref _, _, I.laid (t' := tk) kp (Nat.le_refl _) (setO_new S), rfl, q _ n I.fresh hn⟩
end
section
variable {io : List Addr} {H0 F0 F H : Hp} {M : List (Addr × Cel)} {K : PySem.W.Frag} {w : World} {Q : VK} {a : Addr} {ns : List Int}
theorem s_setN4 (S : Sep io H0 F0 F H M) (h : SqL K H a (ns.map V.int)) (hl : ns.length ≤ 4000) (k : ∀ (q : Addr) (n : Nat) (F' H' : Hp), n ≤ ns.length → Sep io H0 F0 F' H' M → Evl.Ex F F' → F' q = some (SetO w q (fun j => decide (j ∈ ns)) n) → Q (.ref q) H') : rSetN4 K w [.ref a] H Q :=
  ⟨a, ns, rfl, h, hl, fun q n hq hn => k q n _ _ hn (S.newF hq _) (Evl.Ex.new (S.fnone hq)) upd_same⟩
end
section
open HT

/-! ### t[::-1] of a tuple; a < b < c < d -/
theorem fm_congr {α β : Type} {f g : α → Option β} : ∀ {l : List α}, (∀ a ∈ l, f a = g a) → l.filterMap f = l.filterMap g
  | [], _ => rfl
  | a :: l, h => by rw [List.filterMap_cons, List.filterMap_cons, h a List.mem_cons_self, fm_congr (l := l) fun b hb => h b (List.mem_cons_of_mem _ hb)]
theorem adjust_rev (n : Nat) : Builtin.Slice.sliceAdjust none none (-1) (n : Int) = ((n : Int) - 1, -1) := rfl
theorem places_rev (n : Nat) : Builtin.Slice.slicePlaces ((n : Int) - 1) (-1) (-1) = n := by
  unfold Builtin.Slice.slicePlaces
  rw [if_neg (by decide)]
  by_cases h : (n : Int) - 1 > -1
  · rw [if_pos h]
    have : ((n : Int) - 1 - -1 - 1) / (- -1) + 1 = (n : Int) := by rw [show (- -1 : Int) = 1 by decide, Int.ediv_one]; omega
    rw [this]
    exact Int.toNat_natCast n
  · rw [if_neg h]
    have : n = 0 := by omega
    subst this
    rfl
section
variable {prog : Program} {w : World} {A : Around} {E : Value → Shared → Prop} {s : Shared}
theorem sliceApplied_rev {sl : Addr} {vl vu vs : Value} {n : Nat} {Q : Int × Int × Nat → Shared → Prop} (hs : s.heap.IsSliceOf sl vl vu vs) (pl : IsPart vl none) (pu : IsPart vu none) (ps : IsPart vs (some (-1)))
    (h : Q ((n : Int) - 1, -1, n) s) : wpAny (model prog w) A (Builtin.Slice.sliceApplied (.ref sl) (pure (n : Int))) Q E s := by
  obtain ⟨os, hos, hcs, hds⟩ := id hs
  unfold Builtin.Slice.sliceApplied Builtin.Slice.sliceFields
  refine wpAny_bind (wpAny_bind (wpAny_field hos hds (x := vl) rfl (wpAny_bind (wpAny_field hos hds (x := vu) rfl (wpAny_bind (wpAny_field hos hds (x := vs) rfl (wpAny_pure ?_)))))))
  refine wpAny_bind (slicePart_ ps ?_)
  show wpAny _ _ (if ((-1 : Int) == 0) = true then _ else _) _ _ s
  rw [if_neg (by decide)]
  refine wpAny_bind (slicePart_ pl (wpAny_bind (slicePart_ pu (wpAny_bind (wpAny_pure ?_)))))
  show wpAny _ _ (match Builtin.Slice.sliceAdjust none none (-1) (n : Int) with | (lo, hi) => pure (lo, (-1 : Int), Builtin.Slice.slicePlaces lo hi (-1))) _ _ s
  rw [adjust_rev n]
  show wpAny _ _ (pure ((n : Int) - 1, (-1 : Int), Builtin.Slice.slicePlaces ((n : Int) - 1) (-1) (-1))) _ _ s
  rw [places_rev]
  exact wpAny_pure h
theorem pick_rev (xs : Array Value) : ((List.range xs.size).filterMap fun (m : Nat) => xs[(((xs.size : Nat) : Int) - 1 + (m : Int) * (-1)).toNat]?).toArray = xs.toList.reverse.toArray := by
  congr 1
  have h : ∀ m ∈ List.range xs.size, xs[(((xs.size : Nat) : Int) - 1 + (m : Int) * (-1)).toNat]? = xs.toList.reverse[m]? := fun m hm => by
    have := List.mem_range.mp hm
    rw [show (((xs.size : Nat) : Int) - 1 + (m : Int) * (-1)).toNat = xs.size - 1 - m by omega, List.getElem?_reverse (by rw [Array.length_toList]; exact this), Array.length_toList, Array.getElem?_toList]
  rw [fm_congr h]
  have e : xs.size = xs.toList.reverse.length := by rw [List.length_reverse, Array.length_toList]
  rw [e]
  generalize xs.toList.reverse = l
  clear h e
  induction l with
  | nil => rfl
  | cons a r ih =>
    rw [List.length_cons, List.range_succ_eq_map, List.filterMap_cons, List.filterMap_map]
    simp only [List.getElem?_cons_zero]
    congr 1
theorem getItem_tuple_rev {t sl : Addr} {items : Array Value} {vl vu vs : Value} {Q : Value → Shared → Prop} (ht : IsTup s.heap t items) (hs : s.heap.IsSliceOf sl vl vu vs) (pl : IsPart vl none) (pu : IsPart vu none) (ps : IsPart vs (some (-1)))
    (h : Q (.ref s.heap.objs.size) { s with heap := s.heap.push { cls := .type "tuple", data := .seq items.toList.reverse.toArray } })
    (hsz : items.size ≤ sizeLine) : wpAny (model prog w) A (getItem (.ref t) (.ref sl)) Q E s := by
  have htake : sizeOk (.seq items.toList.reverse.toArray) := by
    show items.toList.reverse.toArray.size ≤ sizeLine
    rw [List.size_toArray, List.length_reverse, Array.length_toList]
    exact hsz
  obtain ⟨os, hos, hcs, hds⟩ := id hs
  have hTs : s.TypeIs (.ref sl) "slice" := ⟨os, hos, hcs⟩
  unfold getItem
  try with_reducible refine wpAny_holding ?_
  first | refine wpAny_bind (wpAny_pure ?_) | skip
  refine wpAny_bind (wpAny_sequenceKey ht.typeIs (by decide) ?_)
  refine wpAny_bind (wpAny_callSpecial?_slot (name := Str.ofString "__getitem__") ht.typeIs PyProof.Rows.slot_tuple_getitem
    (wpAny_call_entry PyProof.Rows.slot_tuple_getitem ht.typeIs entry_tuple_getitem ?_ (args_tuple_getitem _ _)))
  show wpAny _ _ (Builtin.Tuple.tupleItemsOf (.ref t) >>= _) _ _ s
  refine wpAny_bind (tupleItemsOf_ ht ?_)
  refine wpAny_bind (wpAny_typeOf hTs ?_)
  rw [if_pos (by decide)]
  refine wpAny_bind (sliceApplied_rev hs pl pu ps ?_)
  have hno : ¬ ((((items.size : Nat) : Int) - 1 == 0 && (-1 : Int) == 1 && items.size == items.size) = true) := by
    intro q
    rw [Bool.and_eq_true, Bool.and_eq_true] at q
    exact absurd q.1.2 (by decide)
  show wpAny _ _ (if ((((items.size : Nat) : Int) - 1 == 0 && (-1 : Int) == 1 && items.size == items.size) = true) then _ else _) _ _ s
  rw [if_neg hno, pick_rev]
  first
    | exact wpAny_bind (m := Builtin.Tuple.tupleExact _) (wpAny_newObj_type (wpAny_pure ⟨_, rfl, wpAny_pure h⟩) htake)
    | exact wpAny_bind (m := Builtin.Tuple.tupleExact _) (wpAny_newObj_type (wpAny_bind (wpAny_pure (wpAny_pure ⟨_, rfl, wpAny_pure h⟩))) htake)
    | exact wpAny_bind (wpAny_bind (m := Builtin.Tuple.tupleExact _) (wpAny_newObj_type (wpAny_pure (wpAny_pure ⟨_, rfl, wpAny_pure h⟩)) htake))
    | exact wpAny_bind (wpAny_bind (m := Builtin.Tuple.tupleExact _) (wpAny_newObj_type (wpAny_pure ⟨_, rfl, wpAny_pure h⟩) htake))
end
section
variable {X : Cx}
def tRevT (K : PySem.W.Frag) (te : TE) : TE := fun σ H Q => te σ H fun x H1 => ∃ a xs, x = .ref a ∧ SqT K H1 a xs ∧ newK H1 (.tup xs.reverse) Q
theorem pe_revT {e : Expr} {te : TE} {k : Nat} {p1 p2 p3 pos : Pos} (he : PE X e te) : PE X (.Subscript e (.Slice none none (some (.UnaryOp .USub (.Constant (.int 1) k p1) p2)) p3) pos) (tRevT X.K te) := by
  refine ⟨fun pins s σ H Q I h => ?_⟩
  refine Subscript_ (thn (he.run pins s σ H _ I h) fun v s1 ⟨x, H1, I1, r1, q1⟩ => ?_)
  obtain ⟨a, xs, ex, hx, q⟩ := q1
  subst ex
  cases r1
  have hst : PO X (some (.UnaryOp .USub (.Constant (.int 1) k p1) p2)) (tPart (tUn (rU fun i => .int (-i)) (tC (.int 1)))) := po_some (pe_un un_neg pe_int)
  refine wpAny_Slice (thn (po_none.run pins s1 σ H1 (fun o H2 => o = none ∧ H2 = H1) I1 ⟨rfl, rfl⟩) fun vl s2 ⟨l, H2, I2, pl, el, e2⟩ => ?_)
  subst el e2
  refine thn (po_none.run pins s2 σ H2 (fun o H3 => o = none ∧ H3 = H2) I2 ⟨rfl, rfl⟩) fun vu s3 ⟨u, H3, I3, pu, eu, e3⟩ => ?_
  subst eu e3
  refine thn (hst.run pins s3 σ H3 (fun o H4 => o = some (-1) ∧ H4 = H3) I3 ⟨1, rfl, -1, rfl, rfl, rfl⟩) fun vs s4 ⟨o, H4, I4, ps, eo, e4⟩ => ?_
  subst eo e4
  have I5 : Inv X pins σ H4 { s4 with heap := s4.heap.push { cls := .type "slice", data := .fields #[vl, vu, vs] } } := I4.kept (t' := s4.toks) fun b ob q => Heap.get?_push_of_some _ q
  obtain ⟨its, r, ht, hz⟩ := I5.tuple hx
  have hlen := r.length
  show wpAny (model X.prog X.w) X.A (subscriptTail e (.Slice none none (some (.UnaryOp .USub (.Constant (.int 1) k p1) p2)) p3) (.ref a) (.ref s4.heap.objs.size)) (EP X pins σ Q) X.xe { s4 with heap := s4.heap.push { cls := .type "slice", data := .fields #[vl, vu, vs] } }
  refine tail_any (ops := [.ref a, .ref s4.heap.objs.size]) ht.typeIs (PyProof.Rows.slot_tuple_getitem.lookup) ?_ (by with_unfolding_all rfl)
  refine getItem_tuple_rev ht (Heap.IsSliceOf.new _ vl vu vs) pl pu ps ?_ (by rw [List.size_toArray]; omega)
  refine ⟨.ref _, _, I5.laid (t' := s4.toks) (o := .tup xs.reverse) (fun b ob q => Heap.get?_push_of_some _ q) (Nat.le_refl _) ?_, rfl, q _ (I5.hok.fresh (Nat.le_refl _))⟩
  exact ⟨by rw [List.length_reverse]; exact hz, _, r.reverse, IsTup.new _ _⟩
def tChain3 (r1 r2 r3 : R2) (ta tb tc td : TE) : TE := fun σ H Q => ta σ H fun x H1 => tb σ H1 fun y H2 => r1 x y H2 fun z H3 => ∃ k, z = .bl k ∧
  (if k = true then tc σ H3 fun w' H4 => r2 y w' H4 fun z' H5 => ∃ k', z' = .bl k' ∧ (if k' = true then td σ H5 fun u' H6 => r3 w' u' H6 Q else Q (.bl false) H5) else Q (.bl false) H3)
theorem pe_chain3 {a b c d : Expr} {ta tb tc td : TE} {pos : Pos} {o1 o2 o3 : CmpOp} {r1 r2 r3 : R2} (h1 : OpR X (compareOp o1) r1) (h2 : OpR X (compareOp o2) r2) (h3 : OpR X (compareOp o3) r3) (ha : PE X a ta) (hb : PE X b tb) (hc : PE X c tc) (hd : PE X d td)
    (hm : lastMarks [o1, o2, o3] [b, c, d] = false := by with_unfolding_all rfl) : PE X (.Compare a [o1, o2, o3] [b, c, d] pos) (tChain3 r1 r2 r3 ta tb tc td) := by
  refine ⟨fun pins s σ H Q I h => ?_⟩
  refine Compare_chain (thn (ha.run pins s σ H _ I h) fun v s1 ⟨x, H1, I1, q1r, q1⟩ => chain_link (thn (hb.run pins s1 σ H1 _ I1 q1) fun u s2 ⟨y, H2, I2, q2r, q2⟩ =>
    thn (h1 pins s2 σ H2 x y v u _ I2 q1r q2r q2) fun dd s3 ⟨z, H3, I3, q3r, k, e, q3⟩ => ?_)) hm
  subst e
  cases q3r
  refine wpAny_truthy_bool ?_
  cases k with
  | false => exact ite_ff ⟨.bl false, H3, I3, rfl, q3⟩
  | true =>
    refine ite_tt (chain_link (thn (hc.run pins s3 σ H3 _ I3 q3) fun w' s4 ⟨z', H4, I4, q4r, q4⟩ => thn (h2 pins s4 σ H4 y z' u w' _ I4 q2r q4r q4) fun dd s5 ⟨z5, H5, I5, q5r, k', e, q5⟩ => ?_))
    subst e
    cases q5r
    refine wpAny_truthy_bool ?_
    cases k' with
    | false => exact ite_ff ⟨.bl false, H5, I5, rfl, q5⟩
    | true => exact ite_tt (chain_last (thn (hd.run pins s5 σ H5 _ I5 q5) fun u' s6 ⟨z6, H6, I6, q6r, q6⟩ => h3 pins s6 σ H6 z' z6 w' u' Q I6 q4r q6r q6))
end

end
/-! ### the pairs of combinations(range(n), 2), as a list -/
def rowC (n i : Nat) : List (Nat × Nat) := (List.range' (i + 1) (n - i - 1)).map fun j => (i, j)
def pairsR (n : Nat) : List (Nat × Nat) := (List.range' 0 n).flatMap (rowC n)
def restC (n : Nat) (p : Nat × Nat) : List (Nat × Nat) := (List.range' p.2 (n - p.2)).map (fun j => (p.1, j)) ++ (List.range' (p.1 + 1) (n - p.1 - 1)).flatMap (rowC n)
theorem range'_cons {a m : Nat} (h : 0 < m) : List.range' a m = a :: List.range' (a + 1) (m - 1) := by
  obtain ⟨k, rfl⟩ : ∃ k, m = k + 1 := ⟨m - 1, by omega⟩
  rw [List.range'_succ]
  rfl
theorem restC_step {n : Nat} {p : Nat × Nat} (h1 : p.1 < p.2) (h2 : p.2 < n) : restC n p = p :: (match nextC n p with | none => [] | some q => restC n q) := by
  obtain ⟨i, j⟩ := p
  simp only at h1 h2
  unfold restC nextC
  simp only
  rw [range'_cons (show 0 < n - j by omega), List.map_cons, List.cons_append]
  congr 1
  by_cases a : j + 1 < n
  · rw [if_pos a]
    simp only
    rw [show n - j - 1 = n - (j + 1) by omega]
  · rw [if_neg a, show n - j - 1 = 0 by omega]
    by_cases b : i + 2 < n
    · rw [if_pos b]
      simp only
      rw [range'_cons (show 0 < n - i - 1 by omega), List.flatMap_cons]
      show [] ++ _ = _
      rw [List.nil_append]
      rfl
    · rw [if_neg b]
      have e : n - i - 1 = 1 := by omega
      rw [e]
      show [] ++ (rowC n (i + 1) ++ []) = []
      unfold rowC
      rw [show n - (i + 1) - 1 = 0 by omega]
      rfl
theorem pairsR_drop (n : Nat) : ∀ k, (pairsR n).drop k = match atC n k with | none => [] | some p => restC n p
  | 0 => by
    unfold atC
    by_cases h : 2 ≤ n
    · rw [if_pos h]
      unfold pairsR restC
      simp only
      rw [range'_cons (show 0 < n by omega), List.flatMap_cons]
      show rowC n 0 ++ _ = _
      unfold rowC
      rw [show n - 0 - 1 = n - 1 by omega]
    · rw [if_neg h]
      unfold pairsR
      have : n = 0 ∨ n = 1 := by omega
      rcases this with rfl | rfl
      · rfl
      · rfl
  | k + 1 => by
    have ih := pairsR_drop n k
    rw [show (pairsR n).drop (k + 1) = ((pairsR n).drop k).drop 1 by rw [List.drop_drop], ih]
    show _ = match (atC n k).bind (nextC n) with | none => [] | some p => restC n p
    cases q : atC n k with
    | none => rfl
    | some p =>
      have ok := atC_ok q
      simp only
      rw [restC_step ok.1 ok.2]
      rfl
theorem atC_pairsR (n k : Nat) : atC n k = (pairsR n)[k]? := by
  rw [← List.head?_drop, pairsR_drop]
  cases q : atC n k with
  | none => rfl
  | some p =>
    have ok := atC_ok q
    simp only
    rw [restC_step ok.1 ok.2]
    rfl
def pairI (p : Nat × Nat) : Int × Int := ((p.1 : Int), (p.2 : Int))
def pairsI (n : Nat) : List (Int × Int) := (pairsR n).map pairI
theorem pairsR_mem {n : Nat} {p : Nat × Nat} : p ∈ pairsR n ↔ p.1 < p.2 ∧ p.2 < n := by
  obtain ⟨i, j⟩ := p
  unfold pairsR rowC
  simp only [List.mem_flatMap, List.mem_map, List.mem_range'_1, Prod.mk.injEq]
  constructor
  · rintro ⟨a, _, b, _, rfl, rfl⟩
    omega
  · intro h
    exact ⟨i, by omega, j, by omega, rfl, rfl⟩
theorem pairsI_mem {n : Nat} {t : Int × Int} : t ∈ pairsI n ↔ 0 ≤ t.1 ∧ t.1 < t.2 ∧ t.2 < (n : Int) := by
  unfold pairsI
  rw [List.mem_map]
  constructor
  · rintro ⟨p, hp, rfl⟩
    have := pairsR_mem.mp hp
    unfold pairI
    simp only
    omega
  · intro h
    refine ⟨(t.1.toNat, t.2.toNat), pairsR_mem.mpr ⟨by simp only; omega, by simp only; omega⟩, ?_⟩
    unfold pairI
    refine Prod.ext ?_ ?_
    · simp only; omega
    · simp only; omega
theorem flat_lx {L : List Nat} (n : Nat) (h : L.Pairwise (· < ·)) : (L.flatMap (rowC n)).Pairwise fun a b : Nat × Nat => a.1 < b.1 ∨ (a.1 = b.1 ∧ a.2 < b.2) := by
  induction L with
  | nil => exact .nil
  | cons i r ih =>
    rw [List.flatMap_cons]
    have h := List.pairwise_cons.mp h
    refine List.pairwise_append.mpr ⟨?_, ih h.2, ?_⟩
    · unfold rowC
      refine List.Pairwise.map _ (fun a b (q : a < b) => .inr ⟨rfl, q⟩) (List.pairwise_lt_range' (s := i + 1) (n := n - i - 1))
    · intro a ha b hb
      obtain ⟨x, hx, hb⟩ := List.mem_flatMap.mp hb
      unfold rowC at ha hb
      obtain ⟨_, _, rfl⟩ := List.mem_map.mp ha
      obtain ⟨_, _, rfl⟩ := List.mem_map.mp hb
      exact .inl (h.1 x hx)
theorem pairsI_up (n : Nat) : (pairsI n).Pairwise Lx := by
  unfold pairsI
  refine List.Pairwise.map _ (fun a b h => ?_) (flat_lx n (List.pairwise_lt_range' (s := 0) (n := n)))
  unfold Lx pairI
  simp only
  omega
theorem flat_len (n : Nat) (L : List Nat) (h : ∀ i ∈ L, i < n) : (L.flatMap (rowC n)).length ≤ L.length * n := by
  induction L with
  | nil => simp
  | cons i r ih =>
    rw [List.flatMap_cons, List.length_append, List.length_cons, Nat.succ_mul]
    have := ih fun j hj => h j (List.mem_cons_of_mem _ hj)
    have e : (rowC n i).length = n - i - 1 := by unfold rowC; rw [List.length_map, List.length_range']
    omega
theorem pairsI_len (n : Nat) : (pairsI n).length ≤ n * n := by
  unfold pairsI pairsR
  rw [List.length_map]
  have := flat_len n (List.range' 0 n) fun i hi => by rw [List.mem_range'_1] at hi; omega
  rw [List.length_range'] at this
  exact this
section
variable {io : List Addr} {H0 F0 F : Hp}
theorem srcC {n : Nat} : Src (ItCm n) io H0 F0 F [] (pairsI n) (fun p x F' => ∃ t, x = .ref t ∧ F' t = some (.tup [.int p.1, .int p.2])) := by
  have hl : (pairsI n).length = (pairsR n).length := List.length_map _
  refine ⟨fun _ => True, fun k H v H' => ∃ T p, v = .ref T ∧ H T = none ∧ atC n k = some p ∧ H' = upd H T (.tup [.int (p.1 : Int), .int (p.2 : Int)]), ⟨fun i H hi _ => ?_, fun H _ => ?_, fun i H x H' hi _ y => y⟩, fun _ _ _ _ _ _ => trivial, fun i a x F' H' H'' M' ha S e _ y => ?_⟩
  · show (atC n i).isSome = true
    rw [atC_pairsR, List.getElem?_eq_getElem (by omega)]
    rfl
  · show atC n _ = none
    rw [atC_pairsR]
    exact List.getElem?_eq_none (by omega)
  · obtain ⟨T, p, rfl, hT, hp, rfl⟩ := y
    rw [atC_pairsR] at hp
    unfold pairsI at ha
    rw [List.getElem?_map, hp] at ha
    cases ha
    exact ⟨_, S.newF hT _, Evl.Ex.new (S.fnone hT), T, rfl, upd_same⟩
end
theorem r_inT2 {K : PySem.W.Frag} {H : Hp} {Q : VK} {p : Addr} {x y a : Int} (h : SqT K H p [.int x, .int y]) (q : Q (.bl (decide (a ∈ [x, y]))) H) : rIn K false (.int a) (.ref p) H Q :=
  ⟨p, [x, y].map V.int, rfl, .inr h, rfl, flat_int _, by rw [if_neg (by decide), inV_int]; exact q⟩
theorem inR2 (a x y : Int) : (if false = true then !inV (.int a) [V.int x, V.int y] else inV (.int a) [V.int x, V.int y]) = decide (a ∈ [x, y]) := by
  have := inV_int a [x, y]
  rw [if_neg (by decide)]
  exact this
theorem r_chain {σ : L2.St} {H : Hp} {Q : VK} {r r' : R2} {ta tb tc : TE} (h : ta σ H fun x H1 => tb σ H1 fun y H2 => r x y H2 fun z H3 => ∃ k, z = .bl k ∧ (if k = true then tc σ H3 fun w' H4 => r' y w' H4 Q else Q (.bl false) H3)) : tChain r r' ta tb tc σ H Q := h
/-! ### the web of ties -/
def touchP (t u : Int × Int) : Bool := decide (t.1 ∈ [u.1, u.2]) || decide (t.2 ∈ [u.1, u.2])
def touchAt (ties : List (Int × Int)) (p : Int × Int) : Bool := touchP (ties.getD p.1.toNat (0, 0)) (ties.getD p.2.toNat (0, 0))
def touchesOf (ties : List (Int × Int)) : List (Int × Int) := (pairsI ties.length).filter (touchAt ties)
theorem touches_ok {ties : List (Int × Int)} (h1 : 1 ≤ ties.length) (h2 : ties.length ≤ 60) : WebOk (ties.length : Int) (touchesOf ties) :=
  ⟨by omega, by omega, fun t ht => by
    have := pairsI_mem.mp (List.mem_filter.mp ht).1
    omega, (pairsI_up _).sublist List.filter_sublist⟩
theorem tie_nth {K : PySem.W.Frag} {F : Hp} {ws : List V} {ties : List (Int × Int)} {j : Int} (h : DpAll K F ws (ties.map tieD)) (h0 : 0 ≤ j) (h1 : j < (ties.length : Int)) : ∃ x t, atI ws j = some x ∧ ties.getD j.toNat (0, 0) = t ∧ Dp K F x (tieD t) := by
  have wl := (dpAll_get h).1
  rw [List.length_map] at wl
  have lt : j.toNat < ws.length := by omega
  obtain ⟨d, e1, e2⟩ := (dpAll_get h).2 j.toNat ws[j.toNat] (List.getElem?_eq_getElem lt)
  have lt2 : j.toNat < ties.length := by omega
  rw [List.getElem?_map, List.getElem?_eq_getElem lt2] at e1
  cases e1
  exact ⟨ws[j.toNat], ties[j.toNat], atI_of h0 (List.getElem?_eq_getElem lt), by rw [List.getD_eq_getElem?_getD, List.getElem?_eq_getElem lt2]; rfl, e2⟩
theorem picked_range {many : Int} {ties : List (Int × Int)} {names : List Int} {j : Int} (h : j ∈ pickedOf many ties names) : 0 ≤ j ∧ j < many := (picked_mem.mp h).1
theorem picked_few {many : Int} {ties : List (Int × Int)} {names : List Int} (W : WebOk many ties) : (pickedOf many ties names).length ≤ 60 := by
  have := List.length_filter_le (fun h => (rowOf many ties names h).1) (rgI many)
  rw [rgI_len] at this
  have := W.hi
  unfold pickedOf
  omega
theorem r_iComb {f : L2.St → Hp → (Int → Int → Hp → Prop) → Prop} {σ : L2.St} {H : Hp} {R : It → Hp → Prop} (h : f σ H fun a b H1 => RgOk a b ∧ a = 0 ∧ R (ItCm b.toNat) H1) : iComb f σ H R := h
/-! ### pairings by names -/
def pairB (ts : List (Int × Int)) : Bool := decide ((cntI (housesL ts) : Int) = ((housesL ts).length : Int))
def fullB (ties ts : List (Int × Int)) : Bool := pairB ts && ties.all fun t => decide (t.1 ∈ housesL ts) || decide (t.2 ∈ housesL ts)
def pairOfN (ties : List (Int × Int)) (names : List Int) : List (Int × Int) := (pickedOf (ties.length : Int) (touchesOf ties) names).map fun j => ties.getD j.toNat (0, 0)
theorem touchP_iff {t u : Int × Int} : touchP t u = true ↔ t.1 = u.1 ∨ t.1 = u.2 ∨ t.2 = u.1 ∨ t.2 = u.2 := by
  unfold touchP
  simp [or_assoc]
theorem touchP_sym (t u : Int × Int) : touchP t u = touchP u t := by
  rw [Bool.eq_iff_iff, touchP_iff, touchP_iff]
  omega
theorem touchP_self (t : Int × Int) : touchP t t = true := touchP_iff.mpr (.inl rfl)
section
variable {ties : List (Int × Int)} {names : List Int} {many : Int}
theorem touch_nbr (h1 : 1 ≤ ties.length) (h2 : ties.length ≤ 60) {j o : Int} (hj : 0 ≤ j ∧ j < (ties.length : Int)) (ho : 0 ≤ o ∧ o < (ties.length : Int)) : o ∈ nbr (touchesOf ties) j ↔ j ≠ o ∧ touchAt ties (j, o) = true := by
  rw [nbr_iff (touches_ok h1 h2)]
  unfold touchesOf
  rw [List.mem_filter, List.mem_filter, pairsI_mem, pairsI_mem]
  have e : touchAt ties (o, j) = touchAt ties (j, o) := by unfold touchAt; exact touchP_sym _ _
  rw [e]
  simp only
  constructor
  · rintro (⟨a, b⟩ | ⟨a, b⟩)
    · exact ⟨by omega, b⟩
    · exact ⟨by omega, b⟩
  · rintro ⟨a, b⟩
    rcases (show j < o ∨ o < j by omega) with q | q
    · exact .inl ⟨by omega, b⟩
    · exact .inr ⟨by omega, b⟩
/-- no two that are picked touch -/
theorem pick_apart (h1 : 1 ≤ ties.length) (h2 : ties.length ≤ 60) (N : NamesOk (ties.length : Int) names) {j o : Int} (hj : j ∈ pickedOf (ties.length : Int) (touchesOf ties) names) (ho : o ∈ pickedOf (ties.length : Int) (touchesOf ties) names) (ne : j ≠ o) : touchAt ties (j, o) = false := by
  rw [Bool.eq_false_iff]
  intro c
  have hj := picked_mem.mp hj
  have ho := picked_mem.mp ho
  have := picked_free (touches_ok h1 h2) N hj.1 ((touch_nbr h1 h2 hj.1 ho.1).mpr ⟨ne, c⟩) hj.2
  rw [this] at ho
  cases ho.2
/-- each tie touches one that is picked -/
theorem pick_near (h1 : 1 ≤ ties.length) (h2 : ties.length ≤ 60) {j : Int} (hj : 0 ≤ j ∧ j < (ties.length : Int)) : ∃ o ∈ pickedOf (ties.length : Int) (touchesOf ties) names, touchAt ties (j, o) = true := by
  cases c : (rowOf (ties.length : Int) (touchesOf ties) names j).1 with
  | true => exact ⟨j, picked_mem.mpr ⟨hj, c⟩, by unfold touchAt; exact touchP_self _⟩
  | false =>
    obtain ⟨o, ho, co⟩ := picked_near (touches_ok h1 h2) hj c
    have ho' := (List.mem_filter.mp ho).1
    have r := nbr_range (touches_ok h1 h2) ho'
    exact ⟨o, picked_mem.mpr ⟨r, co⟩, ((touch_nbr h1 h2 hj r).mp ho').2⟩
theorem mem_housesL {x : Int} {ts : List (Int × Int)} : x ∈ housesL ts ↔ ∃ t ∈ ts, x = t.1 ∨ x = t.2 := by
  unfold housesL
  rw [List.mem_flatMap]
  constructor
  · rintro ⟨t, ht, m⟩
    exact ⟨t, ht, by simpa using m⟩
  · rintro ⟨t, ht, m⟩
    exact ⟨t, ht, by simpa using m⟩
theorem touch_houses {t : Int × Int} {ts : List (Int × Int)} : (decide (t.1 ∈ housesL ts) || decide (t.2 ∈ housesL ts)) = true ↔ ∃ u ∈ ts, touchP t u = true := by
  rw [Bool.or_eq_true, decide_eq_true_eq, decide_eq_true_eq, mem_housesL, mem_housesL]
  constructor
  · rintro (⟨u, hu, q⟩ | ⟨u, hu, q⟩)
    · exact ⟨u, hu, touchP_iff.mpr (by omega)⟩
    · exact ⟨u, hu, touchP_iff.mpr (by omega)⟩
  · rintro ⟨u, hu, q⟩
    have := touchP_iff.mp q
    rcases this with z | z | z | z
    · exact .inl ⟨u, hu, .inl z⟩
    · exact .inl ⟨u, hu, .inr z⟩
    · exact .inr ⟨u, hu, .inl z⟩
    · exact .inr ⟨u, hu, .inr z⟩
/-- houses of a list of ties, no two of which touch -/
theorem houses_nodup {ts : List (Int × Int)} (ne : ∀ t ∈ ts, t.1 ≠ t.2) (h : ts.Pairwise fun t u => touchP t u = false) : (housesL ts).Nodup := by
  induction ts with
  | nil => exact .nil
  | cons t r ih =>
    have h := List.pairwise_cons.mp h
    have e : housesL (t :: r) = [t.1, t.2] ++ housesL r := by unfold housesL; rw [List.flatMap_cons]
    rw [e]
    refine List.nodup_append.mpr ⟨by have := ne t List.mem_cons_self; simp; exact this, ih (fun u hu => ne u (List.mem_cons_of_mem _ hu)) h.2, fun a ha b hb z => ?_⟩
    subst z
    obtain ⟨u, hu, q⟩ := mem_housesL.mp hb
    have c := h.1 u hu
    rw [Bool.eq_false_iff] at c
    refine c (touchP_iff.mpr ?_)
    have ha : a = t.1 ∨ a = t.2 := by simpa using ha
    omega
theorem touch_of_nodup {ts : List (Int × Int)} (h : (housesL ts).Nodup) : ts.Pairwise fun t u => touchP t u = false := by
  induction ts with
  | nil => exact .nil
  | cons t r ih =>
    have e : housesL (t :: r) = [t.1, t.2] ++ housesL r := by unfold housesL; rw [List.flatMap_cons]
    rw [e] at h
    have h := List.nodup_append.mp h
    refine List.pairwise_cons.mpr ⟨fun u hu => ?_, ih h.2.1⟩
    rw [Bool.eq_false_iff]
    intro c
    have m1 : u.1 ∈ housesL r := mem_housesL.mpr ⟨u, hu, .inl rfl⟩
    have m2 : u.2 ∈ housesL r := mem_housesL.mpr ⟨u, hu, .inr rfl⟩
    have d := h.2.2
    rcases touchP_iff.mp c with z | z | z | z
    · exact d t.1 (by simp) u.1 m1 z
    · exact d t.1 (by simp) u.2 m2 z
    · exact d t.2 (by simp) u.1 m1 z
    · exact d t.2 (by simp) u.2 m2 z
theorem dedup_len : ∀ (l acc : List Int), (l.foldl PyProof.Rows.step_dedup acc).length ≤ acc.length + l.length ∧ ((l.foldl PyProof.Rows.step_dedup acc).length = acc.length + l.length ↔ l.Nodup ∧ ∀ x ∈ l, x ∉ acc)
  | [], acc => ⟨Nat.le_refl _, by simp⟩
  | x :: r, acc => by
    rw [List.foldl_cons, List.length_cons]
    by_cases h : x ∈ acc
    · have e : PyProof.Rows.step_dedup acc x = acc := by
        unfold PyProof.Rows.step_dedup
        rw [if_pos (List.any_eq_true.mpr ⟨x, h, by simp⟩)]
      obtain ⟨a, b⟩ := dedup_len r acc
      rw [e]
      refine ⟨by omega, ⟨fun z => by omega, fun z => absurd h (z.2 x List.mem_cons_self)⟩⟩
    · have e : PyProof.Rows.step_dedup acc x = acc ++ [x] := by
        unfold PyProof.Rows.step_dedup
        rw [if_neg (fun q => by
          obtain ⟨y, hy, z⟩ := List.any_eq_true.mp q
          rw [beq_iff_eq] at z
          exact h (z ▸ hy))]
      obtain ⟨a, b⟩ := dedup_len r (acc ++ [x])
      rw [e]
      rw [List.length_append, List.length_singleton] at a b
      refine ⟨by omega, ?_⟩
      rw [show acc.length + (r.length + 1) = acc.length + 1 + r.length by omega, b, List.nodup_cons]
      constructor
      · rintro ⟨n, m⟩
        refine ⟨⟨fun z => m x z (by simp), n⟩, fun y hy q => ?_⟩
        rcases List.mem_cons.mp hy with rfl | hy
        · exact h q
        · exact m y hy (List.mem_append_left _ q)
      · rintro ⟨⟨n1, n⟩, m⟩
        refine ⟨n, fun y hy q => ?_⟩
        rcases List.mem_append.mp q with q | q
        · exact m y (List.mem_cons_of_mem _ hy) q
        · rw [List.mem_singleton] at q
          subst q
          exact n1 hy
theorem cntI_full (ns : List Int) : cntI ns = ns.length ↔ ns.Nodup := by
  have e : (List.range ns.length).map (fun i => ns.getD i 0) = ns := by
    refine List.ext_getElem? fun i => ?_
    rw [List.getElem?_map]
    by_cases h : i < ns.length
    · rw [List.getElem?_range h, List.getElem?_eq_getElem h]
      show some (ns.getD i 0) = _
      rw [List.getD_eq_getElem?_getD, List.getElem?_eq_getElem h]
      rfl
    · rw [List.getElem?_eq_none (by rw [List.length_range]; omega), List.getElem?_eq_none (by omega)]
      rfl
  unfold cntI PyProof.Rows.firstMet
  rw [e]
  have := (dedup_len ns []).2
  rw [List.length_nil, Nat.zero_add] at this
  rw [this]
  simp
theorem pairB_iff {ts : List (Int × Int)} : pairB ts = true ↔ (housesL ts).Nodup := by
  unfold pairB
  rw [decide_eq_true_eq, ← cntI_full]
  omega
structure TiesOk (ties : List (Int × Int)) : Prop where
  lo : 1 ≤ ties.length
  hi : ties.length ≤ 60
  nd : ties.Nodup
  ne : ∀ t ∈ ties, t.1 ≠ t.2
theorem WebOk.tiesOk (W : WebOk many ties) (h1 : 1 ≤ ties.length) (h2 : ties.length ≤ 60) : TiesOk ties :=
  ⟨h1, h2, W.up.imp fun h e => by subst e; unfold Lx at h; omega, fun t ht => by have := W.ok t ht; omega⟩
theorem getD_mem {j : Int} (hj : 0 ≤ j ∧ j < (ties.length : Int)) : ties.getD j.toNat (0, 0) ∈ ties ∧ ties[j.toNat]? = some (ties.getD j.toNat (0, 0)) := by
  have lt : j.toNat < ties.length := by omega
  have e : ties[j.toNat]? = some (ties.getD j.toNat (0, 0)) := by
    rw [List.getD_eq_getElem?_getD, List.getElem?_eq_getElem lt]
    rfl
  exact ⟨List.mem_of_getElem? e, e⟩
theorem pairOfN_mem {t : Int × Int} : t ∈ pairOfN ties names ↔ ∃ j ∈ pickedOf (ties.length : Int) (touchesOf ties) names, ties.getD j.toNat (0, 0) = t := List.mem_map
theorem pairOfN_sub {t : Int × Int} (h : t ∈ pairOfN ties names) : t ∈ ties := by
  obtain ⟨j, hj, rfl⟩ := pairOfN_mem.mp h
  exact (getD_mem (picked_range hj)).1
theorem pairOfN_apart (O : TiesOk ties) (N : NamesOk (ties.length : Int) names) : (pairOfN ties names).Pairwise fun t u => touchP t u = false := by
  unfold pairOfN
  refine List.pairwise_map.mpr (List.Pairwise.imp_of_mem (R := fun a b => a < b) ?_ ((rgI_up _).filter _))
  intro a b ha hb lt
  exact pick_apart O.lo O.hi N ha hb (by omega)
theorem pairOfN_near (O : TiesOk ties) {t : Int × Int} (h : t ∈ ties) : ∃ u ∈ pairOfN ties names, touchP t u = true := by
  obtain ⟨i, hi⟩ := List.mem_iff_getElem?.mp h
  have lt := (List.getElem?_eq_some_iff.mp hi).1
  obtain ⟨o, ho, c⟩ := pick_near (names := names) O.lo O.hi (j := (i : Int)) ⟨by omega, by omega⟩
  refine ⟨_, pairOfN_mem.mpr ⟨o, ho, rfl⟩, ?_⟩
  unfold touchAt at c
  have e : ties.getD i (0, 0) = t := by rw [List.getD_eq_getElem?_getD, hi]; rfl
  simp only [Int.toNat_natCast] at c
  rw [e] at c
  exact c
theorem pairOfN_pair (O : TiesOk ties) (N : NamesOk (ties.length : Int) names) : pairB (pairOfN ties names) = true :=
  pairB_iff.mpr (houses_nodup (fun t ht => O.ne t (pairOfN_sub ht)) (pairOfN_apart O N))
theorem pairOfN_full (O : TiesOk ties) (N : NamesOk (ties.length : Int) names) : fullB ties (pairOfN ties names) = true := by
  unfold fullB
  rw [pairOfN_pair O N, Bool.true_and, List.all_eq_true]
  intro t ht
  exact touch_houses.mpr (pairOfN_near O ht)
/-- some of them are a pairing -/
theorem pairB_sub {ts us : List (Int × Int)} (h : pairB ts = true) (ne : ∀ t ∈ ts, t.1 ≠ t.2) (s : us.Sublist ts) : pairB us = true :=
  pairB_iff.mpr (houses_nodup (fun t ht => ne t (s.subset ht)) ((touch_of_nodup (pairB_iff.mp h)).sublist s))
/-- all but one are not full -/
theorem without_full {ts : List (Int × Int)} (O : TiesOk ties) (hs : ∀ t ∈ ts, t ∈ ties) (h : pairB ts = true) {t : Int × Int} (ht : t ∈ ts) : fullB ties (ts.filter fun u => !decide (u = t)) = false := by
  unfold fullB
  rw [Bool.and_eq_false_iff]
  refine .inr ?_
  rw [Bool.eq_false_iff]
  intro c
  rw [List.all_eq_true] at c
  obtain ⟨u, hu, z⟩ := touch_houses.mp (c t (hs t ht))
  have hu := List.mem_filter.mp hu
  have ne : u ≠ t := by simpa using hu.2
  have pw := touch_of_nodup (pairB_iff.mp h)
  have key : ∀ {l : List (Int × Int)}, (l.Pairwise fun t u => touchP t u = false) → t ∈ l → u ∈ l → touchP t u = false := by
    intro l
    induction l with
    | nil => intro _ h; cases h
    | cons x r ih =>
      intro pw h1 h2
      have pw := List.pairwise_cons.mp pw
      rcases List.mem_cons.mp h1 with e1 | h1
      · rcases List.mem_cons.mp h2 with e2 | h2
        · exact absurd (e2.trans e1.symm) ne
        · rw [e1]; exact pw.1 u h2
      · rcases List.mem_cons.mp h2 with e2 | h2
        · rw [e2, touchP_sym]; exact pw.1 t h1
        · exact ih pw.2 h1 h2
  rw [key pw ht hu.1] at z
  cases z
/-- one more that isn't in it is no pairing -/
theorem more_pair {ts us : List (Int × Int)} {t : Int × Int} (hn : t ∉ ts) (near : ∃ u ∈ ts, touchP t u = true) (pe : us.Perm (ts ++ [t])) : pairB us = false := by
  rw [Bool.eq_false_iff]
  intro c
  have pw := touch_of_nodup (pairB_iff.mp c)
  obtain ⟨u, hu, z⟩ := near
  have pw2 : (ts ++ [t]).Pairwise fun t u => touchP t u = false := pe.pairwise_iff (fun {a b} h => by rw [touchP_sym]; exact h) |>.mp pw
  have := (List.pairwise_append.mp pw2).2.2 u hu t (by simp)
  rw [touchP_sym, z] at this
  cases this
/-- of two full pairings none has less than half as many ties -/
theorem pair_half {ts us : List (Int × Int)} (h1 : pairB ts = true) (near : ∀ t ∈ ts, ∃ u ∈ us, touchP t u = true) : ts.length ≤ 2 * us.length := by
  have pw := touch_of_nodup (pairB_iff.mp h1)
  have hh : ∀ t ∈ ts, ((if t.1 ∈ housesL us then t.1 else t.2) ∈ housesL us) := fun t ht => by
    have := touch_houses.mpr (near t ht)
    rw [Bool.or_eq_true, decide_eq_true_eq, decide_eq_true_eq] at this
    split
    · assumption
    · rcases this with q | q
      · contradiction
      · exact q
  have nd : (ts.map fun t => if t.1 ∈ housesL us then t.1 else t.2).Nodup := by
    refine List.pairwise_map.mpr (pw.imp fun {t u} c e => ?_)
    rw [Bool.eq_false_iff] at c
    refine c (touchP_iff.mpr ?_)
    by_cases a : t.1 ∈ housesL us <;> by_cases b : u.1 ∈ housesL us <;> simp only [a, b, if_true, if_false] at e <;> omega
  have := len_le_of_sub nd (m := housesL us) fun x hx => by
    obtain ⟨t, ht, rfl⟩ := List.mem_map.mp hx
    exact hh t ht
  rw [List.length_map, housesL_len] at this
  exact this
end
/-! ### ties as data: ==, in, index, sorted -/
theorem eqv_tie (a b : Int × Int) : PyData.eqv (tieD a) (tieD b) = decide (a = b) := by
  obtain ⟨a1, a2⟩ := a
  obtain ⟨b1, b2⟩ := b
  rw [Bool.eq_iff_iff]
  simp [tieD, PyData.eqv, PyData.eqvAll, Prod.ext_iff]
theorem shaped_tie (t : Int × Int) : SeqAt.shaped (tieD t) = true := by
  simp [SeqAt.shaped, tieD, PyData.canLay0, PyData.canLayAll0, PyData.depth, PyData.depthAll]
theorem shaped_tiesD (ts : List (Int × Int)) : SeqAt.shaped (.list (ts.map tieD)) = true := by
  have h1 : PyData.canLayAll0 (ts.map tieD) = true := by
    induction ts with
    | nil => rfl
    | cons x r ih => simp [PyData.canLayAll0, PyData.canLay0, tieD, ih]
  have h2 : PyData.depthAll (ts.map tieD) ≤ 1 := by
    clear h1
    induction ts with
    | nil => simp [PyData.depthAll]
    | cons x r ih =>
      rw [List.map_cons, PyData.depthAll]
      have : (tieD x).depth = 1 := by simp [tieD, PyData.depth, PyData.depthAll]
      omega
  unfold SeqAt.shaped
  simp [PyData.canLay0, h1, PyData.depth]
  omega
section
variable {K : PySem.W.Frag} {H : Hp} {Q : VK} {x y : V} {t u : Int × Int} {ts : List (Int × Int)} {a : Addr} {xs : List V}
theorem r_neTie (h : Dp K H x (tieD t)) (g : Dp K H y (tieD u)) (q : Q (.bl (!decide (t = u))) H) : rNeD K x y H Q :=
  ⟨_, _, h, g, shaped_tie t, shaped_tie u, by rw [eqv_tie]; exact q⟩
theorem any_tie (ts : List (Int × Int)) (t : Int × Int) : ((ts.map tieD).any fun z => PyData.eqv z (tieD t)) = decide (t ∈ ts) := by
  rw [List.any_map, Bool.eq_iff_iff, List.any_eq_true, decide_eq_true_eq]
  constructor
  · rintro ⟨u, hu, q⟩
    have q : PyData.eqv (tieD u) (tieD t) = true := q
    rw [eqv_tie, decide_eq_true_eq] at q
    exact q ▸ hu
  · intro h
    exact ⟨t, h, by show PyData.eqv (tieD t) (tieD t) = true; rw [eqv_tie]; simp⟩
theorem r_notInTies (h : Dp K H x (tieD t)) (g : SqL K H a xs) (gd : DpAll K H xs (ts.map tieD)) (q : Q (.bl (!decide (t ∈ ts))) H) : rNotInD K x (.ref a) H Q :=
  ⟨_, _, h, .lst g gd, shaped_tie t, shaped_tiesD ts, by rw [any_tie]; exact q⟩
theorem r_inTies (h : Dp K H x (tieD t)) (g : SqL K H a xs) (gd : DpAll K H xs (ts.map tieD)) (q : Q (.bl (decide (t ∈ ts))) H) : rInD K x (.ref a) H Q :=
  ⟨_, _, h, .lst g gd, shaped_tie t, shaped_tiesD ts, by rw [any_tie]; exact q⟩
theorem r_indexTie {j : Nat} (nd : ts.Nodup) (h : Dp K H x (tieD t)) (g : SqL K H a xs) (gd : DpAll K H xs (ts.map tieD)) (hj : ts[j]? = some t) (q : Q (.int (j : Nat)) H) : rIndexD K (.ref a) [x] H Q :=
  ⟨a, x, tieD t, ts.map tieD, j, tieD t, rfl, rfl, .lst g gd, h, shaped_tiesD ts, shaped_tie t, by rw [List.getElem?_map, hj]; rfl, by rw [eqv_tie]; simp, fun m z hm hz => by
    rw [List.getElem?_map] at hz
    cases e : ts[m]? with
    | none => rw [e] at hz; cases hz
    | some v =>
      rw [e] at hz
      cases hz
      rw [eqv_tie, decide_eq_false_iff_not]
      intro z
      subst z
      exact absurd (nd_ix' nd e hj) (by omega), q⟩
theorem tieL_web {many : Int} {ties : List (Int × Int)} (W : WebOk many ties) : TieL many ties := ⟨W.up.imp fun h e => by subst e; unfold Lx at h; omega, W.ok⟩
theorem tups_small {F : Hp} {many : Int} {xs : List V} {l : List (Int × Int)} (h : DpAll K F xs (l.map tieD)) (ok : ∀ t ∈ l, 0 ≤ t.1 ∧ t.1 < t.2 ∧ t.2 < many) (m60 : many ≤ 60) : ∀ x ∈ xs, ∃ ns, TupI K F x ns ∧ ns.length = 2 ∧ TS.Bd 64 ns := fun x hx => by
  obtain ⟨i, hi⟩ := List.mem_iff_getElem?.mp hx
  obtain ⟨d, h1, h2⟩ := (dpAll_get h).2 i x hi
  rw [List.getElem?_map] at h1
  cases e : l[i]? with
  | none => rw [e] at h1; cases h1
  | some t =>
    rw [e] at h1
    cases h1
    obtain ⟨a, rfl, st⟩ := tieD_at h2
    have := ok t (List.mem_of_getElem? e)
    refine ⟨[t.1, t.2], ⟨a, rfl, st⟩, rfl, fun m hm => ?_⟩
    rcases List.mem_cons.mp hm with rfl | hm
    · omega
    · rw [List.mem_singleton.mp hm]; omega
theorem dpAll_permT {F : Hp} {xs ys : List V} (h : xs.Perm ys) : ∀ {l : List (Int × Int)}, DpAll K F xs (l.map tieD) → ∃ l' : List (Int × Int), l'.Perm l ∧ DpAll K F ys (l'.map tieD) := by
  induction h with
  | nil => intro l h; exact ⟨l, .refl _, h⟩
  | cons x _ ih =>
    intro l h
    cases l with
    | nil => cases h
    | cons t r =>
      cases h with
      | cons a b =>
        obtain ⟨l', p, q⟩ := ih b
        exact ⟨t :: l', p.cons t, .cons a q⟩
  | swap x y _ =>
    intro l h
    cases l with
    | nil => cases h
    | cons t r =>
      cases h with
      | cons a b =>
        cases r with
        | nil => cases b
        | cons u r =>
          cases b with
          | cons b c => exact ⟨u :: t :: r, .swap .., .cons b (.cons a c)⟩
  | trans _ _ ih1 ih2 =>
    intro l h
    obtain ⟨l', p, q⟩ := ih1 h
    obtain ⟨l'', p2, q2⟩ := ih2 q
    exact ⟨l'', p2.trans p, q2⟩
end
section
variable {ties : List (Int × Int)} {names : List Int} {many : Int}
theorem pairOfN_nd (O : TiesOk ties) (N : NamesOk (ties.length : Int) names) : (pairOfN ties names).Nodup :=
  (pairOfN_apart O N).imp fun {t u} h e => by
    subst e
    rw [touchP_self] at h
    cases h
theorem pairOfN_len (O : TiesOk ties) : (pairOfN ties names).length ≤ 60 := by
  unfold pairOfN
  rw [List.length_map]
  exact picked_few (touches_ok O.lo O.hi)
theorem pairOfN_tieL (W : WebOk many ties) (O : TiesOk ties) (N : NamesOk (ties.length : Int) names) : TieL many (pairOfN ties names) :=
  ⟨pairOfN_nd O N, fun t ht => W.ok t (pairOfN_sub ht)⟩
theorem NamesOk.map_at (N : NamesOk (ties.length : Int) names) : names.length = ties.length := by have := N.len; omega
/-- the tie of the least name is picked -/
theorem least_picked (O : TiesOk ties) (N : NamesOk (ties.length : Int) names) {j : Nat} {m : Int} (hj : names[j]? = some m) (hm : ∀ y ∈ names, m ≤ y) {t : Int × Int} (ht : ties[j]? = some t) : t ∈ pairOfN ties names := by
  have lt := (List.getElem?_eq_some_iff.mp ht).1
  refine pairOfN_mem.mpr ⟨(j : Int), picked_mem.mpr ⟨⟨by omega, by omega⟩, ?_⟩, ?_⟩
  · rw [least_first (touches_ok O.lo O.hi) ⟨by omega, by omega⟩ fun o o0 o1 => ?_]
    have e : nmAt names (j : Int) = m := by
      unfold nmAt
      rw [Int.toNat_natCast, List.getD_eq_getElem?_getD, hj]
      rfl
    rw [e]
    have hl := N.len
    have : names[o.toNat]? = some (nmAt names o) := by
      unfold nmAt
      rw [List.getD_eq_getElem?_getD, List.getElem?_eq_getElem (by omega)]
      rfl
    exact hm _ (List.mem_of_getElem? this)
  · rw [Int.toNat_natCast, List.getD_eq_getElem?_getD, ht]
    rfl
end
section
variable {io : List Addr} {H0 F0 F H : Hp} {M : List (Addr × Cel)} {K : PySem.W.Frag} {Q : VK} {a b : Addr} {xs ys : List V}
/-- a part of a tuple that stays -/
theorem s_cutT {lo hi : Option Int} (S : Sep io H0 F0 F H M) (h : SqT K F a xs) (k : ∀ (u : Addr) (F' H' : Hp), Sep io H0 F0 F' H' M → Evl.Ex F F' → SqT K F' u (cutV xs lo hi) → Q (.ref u) H') : rSlA K (.ref a) lo hi H Q := by
  refine ⟨a, xs, rfl, Evl.ex_t S.fr h, fun w => ?_, fun _ => s_new S fun u F' H' S' e c => k u F' H' S' e (SqT.of c)⟩
  refine k a F H S (Evl.Ex.refl _) ?_
  have : cutV xs lo hi = xs := by
    unfold cutV
    rw [w.1, w.2, List.drop_zero, Nat.sub_zero, List.take_length]
  rw [this]
  exact h
/-- two tuples that stay, one behind the other -/
theorem s_catA (S : Sep io H0 F0 F H M) (ha : SqT K F a xs) (hb : SqT K F b ys) (hz : xs.length + ys.length ≤ 100000) (k : ∀ (u : Addr) (F' H' : Hp), Sep io H0 F0 F' H' M → Evl.Ex F F' → SqT K F' u (xs ++ ys) → Q (.ref u) H') : rCatTG K (.ref a) (.ref b) H Q := by
  refine s_catT (Evl.ex_t S.fr ha) (Evl.ex_t S.fr hb) hz (fun e => ?_) (fun _ e => ?_) (fun _ _ => s_new S fun u F' H' S' e c => k u F' H' S' e (SqT.of c))
  · subst e
    exact k b F H S (Evl.Ex.refl _) hb
  · subst e
    refine k a F H S (Evl.Ex.refl _) ?_
    rw [List.append_nil]
    exact ha
/-- a tuple against the empty one -/
theorem r_neEmptyT {ts : List (Int × Int)} {x y : V} (h : Dp K H x (.tuple (ts.map tieD))) (g : SqT K H b []) (q : Q (.bl (!decide (ts = []))) H) : rNeD K x (.ref b) H Q := by
  refine ⟨_, .tuple [], h, .tup g .nil, ?_, by decide +kernel, ?_⟩
  · have := shaped_tiesD ts
    unfold SeqAt.shaped at this ⊢
    simpa [PyData.canLay0, PyData.depth] using this
  · have e : PyData.eqv (.tuple (ts.map tieD)) (.tuple []) = decide (ts = []) := by
      cases ts <;> simp [PyData.eqv, PyData.eqvAll]
    rw [e]
    exact q
end
/-! ### two loops, one within the other, over the pairs below n -/
def preI (n i : Nat) : List (Int × Int) := ((List.range' 0 i).flatMap (rowC n)).map pairI
def preJ (n i j : Nat) : List (Int × Int) := preI n i ++ ((rowC n i).take j).map pairI
theorem preI_zero (n : Nat) : preI n 0 = [] := rfl
theorem preI_all (n : Nat) : preI n n = pairsI n := rfl
theorem preJ_zero (n i : Nat) : preJ n i 0 = preI n i := by unfold preJ; rw [List.take_zero, List.map_nil, List.append_nil]
theorem rowC_len (n i : Nat) : (rowC n i).length = n - i - 1 := by unfold rowC; rw [List.length_map, List.length_range']
theorem preJ_snoc {n i j : Nat} (h : j < n - i - 1) : preJ n i (j + 1) = preJ n i j ++ [((i : Int), (((i + 1 + j : Nat)) : Int))] := by
  unfold preJ
  have e : (rowC n i)[j]? = some (i, i + 1 + j) := by
    unfold rowC
    rw [List.getElem?_map, List.getElem?_range' h]
    simp
  rw [take_snoc e, List.map_append, ← List.append_assoc]
  rfl
theorem preJ_end (n i : Nat) : preJ n i (n - i - 1) = preI n (i + 1) := by
  unfold preJ preI
  rw [← rowC_len, List.take_length]
  have : List.range' 0 (i + 1) = List.range' 0 i ++ [i] := by
    rw [List.range'_append_1 |>.symm]
    simp
  rw [this, List.flatMap_append, List.map_append]
  simp
theorem preI_len (n i : Nat) (h : i ≤ n) : (preI n i).length ≤ i * n := by
  unfold preI
  rw [List.length_map]
  have := flat_len n (List.range' 0 i) fun j hj => by rw [List.mem_range'_1] at hj; omega
  rw [List.length_range'] at this
  exact this
theorem preJ_len (n i j : Nat) (h : i ≤ n) : (preJ n i j).length ≤ i * n + n := by
  have := preI_len n i h
  unfold preJ
  rw [List.length_append, List.length_map, List.length_take, rowC_len]
  omega
/-- the law's own look -/
def touchB (t u : Int × Int) : Bool := decide (t.1 = u.1) || (decide (t.1 = u.2) || (decide (t.2 = u.1) || decide (t.2 = u.2)))
theorem touchB_eq (t u : Int × Int) : touchB t u = touchP t u := by
  rw [Bool.eq_iff_iff, touchP_iff]
  unfold touchB
  simp [or_assoc]
section
variable {io : List Addr} {H0 F0 F H : Hp} {M : List (Addr × Cel)} {K : PySem.W.Frag} {Q : VK} {a b : Addr} {xs ys : List V}
theorem s_ext (S : Sep io H0 F0 F H M) (k : Nat) (hk : M[k]? = some (a, .is (.lst xs))) (hb : H b = some (.lst ys)) (hz : xs.length + ys.length ≤ 100000) (q : ∀ H', Sep io H0 F0 F H' (M.set k (a, .is (.lst (xs ++ ys)))) → Q .non H') : rExtend (.ref a) [.ref b] H Q :=
  ⟨a, b, xs, ys, rfl, rfl, S.rdM k hk, hb, by rw [sizeLine_eq]; omega, q _ (S.put k hk _)⟩
end
section
open PySem.W (EachIs AllAlike Sortable dataLe)
/-! ### sorted(xs), xs a list of data, of any length -/
def rSortD (K : PySem.W.Frag) : List V → Hp → VK → Prop := fun vs H Q => ∃ (a : Addr) (xs : List V) (ds : List PyData), vs = [V.ref a] ∧ SqL K H a xs ∧ DpAll K H xs ds ∧ AllAlike ds ∧ Sortable ds ∧ (∀ d ∈ ds, d.depth ≤ 60) ∧
  ∀ zs : List (V × PyData), zs.Perm (xs.zip ds) → zs.map (·.2) = ds.mergeSort (dataLe false id) → newK H (.lst (zs.map (·.1))) Q
section
variable {X : Cx} {pins : List (Addr × Obj)} {σ : L2.St} {H : Hp} {s : Shared}
theorem each_zipD (I : Inv X pins σ H s) : ∀ {xs : List V} {ds : List PyData} {us : List Value}, DpAll X.K H xs ds → Vals xs us → EachIs (fun (v : Value) (b : V × PyData) => RelV b.1 v ∧ Dp X.K H b.1 b.2) us (xs.zip ds) ∧ EachIs (fun (v : Value) (b : V × PyData) => ∃ as, Reads s.heap v b.2 as) us (xs.zip ds) ∧ (xs.zip ds).map (·.2) = ds ∧ (xs.zip ds).map (·.1) = xs
  | _, _, _, .nil, r => by cases r; exact ⟨.nil, .nil, rfl, rfl⟩
  | _, _, _, .cons h t, r => by
    cases r with
    | cons r rr =>
      obtain ⟨a, b, c, d⟩ := each_zipD I t rr
      exact ⟨.cons ⟨r, h⟩ a, .cons (Dp.reads I _ _ _ h r) b, by rw [List.zip_cons_cons, List.map_cons, c], by rw [List.zip_cons_cons, List.map_cons, d]⟩
theorem each_back : ∀ {us : List Value} {bs : List (V × PyData)}, EachIs (fun (v : Value) (b : V × PyData) => RelV b.1 v ∧ Dp X.K H b.1 b.2) us bs → Vals (bs.map (·.1)) us ∧ DpAll X.K H (bs.map (·.1)) (bs.map (·.2))
  | _, _, .nil => ⟨.nil, .nil⟩
  | _, _, .cons h t => by
    obtain ⟨a, b⟩ := each_back t
    exact ⟨.cons h.1 a, .cons h.2 b⟩
theorem cr_sortedD (hu : X.A.units + 65 < cLine) : CallR X (.builtin "sorted") (rSortD X.K) := by
  intro pins s σ H vs us Q I r h
  obtain ⟨a, xs, ds, rfl, hs, hd, hal, hk, hdp, q⟩ := h
  obtain ⟨its, rv, hl, hz⟩ := I.list hs
  obtain ⟨u, rfl, ru⟩ := vals1 r
  obtain rfl : u = Value.ref a := ru
  obtain ⟨z1, z2, z3, z4⟩ := each_zipD I hd rv
  have len : (xs.zip ds).length = xs.length := by rw [← List.length_map (f := fun b : V × PyData => b.1), z4]
  refine PySem.W.sorted_data (enc := fun b : V × PyData => b.2) (bs := xs.zip ds) (R := fun (v : Value) (b : V × PyData) => RelV b.1 v ∧ Dp X.K H b.1 b.2) hl.isList z1 z2 (by rw [z3]; exact hal) (by rw [z3]; exact hk) (by rw [len]; exact hz) (fun b hb => ?_) fun out ho eo => ?_
  · have : b.2 ∈ ds := by rw [← z3]; exact List.mem_map_of_mem hb
    have := hdp _ this
    omega
  · obtain ⟨g1, g2⟩ := each_back eo
    have em : ((xs.zip ds).mergeSort (dataLe false fun b : V × PyData => b.2)).map (·.2) = ds.mergeSort (dataLe false id) := by
      rw [PySem.W.sort_maps (r := dataLe false fun b : V × PyData => b.2) (s := dataLe false id) (fun b : V × PyData => b.2) (fun _ _ _ _ => rfl), z3]
    have pm0 := List.mergeSort_perm (xs.zip ds) (dataLe false fun b : V × PyData => b.2)
    have pm := pm0.map (·.1)
    rw [z4] at pm
    generalize hzs : (xs.zip ds).mergeSort (dataLe false fun b : V × PyData => b.2) = zs at *
    obtain ⟨c, hc⟩ := PyProof.Rows.sortedAll_at s.heap its out.toArray
    have yl : (zs.map (·.1)).length ≤ sizeLine := by rw [pm.length_eq]; exact hz
    refine ⟨.ref (s.heap.objs.size + 1), upd H (s.heap.objs.size + 1) (.lst (zs.map (·.1))), I.laid (t' := s.toks) (fun b o => PyProof.Rows.sortedAll_old) (Nat.le_succ _) ⟨yl, out, c, g1, hc⟩, rfl, q zs pm0 em _ (I.hok.fresh (Nat.le_succ _))⟩
end
/-! pairs of ints -/
theorem alike_tie (t u : Int × Int) : PySem.W.alike (tieD t) (tieD u) = true := by simp [tieD, PySem.W.alike, PySem.W.alikeAll]
theorem tieD_depth (t : Int × Int) : (tieD t).depth = 1 := by simp [tieD, PyData.depth, PyData.depthAll]
theorem sort_ties {ps : List (Int × Int)} (nd : ps.Nodup) : ∃ ps' : List (Int × Int), ps'.Perm ps ∧ ps'.Pairwise Lx ∧ (ps.map tieD).mergeSort (dataLe false id) = ps'.map tieD := by
  refine ⟨ps.mergeSort (dataLe false tieD), List.mergeSort_perm _ _, ?_, ?_⟩
  · have e : (dataLe false tieD : Int × Int → Int × Int → Bool) = fun p q => decide (p.1 < q.1 ∨ (p.1 = q.1 ∧ p.2 ≤ q.2)) := PySem.W.dataLe_ii (fun p : Int × Int => p.1) (fun p => p.2)
    have h1 : (ps.mergeSort (dataLe false tieD)).Pairwise fun a b => dataLe false tieD a b = true := PySem.W.sort_pairwise (PySem.W.sortLe_total _ _ _) ps
    have h2 : (ps.mergeSort (dataLe false tieD)).Pairwise fun a b => a ≠ b := (List.mergeSort_perm ps (dataLe false tieD)).nodup_iff.mpr nd
    refine (h1.and h2).imp fun {a b} h => ?_
    have q := h.1
    rw [e] at q
    have q := of_decide_eq_true q
    have n : ¬ (a.1 = b.1 ∧ a.2 = b.2) := fun z => h.2 (Prod.ext z.1 z.2)
    unfold Lx
    omega
  · exact (PySem.W.sort_maps (r := dataLe false tieD) (s := dataLe false id) tieD (fun _ _ _ _ => rfl)).symm
section
variable {io : List Addr} {H0 F0 F H : Hp} {M : List (Addr × Cel)} {K : PySem.W.Frag} {Q : VK} {a : Addr} {xs : List V} {ps : List (Int × Int)}
theorem dpAll_zip : ∀ {xs : List V} {ds : List PyData}, DpAll K F xs ds → ∀ b ∈ xs.zip ds, Dp K F b.1 b.2
  | _, _, .nil, b, h => by cases h
  | _, _, .cons h t, b, m => by
    rcases List.mem_cons.mp m with rfl | m
    · exact h
    · exact dpAll_zip t b m
theorem dpAll_of : ∀ {zs : List (V × PyData)}, (∀ b ∈ zs, Dp K F b.1 b.2) → DpAll K F (zs.map (·.1)) (zs.map (·.2))
  | [], _ => .nil
  | b :: r, h => .cons (h b List.mem_cons_self) (dpAll_of fun c hc => h c (List.mem_cons_of_mem _ hc))
/-- sorted, any data: what was known of the things is known of them in their new order -/
theorem s_sortD {ds : List PyData} (S : Sep io H0 F0 F H M) (hs : SqL K H a xs) (hd : DpAll K F xs ds) (al : AllAlike ds) (so : Sortable ds) (dp : ∀ d ∈ ds, d.depth ≤ 60) (k : ∀ ys, DpAll K F ys (ds.mergeSort (dataLe false id)) → ys.Perm xs → newK H (.lst ys) Q) : rSortD K [.ref a] H Q := by
  refine ⟨a, xs, ds, rfl, hs, DpAll.ex S.fr _ _ hd, al, so, dp, fun zs pe e => k _ ?_ ?_⟩
  · rw [← e]
    exact dpAll_of fun b hb => dpAll_zip hd b (pe.mem_iff.mp hb)
  · have := pe.map (·.1)
    rw [List.map_fst_zip (by rw [(dpAll_get hd).1]; exact Nat.le_refl _)] at this
    exact this
theorem s_sortTies (S : Sep io H0 F0 F H M) (hs : SqL K H a xs) (hd : DpAll K F xs (ps.map tieD)) (nd : ps.Nodup) (k : ∀ (ys : List V) (ps' : List (Int × Int)), ps'.Perm ps → ps'.Pairwise Lx → DpAll K F ys (ps'.map tieD) → newK H (.lst ys) Q) : rSortD K [.ref a] H Q := by
  obtain ⟨ps', h1, h2, h3⟩ := sort_ties nd
  refine s_sortD S hs hd (AllAlike.of alike_tie) (Sortable.tuples fun t => ⟨_, _, rfl⟩) (fun d hd => ?_) fun ys h _ => ?_
  · obtain ⟨t, _, rfl⟩ := List.mem_map.mp hd
    rw [tieD_depth]
    omega
  · rw [h3] at h
    exact k ys ps' h1 h2 h
end

end
/-! ### numbers, sets, ties, webs and fractions as texts -/
def intS (i : Int) : Str := Str.ofString (toString i)
def Num60 (i : Int) : Prop := 0 ≤ i ∧ i < 10 ^ 60
theorem tl_intS {i : Int} (h : 0 ≤ i) : TL.tl (intS i) = TL.numL i.toNat := by
  obtain ⟨n, rfl⟩ := Int.eq_ofNat_of_zero_le h
  exact TL.tl_num n
theorem nat60 {i : Int} (h : Num60 i) : i.toNat < 10 ^ 60 := by
  obtain ⟨h0, h1⟩ := h
  omega
theorem log_num {i : Int} (h : Num60 i) : i.natAbs.log2 < 1920 := by
  have h1 : i.natAbs < 10 ^ 60 := by
    have := nat60 h
    have := h.1
    omega
  by_cases z : i.natAbs = 0
  · rw [z]; decide
  · rw [Nat.log2_lt z]
    exact Nat.lt_of_lt_of_le (Nat.lt_of_lt_of_le h1 (by decide : 10 ^ 60 ≤ 2 ^ 200)) (Nat.pow_le_pow_right (by omega) (by omega))
theorem len_intS {i : Int} (h : Num60 i) : 1 ≤ (intS i).length ∧ (intS i).length ≤ 60 := by
  rw [TL.len_tl, tl_intS h.1]
  refine ⟨?_, TL.numL_len (by omega) (nat60 h)⟩
  have := TL.numL_ne i.toNat
  cases q : TL.numL i.toNat with
  | nil => exact absurd q this
  | cons _ _ => simp
theorem dig_intS {i : Int} (h : 0 ≤ i) : ∀ c ∈ TL.tl (intS i), 48 ≤ c ∧ c ≤ 57 := by
  rw [tl_intS h]
  exact TL.numL_digits _
theorem free_intS {i : Int} (h : 0 ≤ i) {s : Nat} (hs : s < 48 ∨ 57 < s) : s ∉ TL.tl (intS i) := fun m => by
  have := dig_intS h s m
  omega
theorem int_intS {i : Int} (h : Num60 i) : intText? (intS i) = some i := by
  obtain ⟨n, rfl⟩ := Int.eq_ofNat_of_zero_le h.1
  exact TL.int_num (Nat.le_trans (TL.numL_len (k := 60) (by omega) (nat60 h)) (by omega))
theorem numL_head (n : Nat) : 10 ≤ n → ∃ c r, TL.numL n = c :: r ∧ c ≠ 48 := by
  induction n using Nat.strongRecOn with
  | _ n ih =>
    intro h
    rw [TL.numL_step h]
    by_cases q : 10 ≤ n / 10
    · obtain ⟨c, r, e, hc⟩ := ih (n / 10) (by omega) q
      rw [e]
      exact ⟨c, _, rfl, hc⟩
    · rw [TL.numL_lt (by omega)]
      exact ⟨_, _, rfl, by omega⟩
theorem head_intS {i : Int} (h : 0 ≤ i) (l : 1 < (intS i).length) : ∃ c, (intS i).cps[0]? = some c ∧ c ≠ 48 := by
  rw [TL.len_tl, tl_intS h] at l
  have t : 10 ≤ i.toNat := by
    apply Decidable.byContradiction
    intro z
    rw [TL.numL_lt (by omega)] at l
    simp at l
  obtain ⟨c, r, e, hc⟩ := numL_head _ t
  refine ⟨c, ?_, hc⟩
  have : (TL.tl (intS i))[0]? = some c := by rw [tl_intS h, e]; rfl
  unfold TL.tl at this
  rw [Array.getElem?_toList] at this
  exact this
theorem empty_app (x : Str) : Str.empty ++ x = x := TL.ext_tl (by rw [TL.tl_append]; rfl)
def tieS (t : Int × Int) : Str := (intS t.1 ++ ("-" : Str)) ++ intS t.2
def blank : Str := " "
def webS (many : Int) (ts : List (Int × Int)) : Str := if ts = [] then intS many else (intS many ++ blank) ++ Txt.join blank (ts.map tieS)
def webW (many : Int) (ts : List (Int × Int)) : Str := Txt.join blank (intS many :: ts.map tieS)
theorem tl_blank : TL.tl blank = [32] := rfl
theorem webW_eq (many : Int) (ts : List (Int × Int)) : webW many ts = webS many ts := by
  refine TL.ext_tl ?_
  unfold webW webS
  rw [TL.join_eq, TL.tl_join, tl_blank]
  cases ts with
  | nil => rfl
  | cons t r =>
    rw [if_neg (by simp), TL.tl_append, TL.tl_append, TL.join_eq, TL.tl_join, tl_blank]
    simp [TL.joinL]
theorem tl_tieS {t : Int × Int} (h : 0 ≤ t.1) (g : 0 ≤ t.2) : ∀ c ∈ TL.tl (tieS t), c = 45 ∨ (48 ≤ c ∧ c ≤ 57) := fun c m => by
  unfold tieS at m
  rw [TL.tl_append, TL.tl_append] at m
  rcases List.mem_append.mp m with m | m
  · rcases List.mem_append.mp m with m | m
    · exact .inr (dig_intS h c m)
    · exact .inl (List.mem_singleton.mp m)
  · exact .inr (dig_intS g c m)
theorem split_web {many : Int} {ts : List (Int × Int)} (hm : 0 ≤ many) (ht : ∀ t ∈ ts, 0 ≤ t.1 ∧ 0 ≤ t.2) : Txt.split (webS many ts) blank = intS many :: ts.map tieS := by
  rw [← webW_eq]
  refine TL.split_join (s := 32) (S := []) rfl (by decide +kernel) (by simp) fun p hp m => ?_
  rcases List.mem_cons.mp hp with e | hp
  · subst e; exact free_intS hm (by omega) m
  · obtain ⟨t, h1, rfl⟩ := List.mem_map.mp hp
    have := tl_tieS (ht t h1).1 (ht t h1).2 _ m
    omega
theorem part_tie {t : Int × Int} (h : 0 ≤ t.1) : Txt.partition (tieS t) ("-" : Str) = (intS t.1, ("-" : Str), intS t.2) :=
  TL.partition_app (s := 45) (S := []) rfl (free_intS h (by omega))
def numsS (ns : List Int) : Str := Txt.join blank (ns.map intS)
def setS (ns : List Int) : Str := if ns = [] then ("none" : Str) else numsS ns
theorem split_nums {ns : List Int} (h : ∀ n ∈ ns, 0 ≤ n) (e : ns ≠ []) : Txt.split (numsS ns) blank = ns.map intS := by
  refine TL.split_join (s := 32) (S := []) rfl (by decide +kernel) (by simpa using e) fun p hp m => ?_
  obtain ⟨n, h1, rfl⟩ := List.mem_map.mp hp
  exact free_intS (h n h1) (by omega) m
theorem setS_none {ns : List Int} (h : ∀ n ∈ ns, 0 ≤ n) : decide (V.str (setS ns) = V.str ("none" : Str)) = decide (ns = []) := by
  by_cases e : ns = []
  · subst e; rfl
  · rw [decide_eq_false e, decide_eq_false_iff_not]
    intro z
    unfold setS at z
    rw [if_neg e] at z
    have z : numsS ns = ("none" : Str) := V.str.inj z
    have s1 := split_nums h e
    have s2 : Txt.split (Txt.join blank [("none" : Str)]) blank = [("none" : Str)] := TL.split_join (s := 32) (S := []) rfl (by decide +kernel) (by simp) fun p hp => by rw [List.mem_singleton.mp hp]; decide +kernel
    have s3 : Txt.join blank [("none" : Str)] = ("none" : Str) := TL.ext_tl (by rw [TL.join_eq, TL.tl_join]; rfl)
    rw [s3] at s2
    rw [z, s2] at s1
    cases ns with
    | nil => exact e rfl
    | cons n r =>
      have q : ("none" : Str) = intS n := (List.cons.inj s1).1
      have := free_intS (h n List.mem_cons_self) (s := 110) (by omega)
      rw [← q] at this
      exact this (by decide +kernel)
def fracS (f : Int × Int) : Str := if f.2 = 1 then intS f.1 else (intS f.1 ++ ("/" : Str)) ++ intS f.2
theorem part_frac {f : Int × Int} (h : 0 ≤ f.1) : Txt.partition (fracS f) ("/" : Str) = if f.2 = 1 then (intS f.1, Str.empty, Str.empty) else (intS f.1, ("/" : Str), intS f.2) := by
  unfold fracS
  split
  · exact TL.partition_none (s := 47) (S := []) rfl (free_intS h (by omega))
  · exact TL.partition_app (s := 47) (S := []) rfl (free_intS h (by omega))
theorem len_app (x y : Str) : (x ++ y).length = x.length + y.length := by
  rw [TL.len_tl, TL.tl_append, List.length_append, ← TL.len_tl, ← TL.len_tl]
theorem len_tie {t : Int × Int} (h : Num60 t.1) (g : Num60 t.2) : (tieS t).length ≤ 121 := by
  unfold tieS
  rw [len_app, len_app]
  have := len_intS h
  have := len_intS g
  have : ("-" : Str).length = 1 := rfl
  omega
theorem len_joinL (S : List Nat) : ∀ ps : List (List Nat), (TL.joinL S ps).length ≤ (ps.map List.length).sum + ps.length * S.length
  | [] => by simp [TL.joinL]
  | [p] => by simp [TL.joinL]
  | p :: q :: r => by
    have ih := len_joinL S (q :: r)
    have e : TL.joinL S (p :: q :: r) = p ++ S ++ TL.joinL S (q :: r) := by simp [TL.joinL]
    rw [e, List.length_append, List.length_append, List.map_cons, List.sum_cons, List.length_cons, Nat.add_mul]
    omega
theorem sum_le {α : Type} (f : α → Nat) (k : Nat) : ∀ xs : List α, (∀ x ∈ xs, f x ≤ k) → (xs.map f).sum ≤ xs.length * k
  | [], _ => by simp
  | x :: r, h => by
    have ih := sum_le f k r fun y m => h y (List.mem_cons_of_mem _ m)
    have := h x List.mem_cons_self
    rw [List.map_cons, List.sum_cons, List.length_cons, Nat.add_mul]
    omega
theorem len_join {ps : List Str} {k n : Nat} (h : ∀ p ∈ ps, p.length ≤ k) (l : ps.length ≤ n) : (Txt.join blank ps).length ≤ n * (k + 1) := by
  rw [TL.len_tl, TL.join_eq, TL.tl_join]
  refine Nat.le_trans (len_joinL _ _) ?_
  rw [tl_blank, List.length_map, List.length_singleton, Nat.mul_one]
  have := sum_le List.length k (ps.map TL.tl) fun x m => by
    obtain ⟨p, h1, rfl⟩ := List.mem_map.mp m
    rw [← TL.len_tl]
    exact h p h1
  rw [List.length_map] at this
  have h3 : ps.length * (k + 1) ≤ n * (k + 1) := Nat.mul_le_mul_right _ l
  rw [Nat.mul_add] at h3
  omega
theorem join_fit {ps : List Str} {k : Nat} (h : ∀ p ∈ ps, p.length ≤ k) : (ps.map (·.length)).sum + ps.length * blank.length ≤ ps.length * (k + 1) := by
  have := sum_le (·.length) k ps h
  have : blank.length = 1 := rfl
  rw [Nat.mul_add, this]
  omega
theorem sizeL : sizeLine = 16777216 := rfl
theorem len_web {many : Int} {ts : List (Int × Int)} (hm : Num60 many) (ht : ∀ t ∈ ts, Num60 t.1 ∧ Num60 t.2) (l : ts.length ≤ 4000) : (webS many ts).length ≤ 700000 := by
  have h1 := len_join (ps := ts.map tieS) (k := 121) (n := 4000) (fun p m => by
    obtain ⟨t, h1, rfl⟩ := List.mem_map.mp m
    exact len_tie (ht t h1).1 (ht t h1).2) (by rw [List.length_map]; exact l)
  have h2 := len_intS hm
  unfold webS
  split
  · omega
  · rw [len_app, len_app]
    have : blank.length = 1 := rfl
    omega
theorem len_nums {ns : List Int} (h : ∀ n ∈ ns, Num60 n) (l : ns.length ≤ 4000) : (numsS ns).length ≤ 700000 := by
  have h1 := len_join (ps := ns.map intS) (k := 60) (n := 4000) (fun p m => by
    obtain ⟨t, h1, rfl⟩ := List.mem_map.mp m
    exact (len_intS (h t h1)).2) (by rw [List.length_map]; exact l)
  unfold numsS
  omega
theorem len_set {ns : List Int} (h : ∀ n ∈ ns, Num60 n) (l : ns.length ≤ 4000) : (setS ns).length ≤ 700000 := by
  unfold setS
  split
  · decide +kernel
  · exact len_nums h l
theorem len_frac {f : Int × Int} (h : Num60 f.1) (g : Num60 f.2) : (fracS f).length ≤ 121 := by
  have := len_intS h
  have := len_intS g
  unfold fracS
  split
  · omega
  · rw [len_app, len_app]
    have : ("/" : Str).length = 1 := rfl
    omega
/-! ### rules -/
def rStrI : List V → Hp → VK → Prop := fun xs H Q => ∃ i, xs = [.int i] ∧ i.natAbs.log2 < 1920 ∧ Q (.str (Str.ofString (toString i))) H
theorem r_strI {i : Int} {H : Hp} {Q : VK} (h : Num60 i) (z : Q (.str (intS i)) H) : rStrI [.int i] H Q := ⟨i, rfl, log_num h, z⟩
abbrev tJS (ts : List TE) : TE := fun σ H Q => tJs ts Str.empty σ H fun out H1 => Q (.str out) H1
theorem r_fsT {m : Str} {σ : L2.St} {H : Hp} {Q : VK} {a b : Nat} {i j : Int} (ha : σ[a]? = some (some (.int i))) (hb : σ[b]? = some (some (.int j))) (hm : m.length ≤ 1) (hi : Num60 i) (hj : Num60 j) (h : Q (.str ((intS i ++ m) ++ intS j)) H) : tJs [tFmt (tVar a), tC (.str m), tFmt (tVar b)] Str.empty σ H fun out H1 => Q (.str out) H1 := by
  have l1 := len_intS hi
  have e0 : Str.empty ++ intS i = intS i := empty_app _
  have l2 := len_intS hj
  refine ⟨_, ha, .inr ⟨i, rfl, log_num hi, intS i, rfl, ?_, ?_⟩⟩
  · rw [e0, sizeL]; omega
  refine ⟨m, rfl, ?_, ?_⟩
  · rw [e0, len_app, sizeL]; omega
  refine ⟨_, hb, .inr ⟨j, rfl, log_num hj, intS j, rfl, ?_, ?_⟩⟩
  · rw [e0, len_app, len_app, sizeL]; omega
  · show Q (.str (((Str.empty ++ intS i) ++ m) ++ intS j)) H
    rw [e0]
    exact h
theorem r_fsC {m : Str} {ts : List TE} {σ : L2.St} {H : Hp} {Q : Str → Hp → Prop} {a : Nat} {i : Int} (ha : σ[a]? = some (some (.int i))) (hm : m.length ≤ 1) (hi : Num60 i) (h : tJs ts (intS i ++ m) σ H Q) : tJs (tFmt (tVar a) :: tC (.str m) :: ts) Str.empty σ H Q := by
  have l1 := len_intS hi
  have e0 : Str.empty ++ intS i = intS i := empty_app _
  refine ⟨_, ha, .inr ⟨i, rfl, log_num hi, intS i, rfl, ?_, ?_⟩⟩
  · rw [e0, sizeL]; omega
  refine ⟨m, rfl, ?_, ?_⟩
  · rw [e0, len_app, sizeL]; omega
  · rw [e0]; exact h
theorem r_js {t : TE} {ts : List TE} {acc : Str} {σ : L2.St} {H : Hp} {Q : Str → Hp → Prop} (h : t σ H fun x H1 => ∃ y : Str, x = .str y ∧ (acc ++ y).length ≤ sizeLine ∧ tJs ts (acc ++ y) σ H1 Q) : tJs (t :: ts) acc σ H Q := h
theorem r_fmt {te : TE} {σ : L2.St} {H : Hp} {Q : VK} (h : te σ H fun x H1 => (∃ y : Str, x = .str y ∧ y.length ≤ sizeLine ∧ Q (.str y) H1) ∨ ∃ i : Int, x = .int i ∧ i.natAbs.log2 < 1920 ∧ Q (.str (Str.ofString (toString i))) H1) : tFmt te σ H Q := h
theorem num_web {many : Int} {ts : List (Int × Int)} (W : WebOk many ts) : Num60 many ∧ ∀ t ∈ ts, Num60 t.1 ∧ Num60 t.2 := by
  have h1 := W.lo
  have h2 := W.hi
  refine ⟨⟨by omega, by omega⟩, fun t m => ?_⟩
  have := W.ok t m
  exact ⟨⟨by omega, by omega⟩, ⟨by omega, by omega⟩⟩
theorem walk_str {x : Str} : Walk (Its x) (TL.tl x).length (fun _ => True) (fun i H v H' => H' = H ∧ ∃ c, x.cps[i]? = some c ∧ v = .str ⟨#[c]⟩) :=
  ⟨fun i H hi _ => by show i < x.cps.size; rw [← Array.length_toList]; exact hi, fun H _ => by show x.cps.size ≤ _; rw [← Array.length_toList]; exact Nat.le_refl _, fun i H v H' hi _ y => y⟩
theorem srcStr {io : List Addr} {H0 F0 F : Hp} {x : Str} : Src (Its x) io H0 F0 F [] (TL.tl x) (fun c v _ => v = .str ⟨#[c]⟩) := by
  refine ⟨_, _, walk_str, fun F' H' M' S e _ => trivial, fun i a v F' H' H'' M' ha S e _ y => ?_⟩
  obtain ⟨rfl, c, h1, rfl⟩ := y
  have h1 : (TL.tl x)[i]? = some c := by
    unfold TL.tl
    rw [Array.getElem?_toList]
    exact h1
  rw [h1] at ha
  cases ha
  exact ⟨F', S, Evl.Ex.refl _, rfl⟩
theorem s_push {io : List Addr} {H0 F0 F H : Hp} {M : List (Addr × Cel)} {p : Addr} {o : HO} (S : Sep io H0 F0 F H M) (hp : H p = none) : ∃ F1, Sep io H0 F0 F1 (upd H p o) M ∧ Evl.Ex F F1 ∧ F1 p = some o := ⟨_, S.newF hp o, Evl.Ex.new (S.fnone hp), upd_same⟩
theorem r_m1 {r : V → List V → Hp → VK → Prop} {to te : TE} {σ : L2.St} {H : Hp} {Q : VK} (h : to σ H fun x H1 => (∃ a, x = .str a) ∧ te σ H1 fun y H2 => r x [y] H2 Q) : tM1 r to te σ H Q := h
theorem r_m1s {r : V → List V → Hp → VK → Prop} {s : Str} {te : TE} {σ : L2.St} {H : Hp} {Q : VK} (h : te σ H fun y H2 => r (.str s) [y] H2 Q) : tM1 r (tC (.str s)) te σ H Q := ⟨⟨s, rfl⟩, h⟩
theorem r_gTup3 {K : PySem.W.Frag} {x y z : V} {σ : L2.St} {H : Hp} {i j k n : Nat} {a : Addr} {QS : L2.St → Hp → Prop} (hn : 3 = n) (hs : SqT K H a [x, y, z]) (q : QS (((σ.set i (some x)).set j (some y)).set k (some z)) H) : gTup K n (gCons (gName i) (gCons (gName j) (gCons (gName k) gNil))) (.ref a) σ H QS :=
  ⟨a, _, rfl, hs, hn, x, _, rfl, y, _, rfl, z, _, rfl, rfl, q⟩
def P : Program := PySem.Challenge.pw_fullapart_k72_whole_written_and_read
def topS (i : Nat) : Stmt := PySem.Challenge.pw_fullapart_k72_whole_written_and_read.main.body.getD i (.Pass ⟨0, 0, 0, 0⟩)
abbrev s_fraction_of : Stmt := topS 5
abbrev s_is_whole : Stmt := topS 8
abbrev s_is_tie : Stmt := topS 9
abbrev s_is_rising : Stmt := topS 10
abbrev s_is_web : Stmt := topS 11
abbrev s_show_numbers : Stmt := topS 15
abbrev s_show_ties : Stmt := topS 16
abbrev s_show_web : Stmt := topS 17
abbrev s_show_set : Stmt := topS 18
abbrev s_show_fraction : Stmt := topS 19
abbrev s_number_in : Stmt := topS 20
abbrev s_tie_in : Stmt := topS 21
abbrev s_read_web : Stmt := topS 22
abbrev s_read_set : Stmt := topS 23
abbrev s_is_fraction : Stmt := topS 24
abbrev s_read_fraction : Stmt := topS 25
abbrev s__law_blend : Stmt := topS 27
abbrev s__law_pot : Stmt := topS 28
abbrev s__law_pick : Stmt := topS 29
abbrev s__law_order : Stmt := topS 30
abbrev s__law_web : Stmt := topS 31
abbrev s__law_any_ties : Stmt := topS 32
abbrev s__law_drawn_web : Stmt := topS 33
abbrev s__law_common : Stmt := topS 34
abbrev s__law_fraction : Stmt := topS 35
abbrev s__law_houses : Stmt := topS 36
abbrev s__law_read : Stmt := topS 37
abbrev s__law_shown : Stmt := topS 38
abbrev s__law_is_it : Stmt := topS 39
abbrev s__law_other : Stmt := topS 40
abbrev s_law : Stmt := topS 41
theorem sc_fraction_of : FnScope ["over", "under", "common"] ["over", "under"] (defScope s_fraction_of) := ⟨rfl, rfl, rfl, by decide +kernel, rfl, by decide +kernel, by decide +kernel⟩
theorem sc_is_whole : FnScope ["thing"] ["thing"] (defScope s_is_whole) := ⟨rfl, rfl, rfl, by decide +kernel, rfl, by decide +kernel, by decide +kernel⟩
theorem sc_is_tie : FnScope ["thing", "many", "one", "other"] ["thing", "many"] (defScope s_is_tie) := ⟨rfl, rfl, rfl, by decide +kernel, rfl, by decide +kernel, by decide +kernel⟩
theorem sc_is_rising : FnScope ["things", "one", "other"] ["things"] (defScope s_is_rising) := ⟨rfl, rfl, rfl, by decide +kernel, rfl, by decide +kernel, by decide +kernel⟩
theorem sc_is_web : FnScope ["thing", "many", "ties", "tie"] ["thing"] (defScope s_is_web) := ⟨rfl, rfl, rfl, by decide +kernel, rfl, by decide +kernel, by decide +kernel⟩
theorem sc_show_numbers : FnScope ["numbers", "number"] ["numbers"] (defScope s_show_numbers) := ⟨rfl, rfl, rfl, by decide +kernel, rfl, by decide +kernel, by decide +kernel⟩
theorem sc_show_ties : FnScope ["ties", "one", "other"] ["ties"] (defScope s_show_ties) := ⟨rfl, rfl, rfl, by decide +kernel, rfl, by decide +kernel, by decide +kernel⟩
theorem sc_show_web : FnScope ["web", "many", "ties"] ["web"] (defScope s_show_web) := ⟨rfl, rfl, rfl, by decide +kernel, rfl, by decide +kernel, by decide +kernel⟩
theorem sc_show_set : FnScope ["some"] ["some"] (defScope s_show_set) := ⟨rfl, rfl, rfl, by decide +kernel, rfl, by decide +kernel, by decide +kernel⟩
theorem sc_show_fraction : FnScope ["one", "over", "under"] ["one"] (defScope s_show_fraction) := ⟨rfl, rfl, rfl, by decide +kernel, rfl, by decide +kernel, by decide +kernel⟩
theorem sc_number_in : FnScope ["word", "most", "sign"] ["word", "most"] (defScope s_number_in) := ⟨rfl, rfl, rfl, by decide +kernel, rfl, by decide +kernel, by decide +kernel⟩
theorem sc_tie_in : FnScope ["word", "one", "_", "other"] ["word"] (defScope s_tie_in) := ⟨rfl, rfl, rfl, by decide +kernel, rfl, by decide +kernel, by decide +kernel⟩
theorem sc_read_web : FnScope ["text", "words", "ties", "web", "word"] ["text"] (defScope s_read_web) := ⟨rfl, rfl, rfl, by decide +kernel, rfl, by decide +kernel, by decide +kernel⟩
theorem sc_read_set : FnScope ["text", "numbers", "word"] ["text"] (defScope s_read_set) := ⟨rfl, rfl, rfl, by decide +kernel, rfl, by decide +kernel, by decide +kernel⟩
theorem sc_is_fraction : FnScope ["over", "under"] ["over", "under"] (defScope s_is_fraction) := ⟨rfl, rfl, rfl, by decide +kernel, rfl, by decide +kernel, by decide +kernel⟩
theorem sc_read_fraction : FnScope ["text", "before", "stroke", "behind", "over", "under"] ["text"] (defScope s_read_fraction) := ⟨rfl, rfl, rfl, by decide +kernel, rfl, by decide +kernel, by decide +kernel⟩
theorem sc__law_blend : FnScope ["cell", "at", "one", "two", "three"] ["cell", "at"] (defScope s__law_blend) := ⟨rfl, rfl, rfl, by decide +kernel, rfl, by decide +kernel, by decide +kernel⟩
theorem sc__law_pot : FnScope ["script", "cells", "k", "cell"] ["script"] (defScope s__law_pot) := ⟨rfl, rfl, rfl, by decide +kernel, rfl, by decide +kernel, by decide +kernel⟩
theorem sc__law_pick : FnScope ["pot", "many", "at", "cell", "found"] ["pot", "many"] (defScope s__law_pick) := ⟨rfl, rfl, rfl, by decide +kernel, rfl, by decide +kernel, by decide +kernel⟩
theorem sc__law_order : FnScope ["pot", "many", "order", "k"] ["pot", "many"] (defScope s__law_order) := ⟨rfl, rfl, rfl, by decide +kernel, rfl, by decide +kernel, by decide +kernel⟩
theorem sc__law_web : FnScope ["pot", "most", "shape", "many", "order", "pairs", "k", "one", "ties", "pair"] ["pot", "most"] (defScope s__law_web) := ⟨rfl, rfl, rfl, by decide +kernel, rfl, by decide +kernel, by decide +kernel⟩
theorem sc__law_any_ties : FnScope ["pot", "most", "share", "many", "pairs", "one", "other"] ["pot", "most"] (defScope s__law_any_ties) := ⟨rfl, rfl, rfl, by decide +kernel, rfl, by decide +kernel, by decide +kernel⟩
theorem sc__law_drawn_web : FnScope ["pot", "most"] ["pot", "most"] (defScope s__law_drawn_web) := ⟨rfl, rfl, rfl, by decide +kernel, rfl, by decide +kernel, by decide +kernel⟩
theorem sc__law_common : FnScope ["one", "other"] ["one", "other"] (defScope s__law_common) := ⟨rfl, rfl, rfl, by decide +kernel, rfl, by decide +kernel, by decide +kernel⟩
theorem sc__law_fraction : FnScope ["pot", "way", "over", "under", "common"] ["pot"] (defScope s__law_fraction) := ⟨rfl, rfl, rfl, by decide +kernel, rfl, by decide +kernel, by decide +kernel⟩
theorem sc__law_houses : FnScope ["pot", "many", "share", "step", "house"] ["pot", "many"] (defScope s__law_houses) := ⟨rfl, rfl, rfl, by decide +kernel, rfl, by decide +kernel, by decide +kernel⟩
theorem sc__law_read : FnScope ["way", "text", "found"] ["way", "text"] (defScope s__law_read) := ⟨rfl, rfl, rfl, by decide +kernel, rfl, by decide +kernel, by decide +kernel⟩
theorem sc__law_shown : FnScope ["way", "thing"] ["way", "thing"] (defScope s__law_shown) := ⟨rfl, rfl, rfl, by decide +kernel, rfl, by decide +kernel, by decide +kernel⟩
theorem sc__law_is_it : FnScope ["way", "thing"] ["way", "thing"] (defScope s__law_is_it) := ⟨rfl, rfl, rfl, by decide +kernel, rfl, by decide +kernel, by decide +kernel⟩
theorem sc__law_other : FnScope ["pot", "way", "thing", "at"] ["pot", "way", "thing"] (defScope s__law_other) := ⟨rfl, rfl, rfl, by decide +kernel, rfl, by decide +kernel, by decide +kernel⟩
theorem sc_law : FnScope ["script", "pot", "turn", "things", "way", "thing", "text", "other", "found", "k"] ["script"] (defScope s_law) := ⟨rfl, rfl, rfl, by decide +kernel, rfl, by decide +kernel, by decide +kernel⟩
structure Env (K : PySem.W.Frag) (mg : Str → Option Value) where
  a_fraction_of : Addr
  fd_fraction_of : FuncData
  F_fraction_of : Fun K "fraction_of" "fraction_of" s_fraction_of a_fraction_of fd_fraction_of
  b_fraction_of : Binds K fd_fraction_of ["over", "under"] []
  g_fraction_of : mg "fraction_of" = some (.ref a_fraction_of)
  a_is_whole : Addr
  fd_is_whole : FuncData
  F_is_whole : Fun K "is_whole" "is_whole" s_is_whole a_is_whole fd_is_whole
  b_is_whole : Binds K fd_is_whole ["thing"] []
  g_is_whole : mg "is_whole" = some (.ref a_is_whole)
  a_is_tie : Addr
  fd_is_tie : FuncData
  F_is_tie : Fun K "is_tie" "is_tie" s_is_tie a_is_tie fd_is_tie
  b_is_tie : Binds K fd_is_tie ["thing", "many"] []
  g_is_tie : mg "is_tie" = some (.ref a_is_tie)
  a_is_rising : Addr
  fd_is_rising : FuncData
  F_is_rising : Fun K "is_rising" "is_rising" s_is_rising a_is_rising fd_is_rising
  b_is_rising : Binds K fd_is_rising ["things"] []
  g_is_rising : mg "is_rising" = some (.ref a_is_rising)
  a_is_web : Addr
  fd_is_web : FuncData
  F_is_web : Fun K "is_web" "is_web" s_is_web a_is_web fd_is_web
  b_is_web : Binds K fd_is_web ["thing"] []
  g_is_web : mg "is_web" = some (.ref a_is_web)
  a_show_numbers : Addr
  fd_show_numbers : FuncData
  F_show_numbers : Fun K "show_numbers" "show_numbers" s_show_numbers a_show_numbers fd_show_numbers
  b_show_numbers : Binds K fd_show_numbers ["numbers"] []
  g_show_numbers : mg "show_numbers" = some (.ref a_show_numbers)
  a_show_ties : Addr
  fd_show_ties : FuncData
  F_show_ties : Fun K "show_ties" "show_ties" s_show_ties a_show_ties fd_show_ties
  b_show_ties : Binds K fd_show_ties ["ties"] []
  g_show_ties : mg "show_ties" = some (.ref a_show_ties)
  a_show_web : Addr
  fd_show_web : FuncData
  F_show_web : Fun K "show_web" "show_web" s_show_web a_show_web fd_show_web
  b_show_web : Binds K fd_show_web ["web"] []
  g_show_web : mg "show_web" = some (.ref a_show_web)
  a_show_set : Addr
  fd_show_set : FuncData
  F_show_set : Fun K "show_set" "show_set" s_show_set a_show_set fd_show_set
  b_show_set : Binds K fd_show_set ["some"] []
  g_show_set : mg "show_set" = some (.ref a_show_set)
  a_show_fraction : Addr
  fd_show_fraction : FuncData
  F_show_fraction : Fun K "show_fraction" "show_fraction" s_show_fraction a_show_fraction fd_show_fraction
  b_show_fraction : Binds K fd_show_fraction ["one"] []
  g_show_fraction : mg "show_fraction" = some (.ref a_show_fraction)
  a_number_in : Addr
  fd_number_in : FuncData
  F_number_in : Fun K "number_in" "number_in" s_number_in a_number_in fd_number_in
  b_number_in : Binds K fd_number_in ["word", "most"] []
  g_number_in : mg "number_in" = some (.ref a_number_in)
  a_tie_in : Addr
  fd_tie_in : FuncData
  F_tie_in : Fun K "tie_in" "tie_in" s_tie_in a_tie_in fd_tie_in
  b_tie_in : Binds K fd_tie_in ["word"] []
  g_tie_in : mg "tie_in" = some (.ref a_tie_in)
  a_read_web : Addr
  fd_read_web : FuncData
  F_read_web : Fun K "read_web" "read_web" s_read_web a_read_web fd_read_web
  b_read_web : Binds K fd_read_web ["text"] []
  g_read_web : mg "read_web" = some (.ref a_read_web)
  a_read_set : Addr
  fd_read_set : FuncData
  F_read_set : Fun K "read_set" "read_set" s_read_set a_read_set fd_read_set
  b_read_set : Binds K fd_read_set ["text"] []
  g_read_set : mg "read_set" = some (.ref a_read_set)
  a_is_fraction : Addr
  fd_is_fraction : FuncData
  F_is_fraction : Fun K "is_fraction" "is_fraction" s_is_fraction a_is_fraction fd_is_fraction
  b_is_fraction : Binds K fd_is_fraction ["over", "under"] []
  g_is_fraction : mg "is_fraction" = some (.ref a_is_fraction)
  a_read_fraction : Addr
  fd_read_fraction : FuncData
  F_read_fraction : Fun K "read_fraction" "read_fraction" s_read_fraction a_read_fraction fd_read_fraction
  b_read_fraction : Binds K fd_read_fraction ["text"] []
  g_read_fraction : mg "read_fraction" = some (.ref a_read_fraction)
  a__law_blend : Addr
  fd__law_blend : FuncData
  F__law_blend : Fun K "_law_blend" "_law_blend" s__law_blend a__law_blend fd__law_blend
  b__law_blend : Binds K fd__law_blend ["cell", "at"] []
  g__law_blend : mg "_law_blend" = some (.ref a__law_blend)
  a__law_pot : Addr
  fd__law_pot : FuncData
  F__law_pot : Fun K "_law_pot" "_law_pot" s__law_pot a__law_pot fd__law_pot
  b__law_pot : Binds K fd__law_pot ["script"] []
  g__law_pot : mg "_law_pot" = some (.ref a__law_pot)
  a__law_pick : Addr
  fd__law_pick : FuncData
  F__law_pick : Fun K "_law_pick" "_law_pick" s__law_pick a__law_pick fd__law_pick
  b__law_pick : Binds K fd__law_pick ["pot", "many"] []
  g__law_pick : mg "_law_pick" = some (.ref a__law_pick)
  a__law_order : Addr
  fd__law_order : FuncData
  F__law_order : Fun K "_law_order" "_law_order" s__law_order a__law_order fd__law_order
  b__law_order : Binds K fd__law_order ["pot", "many"] []
  g__law_order : mg "_law_order" = some (.ref a__law_order)
  a__law_web : Addr
  fd__law_web : FuncData
  F__law_web : Fun K "_law_web" "_law_web" s__law_web a__law_web fd__law_web
  b__law_web : Binds K fd__law_web ["pot", "most"] []
  g__law_web : mg "_law_web" = some (.ref a__law_web)
  a__law_any_ties : Addr
  fd__law_any_ties : FuncData
  F__law_any_ties : Fun K "_law_any_ties" "_law_any_ties" s__law_any_ties a__law_any_ties fd__law_any_ties
  b__law_any_ties : Binds K fd__law_any_ties ["pot", "most"] []
  g__law_any_ties : mg "_law_any_ties" = some (.ref a__law_any_ties)
  a__law_drawn_web : Addr
  fd__law_drawn_web : FuncData
  F__law_drawn_web : Fun K "_law_drawn_web" "_law_drawn_web" s__law_drawn_web a__law_drawn_web fd__law_drawn_web
  b__law_drawn_web : Binds K fd__law_drawn_web ["pot", "most"] []
  g__law_drawn_web : mg "_law_drawn_web" = some (.ref a__law_drawn_web)
  a__law_common : Addr
  fd__law_common : FuncData
  F__law_common : Fun K "_law_common" "_law_common" s__law_common a__law_common fd__law_common
  b__law_common : Binds K fd__law_common ["one", "other"] []
  g__law_common : mg "_law_common" = some (.ref a__law_common)
  a__law_fraction : Addr
  fd__law_fraction : FuncData
  F__law_fraction : Fun K "_law_fraction" "_law_fraction" s__law_fraction a__law_fraction fd__law_fraction
  b__law_fraction : Binds K fd__law_fraction ["pot"] []
  g__law_fraction : mg "_law_fraction" = some (.ref a__law_fraction)
  a__law_houses : Addr
  fd__law_houses : FuncData
  F__law_houses : Fun K "_law_houses" "_law_houses" s__law_houses a__law_houses fd__law_houses
  b__law_houses : Binds K fd__law_houses ["pot", "many"] []
  g__law_houses : mg "_law_houses" = some (.ref a__law_houses)
  a__law_read : Addr
  fd__law_read : FuncData
  F__law_read : Fun K "_law_read" "_law_read" s__law_read a__law_read fd__law_read
  b__law_read : Binds K fd__law_read ["way", "text"] []
  g__law_read : mg "_law_read" = some (.ref a__law_read)
  a__law_shown : Addr
  fd__law_shown : FuncData
  F__law_shown : Fun K "_law_shown" "_law_shown" s__law_shown a__law_shown fd__law_shown
  b__law_shown : Binds K fd__law_shown ["way", "thing"] []
  g__law_shown : mg "_law_shown" = some (.ref a__law_shown)
  a__law_is_it : Addr
  fd__law_is_it : FuncData
  F__law_is_it : Fun K "_law_is_it" "_law_is_it" s__law_is_it a__law_is_it fd__law_is_it
  b__law_is_it : Binds K fd__law_is_it ["way", "thing"] []
  g__law_is_it : mg "_law_is_it" = some (.ref a__law_is_it)
  a__law_other : Addr
  fd__law_other : FuncData
  F__law_other : Fun K "_law_other" "_law_other" s__law_other a__law_other fd__law_other
  b__law_other : Binds K fd__law_other ["pot", "way", "thing"] []
  g__law_other : mg "_law_other" = some (.ref a__law_other)
  c_ApartError : Addr
  g_ApartError : mg "ApartError" = some (.ref c_ApartError)
  kp_ApartError : PySem.W.keepIn K (.ref c_ApartError) = true
  y_ApartError : ExcC K c_ApartError
  ty_ApartError : PySem.W.typeIn K (.ref c_ApartError) = some (.type "type")
  x_ApartError : PySem.W.excIn K c_ApartError [.type "ValueError", .type "Exception", .type "BaseException", .type "object"] "ValueError.__new__" = true
  c_NoText : Addr
  g_NoText : mg "NoText" = some (.ref c_NoText)
  kp_NoText : PySem.W.keepIn K (.ref c_NoText) = true
  y_NoText : ExcC K c_NoText
  ty_NoText : PySem.W.typeIn K (.ref c_NoText) = some (.type "type")
  x_NoText : PySem.W.excIn K c_NoText [.type "ValueError", .type "Exception", .type "BaseException", .type "object"] "ValueError.__new__" = true
  k_ApartError_ApartError : PySem.W.kitOne K (.ref c_ApartError) (.ref c_ApartError) = some true
  k_ApartError_NoText : PySem.W.kitOne K (.ref c_ApartError) (.ref c_NoText) = some false
  kv_ApartError : PySem.W.kitOne K (.ref c_ApartError) (.type "ValueError") = some true
  e_ApartError : PySem.W.exmOne K (.ref c_ApartError) (.ref c_ApartError) = some true
  k_NoText_ApartError : PySem.W.kitOne K (.ref c_NoText) (.ref c_ApartError) = some true
  k_NoText_NoText : PySem.W.kitOne K (.ref c_NoText) (.ref c_NoText) = some true
  kv_NoText : PySem.W.kitOne K (.ref c_NoText) (.type "ValueError") = some true
  e_NoText : PySem.W.exmOne K (.ref c_NoText) (.ref c_ApartError) = some true
  es_NoText : PySem.W.exmOne K (.ref c_NoText) (.ref c_NoText) = some true
  g_gcd : mg "gcd" = some (.builtin "math.gcd")
  tk_MOST_HOUSES : Tok
  g_MOST_HOUSES : mg "MOST_HOUSES" = some (.int 60 tk_MOST_HOUSES)
  tk_FIGURES : Tok
  g_FIGURES : mg "FIGURES" = some (.str "0123456789" tk_FIGURES)
  tk_MOST_FIGURES : Tok
  g_MOST_FIGURES : mg "MOST_FIGURES" = some (.int 60 tk_MOST_FIGURES)
  n_ValueError : mg "ValueError" = none
  n_all : mg "all" = none
  n_int : mg "int" = none
  n_tuple : mg "tuple" = none
  n_list : mg "list" = none
  n_enumerate : mg "enumerate" = none
  n_range : mg "range" = none
  n_isinstance : mg "isinstance" = none
  n_str : mg "str" = none
  n_bool : mg "bool" = none
  n_len : mg "len" = none
  n_min : mg "min" = none
  n_max : mg "max" = none
  n_sorted : mg "sorted" = none
  n_zip : mg "zip" = none
  n_set : mg "set" = none
section
local macro_rules | `(tactic| walk_at "rd1") => `(tactic| (first
  | (with_reducible refine r_seq ?_) | (with_reducible refine r_asg ?_) | (with_reducible refine r_asgG ?_) | (with_reducible refine r_par ?_) | (with_reducible refine r_if ?_) | (with_reducible refine r_ret ?_) | (with_reducible refine r_drop ?_) | (with_reducible refine r_next ?_)
  | ((with_reducible refine' r_var ?hx ?_); (case hx => exact rfl)) | (with_reducible refine r_c ?_) | (with_reducible refine r_op ?_) | (with_reducible refine r_un ?_) | (with_reducible refine r_I0 ?_) | ((with_reducible refine r_I ?_ ?_); (· first | (show (0 : Int) < _; omega) | exact Or.inr ⟨by omega, by omega⟩ | exact Or.inl ⟨by omega, by omega⟩ | exact ⟨by omega, by omega, by decide⟩)) | (with_reducible refine r_U ?_)
  | (with_reducible refine r_test ?_) | (with_reducible refine r_B ?_) | (with_reducible refine r_bl ?_) | (with_reducible refine r_eqI ?_) | (with_reducible refine r_neI ?_)
  | ((with_reducible refine r_eq ?_ ?_); (· exact rfl)) | ((with_reducible refine r_ne ?_ ?_); (· exact rfl))
  | (with_reducible refine r_nil ?_) | (with_reducible refine r_cons ?_) | (with_reducible refine r_tup ?_) | (with_reducible refine r_lst ?_) | (with_reducible refine r_call ?_) | (with_reducible refine r_cb ?_)
  | (with_reducible refine r_and ?_) | (with_reducible refine r_or ?_) | (with_reducible refine r_not ?_) | (with_reducible refine r_andV ?_) | (with_reducible refine r_orV ?_) | (with_reducible refine r_notV ?_) | (with_reducible refine r_ifE ?_) | (with_reducible refine r_gSub ?_) | ((with_reducible refine' r_sIn ?h ?_); (case h => assumption)) | ((with_reducible refine' r_sNotIn ?h ?_); (case h => assumption)) | (with_reducible refine r_sadd ?_) | ((with_reducible refine' r_inI ?h ?_); (case h => assumption)) | ((with_reducible refine' r_notInI ?h ?_); (case h => assumption)) | ((with_reducible refine' r_eqNil ?h ?g ?_); (case h => assumption); (case g => assumption)) | ((with_reducible refine' r_neNil ?h ?g ?_); (case h => assumption); (case g => assumption)) | (with_reducible refine r_lstRg ?_) | (with_reducible refine r_rg1 ?_) | (with_reducible refine r_min2 ?_) | (with_reducible refine r_par2 ?_) | (with_reducible refine r_partI ?_) | (with_reducible refine r_lc ?_) | (with_reducible refine r_yes ?_) | (with_reducible refine r_iZipA ?_) | (with_reducible refine r_isN ?_) | ((with_reducible refine' iteRT ?hh ?_); (case hh => exact rfl)) | ((with_reducible refine' iteRF ?hh ?_); (case hh => exact rfl)) | ((with_reducible refine' r_isiT ?ty ?hk ?_); (case ty => first | assumption | exact tyx_L (by assumption) | exact tyx_T (by assumption) | exact .base (.non) | exact .base (.bl _) | exact .base (.int _) | exact .base (.str _)); (case hk => decide +kernel)) | ((with_reducible refine' r_isiF ?ty ?hk ?_); (case ty => first | assumption | exact tyx_L (by assumption) | exact tyx_T (by assumption) | exact .base (.non) | exact .base (.bl _) | exact .base (.int _) | exact .base (.str _)); (case hk => decide +kernel)) | (with_reducible refine r_for ?_) | (with_reducible refine r_iList ?_) | (with_reducible refine r_iTup ?_) | (with_reducible refine r_iRng1 ?_) | (with_reducible refine r_iRng2 ?_) | (with_reducible refine r_iEnum ?_) | (with_reducible refine r_iZip ?_) | (with_reducible refine r_gName ?_) | ((with_reducible refine' r_gTup2 ?hn ?hs ?_); (case hn => exact rfl); (case hs => first | assumption | exact SqT.of upd_same)) | (with_reducible refine r_bm ?_) | (with_reducible refine r_bm0 ?_) | (with_reducible refine r_sl ?_) | (with_reducible refine r_noPart ?_) | (with_reducible refine r_part ?_) | (with_reducible refine r_partI ?_) | ((refine' ⟨_, _, rfl, ?hl, ?_⟩); (case hl => first | exact Or.inl (by assumption) | exact Or.inr (by assumption)))
  | ((with_reducible refine' r_ixL ?hl ?ha ?_); (case hl => assumption); (case ha => first | exact rfl | assumption)) | ((with_reducible refine' r_ixT ?hl ?ha ?_); (case hl => assumption); (case ha => first | exact rfl | assumption))
  | ((with_reducible refine' r_setL ?hl ?hj ?_); (case hl => assumption); (case hj => first | exact rfl | assumption))))
local macro_rules | `(tactic| walk_at "rd") => `(tactic| repeat (walk_at "rd1"))

section
variable {w : World} {K : PySem.W.Frag} {mg : Str → Option Value} {base : Heap}

def sp_blend : Sp := fun vs H Q _ => ∃ cell at' : Int, vs = [.int cell, .int at'] ∧ 0 ≤ at' ∧ ∀ r : Int, 0 ≤ r → Q (.int r) H
theorem ok_l_blend0 (T : Env K mg) : FnOk P w K mg base CX0 1 T.a__law_blend T.fd__law_blend ["cell", "at"] sp_blend := by
  have nd := sc__law_blend.nd
  refine T.F__law_blend.ok sc__law_blend (fun vs H Q E h => ?_) (fun cdv A outer s H vs Q E hr h => ?_)
  · obtain ⟨c, a, rfl, _⟩ := h
    rfl
  · obtain ⟨cell, at', rfl, h0, k⟩ := h
    refine ⟨_, (pss_cons (ps_if (pt_cmpR op_ge (pv 0) (pe_op op_pow pe_int pe_int) (nomark _)) (pss_one (ps_ret (pv 0))) pss_nil)
      (pss_cons (ps_set (i := 2) nd rfl (.inl rfl) (pe_op op_mod (pe_op op_add (pe_op op_add (pe_op op_mul (pe_op op_mod (pv 0) pe_int) pe_int) (pe_op op_mul (pv 1) pe_int)) pe_int) pe_int))
      (pss_cons (ps_set (i := 3) nd rfl (.inl rfl) (pe_op op_mod (pe_op op_add (pe_op op_add (pe_op op_mul (pv 2) (pv 2)) (pe_op op_mul (pv 1) pe_int)) (pe_op op_mod (pv 0) pe_int)) pe_int))
      (pss_cons (ps_set (i := 4) nd rfl (.inl rfl) (pe_op op_mod (pe_op op_add (pe_op op_add (pe_op op_mul (pv 3) (pv 3)) (pe_op op_mul (pv 2) pe_int)) pe_int) pe_int))
      (pss_one (ps_ret (pe_op op_add (pe_op op_mul (pe_op op_add (pe_op op_mul (pv 2) pe_int) (pv 3)) pe_int) (pv 4)))))))), ?_⟩
    walk_at "rd"
    refine ite2 (fun hc => ?_) (fun hc => ?_)
    · walk_at "rd"
      refine k _ ?_
      have e : (10 : Int) ^ Int.toNat 18 = 1000000000000000000 := rfl
      have := of_decide_eq_true hc
      omega
    · walk_at "rd"
      exact k _ (by omega)

def sp_pick : Sp := fun vs H Q _ => ∃ (p c : Addr) (upto : Int), vs = [.ref p, .int upto] ∧ PotC H p c ∧ 0 < upto ∧ upto.natAbs < 2 ^ 1000 ∧ ∀ (r : Int) (H' : Hp), 0 ≤ r → r < upto → PotC H' p c → ExB p H H' → Q (.int r) H'
theorem ok_l_pick0 (T : Env K mg) : FnOk P w K mg base CX0 2 T.a__law_pick T.fd__law_pick ["pot", "many"] sp_pick := by
  have nd := sc__law_pick.nd
  have G__law_blend : FnOk P w K mg base CX0 1 T.a__law_blend T.fd__law_blend ["cell", "at"] sp_blend := ok_l_blend0 T
  refine T.F__law_pick.ok sc__law_pick (fun vs H Q E h => ?_) (fun cdv A outer s H vs Q E hr h => ?_)
  · obtain ⟨p, c, a, rfl, _⟩ := h
    rfl
  · obtain ⟨p, c, upto, rfl, hP, hu0, hu1, k⟩ := h
    obtain ⟨cs, at', r, hp, hc, hcp, h0, hr0, hl⟩ := hP
    have sp : SqL K H p [.ref c, .int at', .int r] := SqL.of hp
    have sc : SqL K H c (cs.map V.int) := SqL.of hc
    refine ⟨_, (Evl.pss_cut (ps_if (pt_cmpR op_lt (pe_ix ix_list (pv 0) pe_int (fun _ _ => rfl)) (pv 1) (nomark _)) (pss_cons (ps_set (i := 2) nd rfl (.inl rfl) (pe_ix ix_list (pv 0) pe_int (fun _ _ => rfl)))
      (pss_cons (ps_set (i := 3) nd rfl (.inl rfl) (pe_op op_mul pe_int (pv 2)))
      (Evl.pss_cut (ps_if (pt_cmpR op_lt (pv 2) (pe_callB call_len_seq (by rfl) T.n_len PySem.boot_len (pa_cons (pe_ix ix_list (pv 0) pe_int (fun _ _ => rfl)) pa_nil)) (nomark _)) (pss_one (ps_set (i := 3) nd rfl (.inl rfl) (pe_ix ix_list (pe_ix ix_list (pv 0) pe_int (fun _ _ => rfl)) (pv 2) (fun _ _ => rfl)))) (pss_one (ps_if (pt_cmpR (op_neD hr.units) (pe_ix ix_list (pv 0) pe_int (fun _ _ => rfl)) (pe_lst pa_nil) (nomark _)) (pss_one (ps_set (i := 3) nd rfl (.inl rfl) (pe_op op_mod (pe_ix ix_list (pe_ix ix_list (pv 0) pe_int (fun _ _ => rfl)) (pe_op op_mod (pe_op op_add (pe_op op_mul (pv 2) pe_int) pe_int) (pe_callB call_len_seq (by rfl) T.n_len PySem.boot_len (pa_cons (pe_ix ix_list (pv 0) pe_int (fun _ _ => rfl)) pa_nil))) (fun _ _ => rfl)) (pe_op op_add (pe_op op_pow pe_int pe_int) (pe_op op_mul pe_int (pv 2)))))) pss_nil)))
      (pss_cons (ps_asg (pe_op op_add (pv 2) pe_int) (pg_sub (pv 0) pe_int set_list))
      (pss_one (ps_asg (pe_call G__law_blend (hr.mono (by decide)) (by rfl) T.g__law_blend T.F__law_blend.kp T.b__law_blend .nil pass0 (pa_cons (pv 3) (pa_cons (pv 2) pa_nil))) (pg_sub (pv 0) pe_int set_list))))))) pss_nil)
      (pss_cons (ps_set (i := 4) nd rfl (.inl rfl) (pe_op op_mod (pe_ix ix_list (pv 0) pe_int (fun _ _ => rfl)) (pv 1)))
      (pss_cons (ps_asg (pe_op op_fdivW (pe_ix ix_list (pv 0) pe_int (fun _ _ => rfl)) (pv 1)) (pg_sub (pv 0) pe_int set_list))
      (pss_one (ps_ret (pv 4)))))), ?_⟩
    refine ⟨fun σ' H' => ∃ x2 x3 x4, σ' = [some (.ref p), some (.int upto), x2, x3, x4] ∧ ExB p H H' ∧ ∃ at2 r2 : Int, 0 ≤ at2 ∧ 0 ≤ r2 ∧ H' p = some (.lst [.ref c, .int at2, .int r2]) ∧ H' c = some (.lst (cs.map V.int)), ?_, ?_⟩
    · walk_at "rd"
      refine ite2 (fun hc1 => ?_) (fun hc1 => ?_)
      · walk_at "rd"
        refine ⟨fun σ' H' => ∃ cell : Int, σ' = [some (.ref p), some (.int upto), some (.int at'), some (.int cell), none] ∧ Evl.Ex H H', ?_, ?_⟩
        · walk_at "rd"
          refine ite2 (fun hc2 => ?_) (fun hc2 => ?_)
          · have ha : atI (cs.map V.int) at' = some (.int (cs.getD at'.toNat 0)) := atI_int h0 (by
              have := of_decide_eq_true hc2
              rw [List.length_map] at this
              omega)
            walk_at "rd"
            exact ⟨_, rfl, Evl.Ex.refl _⟩
          · walk_at "rd"
            refine ⟨Nat.zero_le _, fun q hq => ?_⟩
            have ex : Evl.Ex H (upd H q (.lst [])) := Evl.Ex.new hq
            have sp1 := Evl.ex_l ex sp
            have sc1 := Evl.ex_l ex sc
            refine ⟨_, _, dp_ints sc1, dp_ints (cs := []) (SqL.of upd_same), shaped_ints cs, shaped_ints [], ?_⟩
            walk_at "rd"
            refine ite2 (fun hc3 => ?_) (fun hc3 => ?_)
            · have hn : cs ≠ [] := by
                rintro rfl
                exact absurd hc3 (by decide)
              have hlen : 0 < cs.length := List.length_pos_iff.mpr hn
              walk_at "rd"
              refine ⟨_, _, rfl, rfl, (by rw [List.length_map]; omega), ?_⟩
              have hm0 := Int.emod_nonneg (at' * 7 + 1) (b := ((cs.map V.int).length : Int)) (by rw [List.length_map]; omega)
              have hm1 := Int.emod_lt_of_pos (at' * 7 + 1) (b := ((cs.map V.int).length : Int)) (by rw [List.length_map]; omega)
              have ha : atI (cs.map V.int) ((at' * 7 + 1) % ((cs.map V.int).length : Int)) = some (.int (cs.getD ((at' * 7 + 1) % ((cs.map V.int).length : Int)).toNat 0)) := atI_int hm0 (by
                rw [List.length_map] at hm1 ⊢
                omega)
              walk_at "rd"
              refine ⟨_, _, rfl, rfl, (by have e : (10 : Int) ^ Int.toNat 17 = 100000000000000000 := rfl; omega), ?_⟩
              exact ⟨_, rfl, ex⟩
            · walk_at "rd"
              exact ⟨_, rfl, ex⟩
        · rintro σ' H' ⟨cell, rfl, ex⟩
          have hp1 := ex p _ hp
          have sp1 := Evl.ex_l ex sp
          walk_at "rd"
          refine ⟨cell, at', rfl, h0, fun r2 hr2 => ?_⟩
          walk_at "rd"
          refine r_setL upd_same (by exact rfl) ?_
          refine ⟨_, _, _, rfl, ?_, at' + 1, r2, by omega, hr2, ?_, ?_⟩
          · exact (ExB.of ex).trans (ExB.upd.trans ExB.upd)
          · exact upd_same
          · rw [upd_ne hcp, upd_ne hcp]
            exact ex c _ hc
      · walk_at "rd"
        exact ⟨_, _, _, rfl, ExB.refl _ _, at', r, h0, hr0, hp, hc⟩
    · rintro σ' H' ⟨x2, x3, x4, rfl, ex, at2, r2, ha2, hr2, hp2, hc2⟩
      have sp2 : SqL K H' p [.ref c, .int at2, .int r2] := SqL.of hp2
      walk_at "rd"
      refine r_I (wide_div hu0 hu1 (by decide) (by decide)) ?_
      walk_at "rd"
      refine k _ _ (Int.emod_nonneg _ (by omega)) (Int.emod_lt_of_pos _ hu0) ⟨cs, at2, r2 / upto, upd_same, ?_, hcp, ha2, Int.ediv_nonneg hr2 (by omega), hl⟩ (ex.trans ExB.upd)
      rw [upd_ne hcp]
      exact hc2

def A_pick : Int → List V → Hp → Prop := fun u vs _ => vs = [.int u] ∧ 0 < u ∧ u.natAbs < 2 ^ 1000
def B_pick : Int → V → List (Addr × Cel) → Hp → Prop := fun u v N _ => N = [] ∧ ∃ r : Int, v = .int r ∧ 0 ≤ r ∧ r < u
theorem PotS.c {F H : Hp} {p : Addr} (h : PotS F H p) (fr : Evl.Ex F H) (hF : F p = none) : ∃ c, PotC H p c := by
  obtain ⟨c, cs, a, r, h1, h2, h3, h4, h5⟩ := h
  exact ⟨c, cs, a, r, h1, fr _ _ h2, Hp.ne (Hp.some_ne h2) hF, h3, h4, h5⟩
theorem ok_l_pick (T : Env K mg) : FnOk P w K mg base CX0 2 T.a__law_pick T.fd__law_pick ["pot", "many"] (SpP A_pick B_pick) := by
  refine (ok_l_pick0 T).imp fun vs H Q E h => ?_
  obtain ⟨u, F, p, r, rfl, fr, hF, hP, ⟨rfl, h0, h1⟩, k⟩ := h
  obtain ⟨c, cs, a, r, g1, g2, g3, g4, g5⟩ := hP
  have hc : c ≠ p := Hp.ne (Hp.some_ne g2) hF
  refine ⟨p, c, u, rfl, ⟨cs, a, r, g1, fr _ _ g2, hc, g3, g4, g5⟩, h0, h1, fun x H' x0 x1 P' e => ?_⟩
  obtain ⟨cs', a', r', q1, q2, q3, q4, q5, q6⟩ := P'
  have q2' := e c _ hc (fr _ _ g2)
  rw [q2] at q2'
  have q2' := HO.lst.inj (Option.some.inj q2')
  refine k (.int x) [] F H' ⟨fun b o hb n => e b o (by simpa using n) hb, fun b hb => ?_, Evl.Ex.refl _, fun b hb => .inl hb, fun b o hb => e b o (Hp.ne (Hp.some_ne hb) hF) (fr _ _ hb), fun m hm => ?_, by simp⟩ ⟨rfl, x, rfl, x0, x1⟩
  · cases z : H b with
    | none => rfl
    | some o =>
      by_cases q : b = p
      · rw [q, q1] at hb; cases hb
      · rw [e b o q z] at hb; cases hb
  · rw [List.nil_append, List.mem_singleton] at hm
    subst hm
    exact ⟨⟨⟨c, cs', a', r', q1, by rw [q2']; exact g2, q4, q5, q6⟩, .inl List.mem_cons_self⟩, hF⟩

end

end
section
local macro_rules | `(tactic| walk_at "ex") => `(tactic| first | exact Evl.Ex.refl _ | assumption | ((refine' Evl.Ex.trans ?x ?y); (case y => assumption); (case x => walk_at "ex")))
local macro_rules | `(tactic| walk_at "hc") => `(tactic| first
  | assumption
  | ((refine' Sep.rdM ?S 0 ?k); (case S => assumption); (case k => exact rfl)) | ((refine' Sep.rdM ?S 1 ?k); (case S => assumption); (case k => exact rfl)) | ((refine' Sep.rdM ?S 2 ?k); (case S => assumption); (case k => exact rfl)) | ((refine' Sep.rdM ?S 3 ?k); (case S => assumption); (case k => exact rfl)) | ((refine' Sep.rdM ?S 4 ?k); (case S => assumption); (case k => exact rfl))
  | ((refine' Sep.rdC ?S ?e ?h); (case S => assumption); (case h => assumption); (case e => walk_at "ex")))
local macro_rules | `(tactic| walk_at "hl") => `(tactic| first
  | assumption
  | ((refine' SqL.of (Sep.rdM ?S 0 ?k)); (case S => assumption); (case k => exact rfl)) | ((refine' SqL.of (Sep.rdM ?S 1 ?k)); (case S => assumption); (case k => exact rfl)) | ((refine' SqL.of (Sep.rdM ?S 2 ?k)); (case S => assumption); (case k => exact rfl)) | ((refine' SqL.of (Sep.rdM ?S 3 ?k)); (case S => assumption); (case k => exact rfl)) | ((refine' SqL.of (Sep.rdM ?S 4 ?k)); (case S => assumption); (case k => exact rfl))
  | ((refine' Sep.rdL ?S ?e ?h); (case S => assumption); (case h => assumption); (case e => walk_at "ex"))
  | ((refine' Sep.rdT ?S ?e ?h); (case S => assumption); (case h => assumption); (case e => walk_at "ex"))
  | ((refine' SqL.of (Sep.rdC ?S ?e ?h)); (case S => assumption); (case h => assumption); (case e => walk_at "ex"))
  | ((refine' SqT.of (Sep.rdC ?S ?e ?h)); (case S => assumption); (case h => assumption); (case e => walk_at "ex"))
  | ((refine' SqL.of ?h); (case h => assumption)) | ((refine' SqT.of ?h); (case h => assumption))
  | ((refine' Evl.ex_l ?e ?h); (case h => assumption); (case e => walk_at "ex")) | ((refine' Evl.ex_t ?e ?h); (case h => assumption); (case e => walk_at "ex"))
  | ((refine' SqL.of (?e _ _ ?h)); (case h => assumption); (case e => walk_at "ex")) | ((refine' SqT.of (?e _ _ ?h)); (case h => assumption); (case e => walk_at "ex")))
local macro_rules | `(tactic| walk_at "hs") => `(tactic| walk_at "hc")
local macro_rules | `(tactic| walk_at "dp") => `(tactic| first
  | assumption
  | ((refine' Sep.rdD ?S ?e ?h); (case S => assumption); (case h => assumption); (case e => walk_at "ex"))
  | ((refine' Dp.ex ?e _ _ ?h); (case h => assumption); (case e => walk_at "ex"))
  | ((refine' DpAll.ex ?e _ _ ?h); (case h => assumption); (case e => walk_at "ex"))
  | (refine' dp_intsD ?h; (case h => walk_at "hl")))
local macro_rules | `(tactic| walk_at "rd1") => `(tactic| (first
  | (with_reducible refine r_seq ?_)
  | (with_reducible refine r_asg ?_)
  | (with_reducible refine r_asgG ?_)
  | (with_reducible refine r_par ?_)
  | (with_reducible refine r_if ?_)
  | (with_reducible refine r_ret ?_)
  | (with_reducible refine r_drop ?_)
  | (with_reducible refine r_next ?_)
  | ((with_reducible refine' r_var ?hx ?_); (case hx => exact rfl))
  | (with_reducible refine r_c ?_)
  | (with_reducible refine r_op ?_)
  | (with_reducible refine r_un ?_)
  | (with_reducible refine r_I0 ?_)
  | ((with_reducible refine' r_I ?_ ?_); (· first | (show (0 : Int) < _; omega) | exact Or.inr ⟨by omega, by omega⟩ | exact Or.inl ⟨by omega, by omega⟩ | exact ⟨by omega, by omega, by decide⟩))
  | (with_reducible refine r_U ?_)
  | (with_reducible refine r_test ?_)
  | (with_reducible refine r_B ?_)
  | (with_reducible refine r_bl ?_)
  | (with_reducible refine r_eqI ?_)
  | (with_reducible refine r_neI ?_)
  | ((with_reducible refine' r_eq ?_ ?_); (· exact rfl))
  | ((with_reducible refine' r_ne ?_ ?_); (· exact rfl))
  | (with_reducible refine r_nil ?_)
  | (with_reducible refine r_cons ?_)
  | (with_reducible refine s_tup ?_)
  | (with_reducible refine s_lst ?_)
  | (with_reducible refine r_call ?_)
  | (with_reducible refine r_cb ?_)
  | (with_reducible refine r_and ?_)
  | (with_reducible refine r_or ?_)
  | (with_reducible refine r_not ?_)
  | (with_reducible refine r_andV ?_)
  | (with_reducible refine r_orV ?_)
  | (with_reducible refine r_notV ?_)
  | (with_reducible refine r_ifE ?_)
  | (with_reducible refine r_gSub ?_)
  | (with_reducible refine r_sadd ?_)
  | (with_reducible refine s_lstRg ?_)
  | (with_reducible refine r_rg1 ?_)
  | (with_reducible refine r_min2 ?_)
  | (with_reducible refine r_par2 ?_)
  | (with_reducible refine r_partI ?_)
  | (with_reducible refine s_lc ?_)
  | (with_reducible refine s_dc ?_)
  | (with_reducible refine r_yes ?_)
  | (with_reducible refine r_iZipA ?_)
  | (with_reducible refine r_isN ?_)
  | (with_reducible refine r_for ?_)
  | (with_reducible refine r_iList ?_)
  | (with_reducible refine r_iTup ?_)
  | (with_reducible refine r_iRng1 ?_)
  | (with_reducible refine r_iRng2 ?_)
  | (with_reducible refine r_iEnum ?_)
  | (with_reducible refine r_iZip ?_)
  | (with_reducible refine r_gName ?_)
  | (with_reducible refine r_isNV ?_)
  | (with_reducible refine r_notNV ?_)
  | (with_reducible refine r_bm ?_)
  | (with_reducible refine r_bm0 ?_)
  | (with_reducible refine r_sl ?_)
  | (with_reducible refine r_noPart ?_)
  | (with_reducible refine r_part ?_)
  | (with_reducible refine r_chain ?_)
  | (with_reducible refine r_iKeys ?_)
  | (with_reducible refine r_iItems ?_)
  | (with_reducible refine r_frz ?_)
  | (with_reducible refine r_dput ?_)
  | (with_reducible refine r_dget ?_)
  | (with_reducible refine r_din ?_)
  | (with_reducible refine r_dnotin ?_)
  | (with_reducible refine r_break ?_)
  | ((with_reducible refine' r_sIn ?h ?_); (case h => walk_at "hs"))
  | ((with_reducible refine' r_sNotIn ?h ?_); (case h => walk_at "hs"))
  | ((with_reducible refine' r_inI ?h ?_); (case h => walk_at "hl"))
  | ((with_reducible refine' r_notInI ?h ?_); (case h => walk_at "hl"))
  | ((with_reducible refine' r_eqNil ?h ?g ?_); (case h => walk_at "hl"); (case g => walk_at "hl"))
  | ((with_reducible refine' r_neNil ?h ?g ?_); (case h => walk_at "hl"); (case g => walk_at "hl"))
  | ((with_reducible refine' iteRT ?hh ?_); (case hh => exact rfl))
  | ((with_reducible refine' iteRF ?hh ?_); (case hh => exact rfl))
  | ((with_reducible refine' r_isiT ?ty ?hk ?_); (case ty => (first | assumption | exact tyx_L (by assumption) | exact tyx_T (by assumption) | exact .base (.non) | exact .base (.bl _) | exact .base (.int _) | exact .base (.str _) | exact tyx_L (by walk_at "hl") | exact tyx_T (by walk_at "hl"))); (case hk => decide +kernel))
  | ((with_reducible refine' r_isiF ?ty ?hk ?_); (case ty => (first | assumption | exact tyx_L (by assumption) | exact tyx_T (by assumption) | exact .base (.non) | exact .base (.bl _) | exact .base (.int _) | exact .base (.str _) | exact tyx_L (by walk_at "hl") | exact tyx_T (by walk_at "hl"))); (case hk => decide +kernel))
  | ((with_reducible refine' r_gTup2 ?hn ?hs ?_); (case hn => exact rfl); (case hs => walk_at "hl"))
  | ((with_reducible refine' s_list ?hl ?_); (case hl => first | exact Or.inl (by walk_at "hl") | exact Or.inr (by walk_at "hl")))
  | ((with_reducible refine' s_tupN ?hl ?_); (case hl => walk_at "hl"))
  | ((with_reducible refine' s_sortN ?hl ?_); (case hl => walk_at "hl"))
  | ((refine' ⟨_, _, rfl, ?hl, ?_⟩); (case hl => first | exact Or.inl (by walk_at "hl") | exact Or.inr (by walk_at "hl")))
  | ((with_reducible refine' r_ixL ?hl ?ha ?_); (case hl => walk_at "hl"); (case ha => first | exact rfl | assumption))
  | ((with_reducible refine' r_ixT ?hl ?ha ?_); (case hl => walk_at "hl"); (case ha => first | exact rfl | assumption))))
local macro_rules | `(tactic| walk_at "rd") => `(tactic| repeat (walk_at "rd1"))

section
variable {w : World} {K : PySem.W.Frag} {mg : Str → Option Value} {base : Heap}

def A_pot (K : PySem.W.Frag) : List Int → List V → Hp → Prop := fun ns vs F => ∃ a, vs = [.ref a] ∧ SqL K F a (ns.map V.int) ∧ ns.length ≤ 63
def B_pot : List Int → V → List (Addr × Cel) → Hp → Prop := fun _ v N _ => ∃ p, v = .ref p ∧ N = [(p, .pot)]
theorem ok_l_pot (T : Env K mg) : FnOk P w K mg base CX0 1 T.a__law_pot T.fd__law_pot ["script"] (SpF (A_pot K) B_pot) := by
  have nd := sc__law_pot.nd
  refine T.F__law_pot.ok sc__law_pot (fun vs H Q E h => ?_) (fun cdv A outer s H vs Q E hr h => ?_)
  · obtain ⟨x, F, _, ⟨a, rfl, _⟩, _⟩ := h
    rfl
  · obtain ⟨ns, F, fr, ⟨a, rfl, hS, hl⟩, k⟩ := h
    have S := Sep.start0 fr
    refine ⟨_, (pss_cons (ps_set (i := 1) nd rfl (.inl rfl) (pe_callTy call_listN (by rfl) T.n_list (by decide +kernel) (pa_cons (pe_slice sl_list (pv 0) po_none (po_some pe_int)) pa_nil)))
      (pss_cons (ps_for PassesOwn.never rfl (pi_enum (by rfl) T.n_enumerate (pa_cons (pe_slice sl_list (pv 0) (po_some pe_int) (po_some pe_int)) pa_nil)) (pg_tup rfl (pgs_cons (pg_name (i := 2) nd rfl (.inl rfl)) (pgs_cons (pg_name (i := 3) nd rfl (.inl rfl)) pgs_nil))) (pss_one (ps_asg (pe_op op_add (pe_ix ix_list (pv 1) (pe_op op_mod (pv 2) pe_int) (fun _ _ => rfl)) (pv 3)) (pg_sub (pv 1) (pe_op op_mod (pv 2) pe_int) set_list))))
      (pss_one (ps_ret (pe_lst (pa_cons (pv 1) (pa_cons pe_int (pa_cons pe_int pa_nil)))))))), ?_⟩
    walk_at "rd"
    refine s_slL (by walk_at "hl") (s_new S fun q F1 H1 S e1 c1 => ?_)
    walk_at "rd"
    refine s_own S fun c H2 S => ?_
    walk_at "rd"
    refine s_slL (by walk_at "hl") (s_new S fun q2 F3 H3 S e3 c3 => ?_)
    refine ⟨q2, _, rfl, by walk_at "hl", ?_⟩
    have e12 : cutV (ns.map V.int) none (some 12) = (ns.take 12).map V.int := by
      rw [cutV_map, show ((12 : Int)) = ((12 : Nat) : Int) from rfl, cutG_take]
    have e63 : cutV (ns.map V.int) (some 12) (some 63) = (cutG ns (some 12) (some 63)).map V.int := cutV_map ..
    have l63 := (cutG_len ns 12 63).2
    rw [e12] at S
    rw [e63] at c3
    refine s_forE (fun i σ' F' M' => ∃ (x2 x3 : Option V) (cs : List Int), σ' = [some (.ref a), some (.ref c), x2, x3] ∧ M' = [(c, .is (.lst (cs.map V.int)))] ∧ cs.length = (ns.take 12).length) S (SqL.of c3) ⟨none, none, ns.take 12, rfl, rfl, rfl⟩ ?_ ?_
    · rintro i x t σ' F4 F5 H5 M' ei S e4 e5 ct ⟨x2, x3, cs, rfl, rfl, h2⟩
      rw [List.getElem?_map] at ei
      cases e : (cutG ns (some 12) (some 63))[i]? with
      | none => rw [e] at ei; cases ei
      | some z =>
        rw [e] at ei
        cases ei
        have hlen : cs.length = 12 := by
          rw [h2, List.length_take]
          have : ¬ ns.length ≤ 12 := fun q => by
            have l := l63 q
            have lt := (List.getElem?_eq_some_iff.mp e).1
            have e1 : ((12 : Nat) : Int) = 12 := rfl
            have e2 : ((63 : Nat) : Int) = 63 := rfl
            rw [e1, e2] at l
            omega
          omega
        have ha : atI (cs.map V.int) ((i : Int) % 12) = some (.int (cs.getD ((i : Int) % 12).toNat 0)) := atI_int (by omega) (by omega)
        have hx : ixN (cs.map V.int).length ((i : Int) % 12) = some ((i : Int) % 12).toNat := by
          unfold ixN
          rw [if_pos (by omega), if_pos (by rw [List.length_map]; omega)]
        walk_at "rd"
        refine s_setL S 0 rfl hx fun H6 S => ?_
        refine ⟨F5, _, S, e4.trans e5, _, _, cs.set ((i : Int) % 12).toNat (cs.getD ((i : Int) % 12).toNat 0 + z), rfl, ?_, by rw [List.length_set]; exact h2⟩
        rw [List.map_set]
        rfl
    · rintro σ' F4 H4 M' S e4 ⟨x2, x3, cs, rfl, rfl, h2⟩
      walk_at "rd"
      obtain ⟨F5, S, e5, cc⟩ := S.frz 0 rfl
      refine ⟨(by show 3 ≤ sizeLine; decide), s_own S fun p H5 S => ?_⟩
      have S := S.topot 0 rfl ⟨c, cs, 0, 0, S.rdM 0 rfl, cc, Int.le_refl _, Int.le_refl _, by rw [h2, List.length_take]; omega⟩
      exact k _ _ _ _ S ⟨p, rfl, rfl⟩

end

end
section
local macro_rules | `(tactic| walk_at "ex") => `(tactic| first | exact Evl.Ex.refl _ | assumption | ((refine' Evl.Ex.trans ?x ?y); (case y => assumption); (case x => walk_at "ex")))
local macro_rules | `(tactic| walk_at "hc") => `(tactic| first
  | assumption
  | ((refine' Sep.rdM ?S 0 ?k); (case S => assumption); (case k => exact rfl)) | ((refine' Sep.rdM ?S 1 ?k); (case S => assumption); (case k => exact rfl)) | ((refine' Sep.rdM ?S 2 ?k); (case S => assumption); (case k => exact rfl)) | ((refine' Sep.rdM ?S 3 ?k); (case S => assumption); (case k => exact rfl)) | ((refine' Sep.rdM ?S 4 ?k); (case S => assumption); (case k => exact rfl))
  | ((refine' Sep.rdC ?S ?e ?h); (case S => assumption); (case h => assumption); (case e => walk_at "ex")))
local macro_rules | `(tactic| walk_at "hl") => `(tactic| first
  | assumption
  | ((refine' SqL.of (Sep.rdM ?S 0 ?k)); (case S => assumption); (case k => exact rfl)) | ((refine' SqL.of (Sep.rdM ?S 1 ?k)); (case S => assumption); (case k => exact rfl)) | ((refine' SqL.of (Sep.rdM ?S 2 ?k)); (case S => assumption); (case k => exact rfl)) | ((refine' SqL.of (Sep.rdM ?S 3 ?k)); (case S => assumption); (case k => exact rfl)) | ((refine' SqL.of (Sep.rdM ?S 4 ?k)); (case S => assumption); (case k => exact rfl))
  | ((refine' Sep.rdL ?S ?e ?h); (case S => assumption); (case h => assumption); (case e => walk_at "ex"))
  | ((refine' Sep.rdT ?S ?e ?h); (case S => assumption); (case h => assumption); (case e => walk_at "ex"))
  | ((refine' SqL.of (Sep.rdC ?S ?e ?h)); (case S => assumption); (case h => assumption); (case e => walk_at "ex"))
  | ((refine' SqT.of (Sep.rdC ?S ?e ?h)); (case S => assumption); (case h => assumption); (case e => walk_at "ex"))
  | ((refine' SqL.of ?h); (case h => assumption)) | ((refine' SqT.of ?h); (case h => assumption))
  | ((refine' Evl.ex_l ?e ?h); (case h => assumption); (case e => walk_at "ex")) | ((refine' Evl.ex_t ?e ?h); (case h => assumption); (case e => walk_at "ex"))
  | ((refine' SqL.of (?e _ _ ?h)); (case h => assumption); (case e => walk_at "ex")) | ((refine' SqT.of (?e _ _ ?h)); (case h => assumption); (case e => walk_at "ex")))
local macro_rules | `(tactic| walk_at "hs") => `(tactic| walk_at "hc")
local macro_rules | `(tactic| walk_at "dp") => `(tactic| first
  | assumption
  | ((refine' Sep.rdD ?S ?e ?h); (case S => assumption); (case h => assumption); (case e => walk_at "ex"))
  | ((refine' Dp.ex ?e _ _ ?h); (case h => assumption); (case e => walk_at "ex"))
  | ((refine' DpAll.ex ?e _ _ ?h); (case h => assumption); (case e => walk_at "ex"))
  | (refine' dp_intsD ?h; (case h => walk_at "hl")))
local macro_rules | `(tactic| walk_at "rd1") => `(tactic| (first
  | (with_reducible refine r_seq ?_)
  | (with_reducible refine r_asg ?_)
  | (with_reducible refine r_asgG ?_)
  | (with_reducible refine r_par ?_)
  | (with_reducible refine r_if ?_)
  | (with_reducible refine r_ret ?_)
  | (with_reducible refine r_drop ?_)
  | (with_reducible refine r_next ?_)
  | ((with_reducible refine' r_var ?hx ?_); (case hx => exact rfl))
  | (with_reducible refine r_c ?_)
  | (with_reducible refine r_op ?_)
  | (with_reducible refine r_un ?_)
  | (with_reducible refine r_I0 ?_)
  | ((with_reducible refine' r_I ?_ ?_); (· first | (show (0 : Int) < _; omega) | exact Or.inr ⟨by omega, by omega⟩ | exact Or.inl ⟨by omega, by omega⟩ | exact ⟨by omega, by omega, by decide⟩))
  | (with_reducible refine r_U ?_)
  | (with_reducible refine r_test ?_)
  | (with_reducible refine r_B ?_)
  | (with_reducible refine r_bl ?_)
  | (with_reducible refine r_eqI ?_)
  | (with_reducible refine r_neI ?_)
  | ((with_reducible refine' r_eq ?_ ?_); (· exact rfl))
  | ((with_reducible refine' r_ne ?_ ?_); (· exact rfl))
  | (with_reducible refine r_nil ?_)
  | (with_reducible refine r_cons ?_)
  | (with_reducible refine s_tup ?_)
  | (with_reducible refine s_lst ?_)
  | (with_reducible refine r_call ?_)
  | (with_reducible refine r_cb ?_)
  | (with_reducible refine r_and ?_)
  | (with_reducible refine r_or ?_)
  | (with_reducible refine r_not ?_)
  | (with_reducible refine r_andV ?_)
  | (with_reducible refine r_orV ?_)
  | (with_reducible refine r_notV ?_)
  | (with_reducible refine r_ifE ?_)
  | (with_reducible refine r_gSub ?_)
  | (with_reducible refine r_sadd ?_)
  | (with_reducible refine s_lstRg ?_)
  | (with_reducible refine r_rg1 ?_)
  | (with_reducible refine r_min2 ?_)
  | (with_reducible refine r_par2 ?_)
  | (with_reducible refine r_partI ?_)
  | (with_reducible refine s_lc ?_)
  | (with_reducible refine s_dc ?_)
  | (with_reducible refine r_yes ?_)
  | (with_reducible refine r_iZipA ?_)
  | (with_reducible refine r_isN ?_)
  | (with_reducible refine r_for ?_)
  | (with_reducible refine r_iList ?_)
  | (with_reducible refine r_iTup ?_)
  | (with_reducible refine r_iRng1 ?_)
  | (with_reducible refine r_iRng2 ?_)
  | (with_reducible refine r_iEnum ?_)
  | (with_reducible refine r_iZip ?_)
  | (with_reducible refine r_gName ?_)
  | (with_reducible refine r_isNV ?_)
  | (with_reducible refine r_notNV ?_)
  | (with_reducible refine r_bm ?_)
  | (with_reducible refine r_bm0 ?_)
  | (with_reducible refine r_sl ?_)
  | (with_reducible refine r_noPart ?_)
  | (with_reducible refine r_part ?_)
  | (with_reducible refine r_chain ?_)
  | (with_reducible refine r_iKeys ?_)
  | (with_reducible refine r_iItems ?_)
  | (with_reducible refine r_frz ?_)
  | (with_reducible refine r_dput ?_)
  | (with_reducible refine r_dget ?_)
  | (with_reducible refine r_din ?_)
  | (with_reducible refine r_dnotin ?_)
  | (with_reducible refine r_break ?_)
  | ((with_reducible refine' r_sIn ?h ?_); (case h => walk_at "hs"))
  | ((with_reducible refine' r_sNotIn ?h ?_); (case h => walk_at "hs"))
  | ((with_reducible refine' r_inI ?h ?_); (case h => walk_at "hl"))
  | ((with_reducible refine' r_notInI ?h ?_); (case h => walk_at "hl"))
  | ((with_reducible refine' r_eqNil ?h ?g ?_); (case h => walk_at "hl"); (case g => walk_at "hl"))
  | ((with_reducible refine' r_neNil ?h ?g ?_); (case h => walk_at "hl"); (case g => walk_at "hl"))
  | ((with_reducible refine' iteRT ?hh ?_); (case hh => exact rfl))
  | ((with_reducible refine' iteRF ?hh ?_); (case hh => exact rfl))
  | ((with_reducible refine' r_isiT ?ty ?hk ?_); (case ty => (first | assumption | exact tyx_L (by assumption) | exact tyx_T (by assumption) | exact .base (.non) | exact .base (.bl _) | exact .base (.int _) | exact .base (.str _) | exact tyx_L (by walk_at "hl") | exact tyx_T (by walk_at "hl"))); (case hk => decide +kernel))
  | ((with_reducible refine' r_isiF ?ty ?hk ?_); (case ty => (first | assumption | exact tyx_L (by assumption) | exact tyx_T (by assumption) | exact .base (.non) | exact .base (.bl _) | exact .base (.int _) | exact .base (.str _) | exact tyx_L (by walk_at "hl") | exact tyx_T (by walk_at "hl"))); (case hk => decide +kernel))
  | ((with_reducible refine' r_gTup2 ?hn ?hs ?_); (case hn => exact rfl); (case hs => walk_at "hl"))
  | ((with_reducible refine' s_list ?hl ?_); (case hl => first | exact Or.inl (by walk_at "hl") | exact Or.inr (by walk_at "hl")))
  | ((with_reducible refine' s_tupN ?hl ?_); (case hl => walk_at "hl"))
  | ((with_reducible refine' s_sortN ?hl ?_); (case hl => walk_at "hl"))
  | ((refine' ⟨_, _, rfl, ?hl, ?_⟩); (case hl => first | exact Or.inl (by walk_at "hl") | exact Or.inr (by walk_at "hl")))
  | ((with_reducible refine' r_ixL ?hl ?ha ?_); (case hl => walk_at "hl"); (case ha => first | exact rfl | assumption))
  | ((with_reducible refine' r_ixT ?hl ?ha ?_); (case hl => walk_at "hl"); (case ha => first | exact rfl | assumption))))
local macro_rules | `(tactic| walk_at "rd") => `(tactic| repeat (walk_at "rd1"))

section
variable {w : World} {K : PySem.W.Frag} {mg : Str → Option Value} {base : Heap}

def A_order : Int → List V → Hp → Prop := fun many vs _ => vs = [.int many] ∧ 0 ≤ many ∧ many ≤ 60
def B_order : Int → V → List (Addr × Cel) → Hp → Prop := fun many v N _ => ∃ (q : Addr) (os : List Int), v = .ref q ∧ N = [(q, .is (.lst (os.map V.int)))] ∧ os.Perm (rgI many)
theorem ins_perm (xs : List Int) (i : Nat) (x : Int) : (xs.take i ++ [x] ++ xs.drop i).Perm (xs ++ [x]) := by
  have h : (xs.take i ++ ([x] ++ xs.drop i)).Perm (xs.take i ++ (xs.drop i ++ [x])) := List.Perm.append_left _ List.perm_append_comm
  rw [← List.append_assoc, ← List.append_assoc, List.take_append_drop] at h
  exact h
theorem rgI_snoc {n : Nat} : rgI ((n : Int) + 1) = rgI (n : Int) ++ [(n : Int)] := by
  unfold rgI
  rw [show ((n : Int) + 1).toNat = n + 1 by omega, show ((n : Int)).toNat = n by omega, List.range_succ, List.map_append]
  rfl
theorem ok_l_order (T : Env K mg) : FnOk P w K mg base CX0 3 T.a__law_order T.fd__law_order ["pot", "many"] (SpP A_order B_order) := by
  have nd := sc__law_order.nd
  have G__law_pick : FnOk P w K mg base CX0 2 T.a__law_pick T.fd__law_pick ["pot", "many"] (SpP A_pick B_pick) := ok_l_pick T
  refine T.F__law_order.ok sc__law_order (fun vs H Q E h => ?_) (fun cdv A outer s H vs Q E hr h => ?_)
  · obtain ⟨x, F, p, r, rfl, _, _, _, ⟨rfl, _⟩, _⟩ := h
    rfl
  · obtain ⟨many, F, p, r, rfl, fr, hF, hP, ⟨rfl, hm1, hm2⟩, k⟩ := h
    have S := Sep.startP fr hF hP
    refine ⟨_, (pss_cons (ps_set (i := 2) nd rfl (.inl rfl) (pe_lst pa_nil))
      (pss_cons (ps_for PassesOwn.never rfl (pi_range1 (by rfl) T.n_range (pa_cons (pv 1) pa_nil)) (pg_name (i := 3) nd rfl (.inl rfl)) (pss_one (ps_expr (pe_bm PySem.F.plainAttrs_list PySem.F.slot_list_insert PySem.F.type_list_insert mt_ins (pv 2) (pa_cons (pe_call G__law_pick (hr.mono (by decide)) (by rfl) T.g__law_pick T.F__law_pick.kp T.b__law_pick .nil pass0 (pa_cons (pv 0) (pa_cons (pe_op op_add (pv 3) pe_int) pa_nil))) (pa_cons (pv 3) pa_nil))))))
      (pss_one (ps_ret (pv 2))))), ?_⟩
    walk_at "rd"
    refine ⟨Nat.zero_le _, s_own S fun q H1 S => ?_⟩
    walk_at "rd"
    refine ⟨many, rfl, by omega, by omega, ?_⟩
    refine s_forR (fun i σ' F' M' => ∃ (x3 : Option V) (os : List Int), σ' = [some (.ref p), some (.int many), some (.ref q), x3] ∧ M' = [(q, .is (.lst (os.map V.int))), (p, .pot)] ∧ os.Perm (rgI (i : Int))) S ⟨none, [], rfl, rfl, List.Perm.refl _⟩ ?_ ?_
    · rintro i σ' F1 H2 M' hi S e1 ⟨x3, os, rfl, rfl, h1⟩
      have hl : os.length = i := by rw [h1.length_eq, rgI_len]; omega
      walk_at "rd"
      refine ⟨tyL (by walk_at "hl"), ?_⟩
      walk_at "rd"
      refine r_callP S 1 rfl _ ⟨rfl, by omega, small_up (by omega) (by omega)⟩ fun v N F2 H3 S e2 ⟨z, r, ev, hr0, hr1⟩ => ?_
      subst z ev
      walk_at "rd"
      refine s_insert S 0 rfl (by rw [List.length_map]; omega) hr0 (by omega) fun H4 S => ?_
      refine ⟨_, _, S, by walk_at "ex", _, os.take r.toNat ++ [(0 + (i : Int))] ++ os.drop r.toNat, rfl, ?_, ?_⟩
      · show [(q, Cel.is (.lst (List.take r.toNat (os.map V.int) ++ [V.int (0 + (i : Int))] ++ List.drop r.toNat (os.map V.int)))), (p, Cel.pot)] = _
        rw [List.map_append, List.map_append, List.map_take, List.map_drop]
        rfl
      · rw [show ((i + 1 : Nat) : Int) = (i : Int) + 1 by omega, rgI_snoc, show (0 + (i : Int)) = (i : Int) by omega]
        exact (ins_perm os _ _).trans (List.Perm.append_right _ h1)
    · rintro σ' F1 H2 M' S e1 ⟨x3, os, rfl, rfl, h1⟩
      walk_at "rd"
      refine k _ [(q, .is (.lst (os.map V.int)))] _ _ S ⟨q, os, rfl, rfl, ?_⟩
      rw [show ((many.toNat : Nat) : Int) = many by omega] at h1
      exact h1

end

end
section
local macro_rules | `(tactic| walk_at "ex") => `(tactic| first | exact Evl.Ex.refl _ | assumption | ((refine' Evl.Ex.trans ?x ?y); (case y => assumption); (case x => walk_at "ex")))
local macro_rules | `(tactic| walk_at "hc") => `(tactic| first
  | assumption
  | ((refine' Sep.rdM ?S 0 ?k); (case S => assumption); (case k => exact rfl)) | ((refine' Sep.rdM ?S 1 ?k); (case S => assumption); (case k => exact rfl)) | ((refine' Sep.rdM ?S 2 ?k); (case S => assumption); (case k => exact rfl)) | ((refine' Sep.rdM ?S 3 ?k); (case S => assumption); (case k => exact rfl)) | ((refine' Sep.rdM ?S 4 ?k); (case S => assumption); (case k => exact rfl))
  | ((refine' Sep.rdC ?S ?e ?h); (case S => assumption); (case h => assumption); (case e => walk_at "ex")))
local macro_rules | `(tactic| walk_at "hl") => `(tactic| first
  | assumption
  | ((refine' SqL.of (Sep.rdM ?S 0 ?k)); (case S => assumption); (case k => exact rfl)) | ((refine' SqL.of (Sep.rdM ?S 1 ?k)); (case S => assumption); (case k => exact rfl)) | ((refine' SqL.of (Sep.rdM ?S 2 ?k)); (case S => assumption); (case k => exact rfl)) | ((refine' SqL.of (Sep.rdM ?S 3 ?k)); (case S => assumption); (case k => exact rfl)) | ((refine' SqL.of (Sep.rdM ?S 4 ?k)); (case S => assumption); (case k => exact rfl))
  | ((refine' Sep.rdL ?S ?e ?h); (case S => assumption); (case h => assumption); (case e => walk_at "ex"))
  | ((refine' Sep.rdT ?S ?e ?h); (case S => assumption); (case h => assumption); (case e => walk_at "ex"))
  | ((refine' SqL.of (Sep.rdC ?S ?e ?h)); (case S => assumption); (case h => assumption); (case e => walk_at "ex"))
  | ((refine' SqT.of (Sep.rdC ?S ?e ?h)); (case S => assumption); (case h => assumption); (case e => walk_at "ex"))
  | ((refine' SqL.of ?h); (case h => assumption)) | ((refine' SqT.of ?h); (case h => assumption))
  | ((refine' Evl.ex_l ?e ?h); (case h => assumption); (case e => walk_at "ex")) | ((refine' Evl.ex_t ?e ?h); (case h => assumption); (case e => walk_at "ex"))
  | ((refine' SqL.of (?e _ _ ?h)); (case h => assumption); (case e => walk_at "ex")) | ((refine' SqT.of (?e _ _ ?h)); (case h => assumption); (case e => walk_at "ex")))
local macro_rules | `(tactic| walk_at "hs") => `(tactic| walk_at "hc")
local macro_rules | `(tactic| walk_at "dp") => `(tactic| first
  | assumption
  | ((refine' Sep.rdD ?S ?e ?h); (case S => assumption); (case h => assumption); (case e => walk_at "ex"))
  | ((refine' Dp.ex ?e _ _ ?h); (case h => assumption); (case e => walk_at "ex"))
  | ((refine' DpAll.ex ?e _ _ ?h); (case h => assumption); (case e => walk_at "ex"))
  | (refine' dp_intsD ?h; (case h => walk_at "hl")))
local macro_rules | `(tactic| walk_at "rd1") => `(tactic| (first
  | (with_reducible refine r_seq ?_)
  | (with_reducible refine r_asg ?_)
  | (with_reducible refine r_asgG ?_)
  | (with_reducible refine r_par ?_)
  | (with_reducible refine r_if ?_)
  | (with_reducible refine r_ret ?_)
  | (with_reducible refine r_drop ?_)
  | (with_reducible refine r_next ?_)
  | ((with_reducible refine' r_var ?hx ?_); (case hx => exact rfl))
  | (with_reducible refine r_c ?_)
  | (with_reducible refine r_op ?_)
  | (with_reducible refine r_un ?_)
  | (with_reducible refine r_I0 ?_)
  | ((with_reducible refine' r_I ?_ ?_); (· first | (show (0 : Int) < _; omega) | exact Or.inr ⟨by omega, by omega⟩ | exact Or.inl ⟨by omega, by omega⟩ | exact ⟨by omega, by omega, by decide⟩))
  | (with_reducible refine r_U ?_)
  | (with_reducible refine r_test ?_)
  | (with_reducible refine r_B ?_)
  | (with_reducible refine r_bl ?_)
  | (with_reducible refine r_eqI ?_)
  | (with_reducible refine r_neI ?_)
  | ((with_reducible refine' r_eq ?_ ?_); (· exact rfl))
  | ((with_reducible refine' r_ne ?_ ?_); (· exact rfl))
  | (with_reducible refine r_nil ?_)
  | (with_reducible refine r_cons ?_)
  | (with_reducible refine s_tup ?_)
  | (with_reducible refine s_lst ?_)
  | (with_reducible refine r_call ?_)
  | (with_reducible refine r_cb ?_)
  | (with_reducible refine r_and ?_)
  | (with_reducible refine r_or ?_)
  | (with_reducible refine r_not ?_)
  | (with_reducible refine r_andV ?_)
  | (with_reducible refine r_orV ?_)
  | (with_reducible refine r_notV ?_)
  | (with_reducible refine r_ifE ?_)
  | (with_reducible refine r_gSub ?_)
  | (with_reducible refine r_sadd ?_)
  | (with_reducible refine s_lstRg ?_)
  | (with_reducible refine r_rg1 ?_)
  | (with_reducible refine r_min2 ?_)
  | (with_reducible refine r_par2 ?_)
  | (with_reducible refine r_partI ?_)
  | (with_reducible refine s_lc ?_)
  | (with_reducible refine s_dc ?_)
  | (with_reducible refine r_yes ?_)
  | (with_reducible refine r_iZipA ?_)
  | (with_reducible refine r_isN ?_)
  | (with_reducible refine r_for ?_)
  | (with_reducible refine r_iList ?_)
  | (with_reducible refine r_iTup ?_)
  | (with_reducible refine r_iRng1 ?_)
  | (with_reducible refine r_iRng2 ?_)
  | (with_reducible refine r_iEnum ?_)
  | (with_reducible refine r_iZip ?_)
  | (with_reducible refine r_gName ?_)
  | (with_reducible refine r_isNV ?_)
  | (with_reducible refine r_notNV ?_)
  | (with_reducible refine r_bm ?_)
  | (with_reducible refine r_bm0 ?_)
  | (with_reducible refine r_sl ?_)
  | (with_reducible refine r_noPart ?_)
  | (with_reducible refine r_part ?_)
  | (with_reducible refine r_chain ?_)
  | (with_reducible refine r_iKeys ?_)
  | (with_reducible refine r_iItems ?_)
  | (with_reducible refine r_frz ?_)
  | (with_reducible refine r_dput ?_)
  | (with_reducible refine r_dget ?_)
  | (with_reducible refine r_din ?_)
  | (with_reducible refine r_dnotin ?_)
  | (with_reducible refine r_break ?_)
  | ((with_reducible refine' r_sIn ?h ?_); (case h => walk_at "hs"))
  | ((with_reducible refine' r_sNotIn ?h ?_); (case h => walk_at "hs"))
  | ((with_reducible refine' r_inI ?h ?_); (case h => walk_at "hl"))
  | ((with_reducible refine' r_notInI ?h ?_); (case h => walk_at "hl"))
  | ((with_reducible refine' r_eqNil ?h ?g ?_); (case h => walk_at "hl"); (case g => walk_at "hl"))
  | ((with_reducible refine' r_neNil ?h ?g ?_); (case h => walk_at "hl"); (case g => walk_at "hl"))
  | ((with_reducible refine' iteRT ?hh ?_); (case hh => exact rfl))
  | ((with_reducible refine' iteRF ?hh ?_); (case hh => exact rfl))
  | ((with_reducible refine' r_isiT ?ty ?hk ?_); (case ty => (first | assumption | exact tyx_L (by assumption) | exact tyx_T (by assumption) | exact .base (.non) | exact .base (.bl _) | exact .base (.int _) | exact .base (.str _) | exact tyx_L (by walk_at "hl") | exact tyx_T (by walk_at "hl"))); (case hk => decide +kernel))
  | ((with_reducible refine' r_isiF ?ty ?hk ?_); (case ty => (first | assumption | exact tyx_L (by assumption) | exact tyx_T (by assumption) | exact .base (.non) | exact .base (.bl _) | exact .base (.int _) | exact .base (.str _) | exact tyx_L (by walk_at "hl") | exact tyx_T (by walk_at "hl"))); (case hk => decide +kernel))
  | ((with_reducible refine' r_gTup2 ?hn ?hs ?_); (case hn => exact rfl); (case hs => walk_at "hl"))
  | ((with_reducible refine' s_list ?hl ?_); (case hl => first | exact Or.inl (by walk_at "hl") | exact Or.inr (by walk_at "hl")))
  | ((with_reducible refine' s_tupN ?hl ?_); (case hl => walk_at "hl"))
  | ((with_reducible refine' s_sortN ?hl ?_); (case hl => walk_at "hl"))
  | ((refine' ⟨_, _, rfl, ?hl, ?_⟩); (case hl => first | exact Or.inl (by walk_at "hl") | exact Or.inr (by walk_at "hl")))
  | ((with_reducible refine' r_ixL ?hl ?ha ?_); (case hl => walk_at "hl"); (case ha => first | exact rfl | assumption))
  | ((with_reducible refine' r_ixT ?hl ?ha ?_); (case hl => walk_at "hl"); (case ha => first | exact rfl | assumption))))
local macro_rules | `(tactic| walk_at "rd") => `(tactic| repeat (walk_at "rd1"))

section
variable {w : World} {K : PySem.W.Frag} {mg : Str → Option Value} {base : Heap}

def A_web : Int → List V → Hp → Prop := fun most vs _ => vs = [.int most] ∧ 1 ≤ most ∧ most ≤ 60
def B_web (K : PySem.W.Frag) : Int → V → List (Addr × Cel) → Hp → Prop := fun most v N F => N = [] ∧ ∃ many ties, many ≤ most ∧ WebOk many ties ∧ Dp K F v (webD many ties)
/-- pairs that were drawn row by row, up to (i, j) -/
structure Upto (many : Int) (ps : List (Int × Int)) (i j : Int) : Prop where
  up : ps.Pairwise Lx
  lt : ∀ t ∈ ps, Lx t (i, j)
  ok : ∀ t ∈ ps, 0 ≤ t.1 ∧ t.1 < t.2 ∧ t.2 < many
theorem Upto.mono {many : Int} {ps : List (Int × Int)} {i j i' j' : Int} (h : Upto many ps i j) (e : i < i' ∨ (i = i' ∧ j ≤ j')) : Upto many ps i' j' :=
  ⟨h.up, fun t ht => by have := h.lt t ht; unfold Lx at *; simp only at *; omega, h.ok⟩
theorem Upto.snoc {many : Int} {ps : List (Int × Int)} {i j : Int} (h : Upto many ps i j) (h0 : 0 ≤ i) (h1 : i < j) (h2 : j < many) : Upto many (ps ++ [(i, j)]) i (j + 1) := by
  refine ⟨List.pairwise_append.mpr ⟨h.up, List.pairwise_singleton _ _, fun a ha b hb => by rw [List.mem_singleton.mp hb]; exact h.lt a ha⟩, fun t ht => ?_, fun t ht => ?_⟩
  · rcases List.mem_append.mp ht with ht | ht
    · have := h.lt t ht; unfold Lx at *; simp only at *; omega
    · rw [List.mem_singleton.mp ht]; exact .inr ⟨rfl, by show j < j + 1; omega⟩
  · rcases List.mem_append.mp ht with ht | ht
    · exact h.ok t ht
    · rw [List.mem_singleton.mp ht]; exact ⟨h0, h1, h2⟩
theorem ok_l_any_ties (T : Env K mg) : FnOk P w K mg base CX0 3 T.a__law_any_ties T.fd__law_any_ties ["pot", "most"] (SpP A_web (B_web K)) := by
  have nd := sc__law_any_ties.nd
  have G__law_pick : FnOk P w K mg base CX0 2 T.a__law_pick T.fd__law_pick ["pot", "many"] (SpP A_pick B_pick) := ok_l_pick T
  refine T.F__law_any_ties.ok sc__law_any_ties (fun vs H Q E h => ?_) (fun cdv A outer s H vs Q E hr h => ?_)
  · obtain ⟨x, F, p, r, rfl, _, _, _, ⟨rfl, _⟩, _⟩ := h
    rfl
  · obtain ⟨most, F, p, r, rfl, fr, hF, hP, ⟨rfl, hm1, hm2⟩, k⟩ := h
    have S := Sep.startP fr hF hP
    refine ⟨_, (pss_cons (ps_set (i := 2) nd rfl (.inl rfl) (pe_call G__law_pick (hr.mono (by decide)) (by rfl) T.g__law_pick T.F__law_pick.kp T.b__law_pick .nil pass0 (pa_cons (pv 0) (pa_cons pe_int pa_nil))))
      (pss_cons (ps_set (i := 3) nd rfl (.inl rfl) (pe_op op_add pe_int (pe_call G__law_pick (hr.mono (by decide)) (by rfl) T.g__law_pick T.F__law_pick.kp T.b__law_pick .nil pass0 (pa_cons (pv 0) (pa_cons (pv 1) pa_nil)))))
      (pss_cons (ps_set (i := 4) nd rfl (.inl rfl) (pe_lst pa_nil))
      (pss_cons (ps_for PassesOwn.never rfl (pi_range1 (by rfl) T.n_range (pa_cons (pv 3) pa_nil)) (pg_name (i := 5) nd rfl (.inl rfl)) (pss_one (ps_for PassesOwn.never rfl (pi_range2 (by rfl) T.n_range (pa_cons (pe_op op_add (pv 5) pe_int) (pa_cons (pv 3) pa_nil))) (pg_name (i := 6) nd rfl (.inl rfl)) (pss_one (ps_if (pt_cmpR op_lt (pe_call G__law_pick (hr.mono (by decide)) (by rfl) T.g__law_pick T.F__law_pick.kp T.b__law_pick .nil pass0 (pa_cons (pv 0) (pa_cons pe_int pa_nil))) (pv 2) (nomark _)) (pss_one (ps_expr (pe_bm PySem.F.plainAttrs_list PySem.F.slot_list_append PySem.F.type_list_append mt_append (pv 4) (pa_cons (pe_tup (pa_cons (pv 5) (pa_cons (pv 6) pa_nil))) pa_nil)))) pss_nil)))))
      (pss_one (ps_ret (pe_tup (pa_cons (pv 3) (pa_cons (pe_callTy call_tupN (by rfl) T.n_tuple (by decide +kernel) (pa_cons (pv 4) pa_nil)) pa_nil))))))))), ?_⟩
    walk_at "rd"
    refine r_callP S 0 rfl 7 ⟨rfl, by omega, small_up (by omega) (by omega)⟩ fun v N F1 H1 S e1 ⟨z, share, ev, h10, h11⟩ => ?_
    subst z ev
    walk_at "rd"
    refine r_callP S 0 rfl most ⟨rfl, by omega, small_up (by omega) (by omega)⟩ fun v N F2 H2 S e2 ⟨z, r1, ev, h20, h21⟩ => ?_
    subst z ev
    obtain ⟨many, rfl⟩ : ∃ many, r1 = many - 1 := ⟨r1 + 1, by omega⟩
    have hmany : 1 + (many - 1) = many := by omega
    refine r_I0 ?_
    rw [hmany]
    walk_at "rd"
    refine ⟨Nat.zero_le _, s_own S fun tl H3 S => ?_⟩
    walk_at "rd"
    refine ⟨many, rfl, by omega, by omega, ?_⟩
    refine s_forR (fun i σ' F' M' => ∃ (x5 x6 : Option V) (rs : List V) (ps : List (Int × Int)), σ' = [some (.ref p), some (.int most), some (.int share), some (.int many), some (.ref tl), x5, x6] ∧ M' = [(tl, .is (.lst rs)), (p, .pot)] ∧ TupsAt F' rs ps ∧ Upto many ps (i : Int) 0 ∧ rs.length ≤ i * 60) S ⟨none, none, [], [], rfl, rfl, .nil, ⟨.nil, fun t ht => (by cases ht), fun t ht => (by cases ht)⟩, Nat.zero_le _⟩ ?_ ?_
    · rintro i σ6 F3 H4 M' hi S e3 ⟨x5, x6, rs, ps, rfl, rfl, g4, g5, g6⟩
      walk_at "rd"
      refine ⟨⟨by omega, by omega, by omega, by omega⟩, ?_⟩
      refine s_forR (fun j σ' F' M' => ∃ (x6 : Option V) (rs : List V) (ps : List (Int × Int)), σ' = [some (.ref p), some (.int most), some (.int share), some (.int many), some (.ref tl), some (.int (0 + (i : Int))), x6] ∧ M' = [(tl, .is (.lst rs)), (p, .pot)] ∧ TupsAt F' rs ps ∧ Upto many ps (0 + (i : Int)) (0 + (i : Int) + 1 + (j : Int)) ∧ rs.length ≤ i * 60 + j) S ⟨x6, rs, ps, rfl, rfl, g4, g5.mono (by omega), g6⟩ ?_ ?_
      · rintro j σ8 F4 H5 M' hj S e4 ⟨x6, rs, ps, rfl, rfl, g4, g5, g6⟩
        walk_at "rd"
        refine r_callP S 1 rfl 6 ⟨rfl, by omega, small_up (by omega) (by omega)⟩ fun v N F5 H6 S e5 ⟨z, r, ev, hr0, hr1⟩ => ?_
        subst z ev
        have g4 := g4.mono (ExT.of e5)
        walk_at "rd"
        refine iteB (fun _ => ?_) (fun _ => ?_)
        · walk_at "rd"
          refine ⟨tyL (by walk_at "hl"), ?_⟩
          walk_at "rd"
          refine ⟨(by show 2 ≤ sizeLine; decide), s_new S fun t F6 H7 S e6 ct => ?_⟩
          walk_at "rd"
          refine s_app S 0 rfl (by omega) fun H8 S => ?_
          exact ⟨_, _, S, by walk_at "ex", _, rs ++ [.ref t], ps ++ [(0 + (i : Int), 0 + (i : Int) + 1 + (j : Int))], rfl, rfl, TupsAt.snoc ct (g4.mono (ExT.of e6)), (g5.snoc (by omega) (by omega) (by omega)).mono (by omega), by rw [List.length_append]; simp; omega⟩
        · walk_at "rd"
          exact ⟨_, _, S, by walk_at "ex", _, rs, ps, rfl, rfl, g4, g5.mono (by omega), by omega⟩
      · rintro σ8 F4 H5 M' S e4 ⟨x6, rs, ps, rfl, rfl, g4, g5, g6⟩
        exact ⟨_, _, S, by walk_at "ex", _, x6, rs, ps, rfl, rfl, g4, g5.mono (by omega), by omega⟩
    · rintro σ6 F3 H4 M' S e3 ⟨x5, x6, rs, ps, rfl, rfl, g4, g5, g6⟩
      walk_at "rd"
      refine s_new S fun l F4 H5 S e4 cl => ?_
      walk_at "rd"
      refine ⟨(by show 2 ≤ sizeLine; decide), s_new S fun f F5 H6 S e5 cf => ?_⟩
      refine k _ [] _ _ (S.sub (by simp)) ⟨rfl, many, ps, by omega, ⟨by omega, by omega, g5.ok, g5.up⟩, web_dp (SqT.of cf) (SqT.of (e5 _ _ cl)) ((g4.mono (ExT.of (e4.trans e5))).dp)⟩
/-- what is known of the pairs drawn -/
def KeysOk (many : Int) (kvs : List (List Key × V)) (n : Nat) : Prop := (∀ p ∈ kvs, ∃ a b : Int, p.1 = [.inl a, .inl b] ∧ 0 ≤ a ∧ a < many ∧ 0 ≤ b ∧ b < many) ∧ kvs.length ≤ n
theorem KeysOk.put {many : Int} {kvs : List (List Key × V)} {n : Nat} {a b : Int} {v : V} (h : KeysOk many kvs n) (h1 : 0 ≤ a ∧ a < many) (h2 : 0 ≤ b ∧ b < many) : KeysOk many (putK kvs [.inl a, .inl b] v) (n + 1) := by
  refine ⟨fun p hp => ?_, Nat.le_trans (length_putK kvs _ v) (Nat.succ_le_succ h.2)⟩
  rcases putK_keys kvs _ v p hp with e | ⟨q, hq, e⟩
  · exact ⟨a, b, e, h1.1, h1.2, h2.1, h2.2⟩
  · rw [← e]; exact h.1 q hq
theorem KeysOk.up {many : Int} {kvs : List (List Key × V)} {n m : Nat} (h : KeysOk many kvs n) (e : n ≤ m) : KeysOk many kvs m := ⟨h.1, Nat.le_trans h.2 e⟩
theorem atI_last {cs : List Int} (h : 0 < cs.length) : atI (cs.map V.int) (-1) = some (.int (cs.getD (cs.length - 1) 0)) := by
  unfold atI ixN
  rw [List.length_map, if_neg (by omega), if_pos (by omega)]
  show (cs.map V.int)[((-1 : Int) + (cs.length : Int)).toNat]? = _
  rw [List.getElem?_map, show ((-1 : Int) + (cs.length : Int)).toNat = cs.length - 1 by omega, List.getElem?_eq_getElem (by omega), List.getD_eq_getElem?_getD, List.getElem?_eq_getElem (by omega)]
  rfl
theorem getD_rg {cs : List Int} {many : Int} (h : cs.Perm (rgI many)) {i : Nat} (hi : i < cs.length) : 0 ≤ cs.getD i 0 ∧ cs.getD i 0 < many := by
  rw [List.getD_eq_getElem?_getD, List.getElem?_eq_getElem hi]
  exact rgI_mem.mp (h.mem_iff.mp (List.getElem_mem hi))
theorem ok_l_web (T : Env K mg) : FnOk P w K mg base CX0 4 T.a__law_web T.fd__law_web ["pot", "most"] (SpP A_web (B_web K)) := by
  have nd := sc__law_web.nd
  have G__law_pick : FnOk P w K mg base CX0 2 T.a__law_pick T.fd__law_pick ["pot", "many"] (SpP A_pick B_pick) := ok_l_pick T
  have G__law_order : FnOk P w K mg base CX0 3 T.a__law_order T.fd__law_order ["pot", "many"] (SpP A_order B_order) := ok_l_order T
  have G__law_any_ties : FnOk P w K mg base CX0 3 T.a__law_any_ties T.fd__law_any_ties ["pot", "most"] (SpP A_web (B_web K)) := ok_l_any_ties T
  refine T.F__law_web.ok sc__law_web (fun vs H Q E h => ?_) (fun cdv A outer s H vs Q E hr h => ?_)
  · obtain ⟨x, F, p, r, rfl, _, _, _, ⟨rfl, _⟩, _⟩ := h
    rfl
  · obtain ⟨most, F, p, r, rfl, fr, hF, hP, ⟨rfl, hm1, hm2⟩, k⟩ := h
    have S := Sep.startP fr hF hP
    refine ⟨_, (pss_cons (ps_set (i := 2) nd rfl (.inl rfl) (pe_call G__law_pick (hr.mono (by decide)) (by rfl) T.g__law_pick T.F__law_pick.kp T.b__law_pick .nil pass0 (pa_cons (pv 0) (pa_cons pe_int pa_nil))))
      (pss_cons (ps_if (pt_cmpR op_eq (pv 2) pe_int (nomark _)) (pss_one (ps_ret (pe_call G__law_any_ties (hr.mono (by decide)) (by rfl) T.g__law_any_ties T.F__law_any_ties.kp T.b__law_any_ties .nil pass0 (pa_cons (pv 0) (pa_cons (pe_callB (call_min2 rfl) (by rfl) T.n_min (by decide +kernel) (pa_cons (pv 1) (pa_cons pe_int pa_nil))) pa_nil))))) pss_nil)
      (pss_cons (ps_set (i := 3) nd rfl (.inl rfl) (pe_op op_add pe_int (pe_call G__law_pick (hr.mono (by decide)) (by rfl) T.g__law_pick T.F__law_pick.kp T.b__law_pick .nil pass0 (pa_cons (pv 0) (pa_cons (pv 1) pa_nil)))))
      (pss_cons (ps_set (i := 4) nd rfl (.inl rfl) (pe_call G__law_order (hr.mono (by decide)) (by rfl) T.g__law_order T.F__law_order.kp T.b__law_order .nil pass0 (pa_cons (pv 0) (pa_cons (pv 3) pa_nil))))
      (pss_cons (ps_set (i := 5) nd rfl (.inl rfl) pe_dnewT)
      (Evl.pss_cut (ps_if (pt_cmpR op_lt (pv 2) pe_int (nomark _)) (pss_one (ps_for PassesOwn.never rfl (pi_range1 (by rfl) T.n_range (pa_cons (pe_call G__law_pick (hr.mono (by decide)) (by rfl) T.g__law_pick T.F__law_pick.kp T.b__law_pick .nil pass0 (pa_cons (pv 0) (pa_cons (pe_op op_add (pe_ix ix_list (pe_lst (pa_cons (pv 3) (pa_cons (pe_op op_mul pe_int (pv 3)) (pa_cons (pe_op op_mul pe_int (pv 3)) pa_nil)))) (pv 2) (fun _ _ => rfl)) pe_int) pa_nil))) pa_nil)) (pg_name (i := 6) nd rfl (.inl rfl)) (pss_cons (ps_set (i := 7) nd rfl (.inl rfl) (pe_call G__law_pick (hr.mono (by decide)) (by rfl) T.g__law_pick T.F__law_pick.kp T.b__law_pick .nil pass0 (pa_cons (pv 0) (pa_cons (pv 3) pa_nil))))
      (pss_one (ps_dput (u1 hr) (pv 5) (pe_tup (pa_cons (pv 7) (pa_cons (pe_call G__law_pick (hr.mono (by decide)) (by rfl) T.g__law_pick T.F__law_pick.kp T.b__law_pick .nil pass0 (pa_cons (pv 0) (pa_cons (pv 3) pa_nil))) pa_nil))) pe_bl rfl))))) pss_nil)
      (pss_cons (ps_for PassesOwn.never rfl (pi_range1 (by rfl) T.n_range (pa_cons (pe_op op_sub (pv 3) pe_int) pa_nil)) (pg_name (i := 6) nd rfl (.inl rfl)) (pss_cons (ps_if (pt_cmpR op_gt (pv 2) pe_int (nomark _)) (pss_one (ps_dput (u1 hr) (pv 5) (pe_tup (pa_cons (pe_ix ix_list (pv 4) (pv 6) (fun _ _ => rfl)) (pa_cons (pe_ix ix_list (pv 4) (pe_op op_add (pv 6) pe_int) (fun _ _ => rfl)) pa_nil))) pe_bl rfl)) pss_nil)
      (pss_one (ps_if (pt_cmpR op_eq (pv 2) pe_int (nomark _)) (pss_one (ps_dput (u1 hr) (pv 5) (pe_tup (pa_cons (pe_ix ix_list (pv 4) pe_int (fun _ _ => rfl)) (pa_cons (pe_ix ix_list (pv 4) (pe_op op_add (pv 6) pe_int) (fun _ _ => rfl)) pa_nil))) pe_bl rfl)) pss_nil))))
      (Evl.pss_cut (ps_if (pt_cmpR op_eq (pv 2) pe_int (nomark _)) (pss_one (ps_dput (u1 hr) (pv 5) (pe_tup (pa_cons (pe_ix ix_list (pv 4) pe_int (fun _ _ => rfl)) (pa_cons (pe_ix ix_list (pv 4) (pe_un un_neg pe_int) (fun _ _ => rfl)) pa_nil))) pe_bl rfl)) pss_nil)
      (pss_cons (ps_setLc (i := 8) (own := [("pair", 9)]) (g := gName 9) (tt := tYes) (te := (tTup (tCons (tCB (rLeastT K) (tCons (tVar 9) tNil)) (tCons (tCB (rMostT K) (tCons (tVar 9) tNil)) tNil)))) rfl nd rfl rfl (sw_true rfl rfl rfl (by decide +kernel)) (pi_keys (pe_frz (pv 5))) (blkOk_by (N := ["pot", "most", "shape", "many", "order", "pairs", "k", "one", "ties", "pair"]) (sc := defScope s__law_web) (by decide +kernel)) (fun _ _ _ _ _ => (pg_name (i := 9) nd rfl (.inl rfl))) (fun _ _ _ _ _ => pts_nil) (fun _ _ _ _ _ => (pe_tup (pa_cons (pe_callB (cr_leastT rfl) (by rfl) T.n_min (by decide +kernel) (pa_cons (pv 9) pa_nil)) (pa_cons (pe_callB (cr_mostT rfl) (by rfl) T.n_max (by decide +kernel) (pa_cons (pv 9) pa_nil)) pa_nil)))))
      (pss_one (ps_ret (pe_tup (pa_cons (pv 3) (pa_cons (pe_callTy call_tupN (by rfl) T.n_tuple (by decide +kernel) (pa_cons (pe_callB (cr_sortGreat rfl) (by rfl) T.n_sorted (by decide +kernel) (pa_cons (pe_callTy (cr_greatL rfl hr.units) (by rfl) T.n_set (by decide +kernel) (pa_cons (pe_lc (own := [("pair", 9)]) (g := gName 9) (tt := (tTest (tOp (rI0 fun i j => .bl (decide (i < j))) (tOp (rIxT K) (tVar 9) (tC (.int 0))) (tOp (rIxT K) (tVar 9) (tC (.int 1)))))) (te := (tVar 9)) rfl nd (pi_list (pv 8)) (blkOk_by (N := ["pot", "most", "shape", "many", "order", "pairs", "k", "one", "ties", "pair"]) (sc := defScope s__law_web) (by decide +kernel)) (fun _ _ _ _ _ => (pg_name (i := 9) nd rfl (.inl rfl))) (fun _ _ _ _ _ => pts_one (pt_cmpR op_lt (pe_ix ix_tup (pv 9) pe_int (fun _ _ => rfl)) (pe_ix ix_tup (pv 9) pe_int (fun _ _ => rfl)) (nomark _))) (fun _ _ _ _ _ => (pv 9))) pa_nil)) pa_nil)) pa_nil)) pa_nil)))))))))))))), ?_⟩
    walk_at "rd"
    refine r_callP S 0 rfl 7 ⟨rfl, by omega, small_up (by omega) (by omega)⟩ fun v N F1 H1 S e1 ⟨z, shape, ev, h10, h11⟩ => ?_
    subst z ev
    walk_at "rd"
    refine iteB (fun _ => ?_) (fun c6 => ?_)
    · walk_at "rd"
      refine r_callP S 0 rfl (if 12 < most then 12 else most) ⟨rfl, by split <;> omega, by split <;> omega⟩ fun v N F2 H2 S e2 ⟨z, many, ties, h20, h21, h22⟩ => ?_
      subst z
      exact k _ [] _ _ S ⟨rfl, many, ties, by split at h20 <;> omega, h21, h22⟩
    walk_at "rd"
    refine r_callP S 0 rfl most ⟨rfl, by omega, small_up (by omega) (by omega)⟩ fun v N F2 H2 S e2 ⟨z, r1, ev, h20, h21⟩ => ?_
    subst z ev
    obtain ⟨many, rfl⟩ : ∃ many, r1 = many - 1 := ⟨r1 + 1, by omega⟩
    have hmany : 1 + (many - 1) = many := by omega
    refine r_I0 ?_
    rw [hmany]
    walk_at "rd"
    refine r_callP S 0 rfl many ⟨rfl, by omega, by omega⟩ fun v N F3 H3 S e3 ⟨o, os, ev, z, hos⟩ => ?_
    subst z ev
    obtain ⟨F4, S, e4, co⟩ := S.frz 0 rfl
    have ol : os.length = many.toNat := by rw [hos.length_eq, rgI_len]
    walk_at "rd"
    refine s_dnewT S fun d H5 S => ?_
    walk_at "rd"
    refine ⟨LI [p] H F F4 (fun _ σ' F' M' => ∃ (x6 x7 : Option V) (kvs : List (List Key × V)), σ' = [some (.ref p), some (.int most), some (.int shape), some (.int many), some (.ref o), some (.ref d), x6, x7, none, none] ∧ M' = [(d, .is (.dT kvs)), (p, .pot)] ∧ KeysOk many kvs 180) 0, ?_, ?_⟩
    · walk_at "rd"
      refine iteB (fun c3 => ?_) (fun c3 => ?_)
      · obtain ⟨u, hu, hu1, hu2⟩ : ∃ u : Int, atI [V.int many, V.int (2 * many), V.int (3 * many)] shape = some (.int u) ∧ many ≤ u ∧ u ≤ 180 := by
          have c3 := of_decide_eq_true c3
          rcases (show shape = 0 ∨ shape = 1 ∨ shape = 2 by omega) with e | e | e <;> subst e
          · exact ⟨many, rfl, by omega, by omega⟩
          · exact ⟨2 * many, rfl, by omega, by omega⟩
          · exact ⟨3 * many, rfl, by omega, by omega⟩
        walk_at "rd"
        refine ⟨(by show 3 ≤ sizeLine; decide), s_new S fun l F6 H6 S e6 cl => ?_⟩
        walk_at "rd"
        refine r_callP S 1 rfl (u + 1) ⟨rfl, by omega, small_up (by omega) (by omega)⟩ fun v N F7 H7 S e7 ⟨z, n, ev, hn0, hn1⟩ => ?_
        subst z ev
        walk_at "rd"
        refine ⟨n, rfl, by omega, by omega, ?_⟩
        refine s_forR (fun i σ' F' M' => ∃ (x6 x7 : Option V) (kvs : List (List Key × V)), σ' = [some (.ref p), some (.int most), some (.int shape), some (.int many), some (.ref o), some (.ref d), x6, x7, none, none] ∧ M' = [(d, .is (.dT kvs)), (p, .pot)] ∧ KeysOk many kvs i) S ⟨none, none, [], rfl, rfl, ⟨fun p hp => (by cases hp), Nat.le_refl _⟩⟩ ?_ ?_
        · rintro i σ8 F8 H8 M' hi S e8 ⟨x6, x7, kvs, rfl, rfl, hk⟩
          walk_at "rd"
          refine r_callP S 1 rfl many ⟨rfl, by omega, small_up (by omega) (by omega)⟩ fun v N F9 H9 S e9 ⟨z, one, ev, h30, h31⟩ => ?_
          subst z ev
          walk_at "rd"
          refine r_callP S 1 rfl many ⟨rfl, by omega, small_up (by omega) (by omega)⟩ fun v N F10 H10 S e10 ⟨z, two, ev, h40, h41⟩ => ?_
          subst z ev
          walk_at "rd"
          refine ⟨(by show 2 ≤ sizeLine; decide), s_new S fun t F11 H11 S e11 ct => ?_⟩
          have := hk.2
          refine s_dputT S 0 rfl ct (by omega) fun H12 S => ?_
          exact ⟨_, _, S, by walk_at "ex", _, _, _, rfl, rfl, hk.put ⟨h30, h31⟩ ⟨h40, h41⟩⟩
        · rintro σ8 F8 H8 M' S e8 ⟨x6, x7, kvs, rfl, rfl, hk⟩
          exact ⟨_, _, S, by walk_at "ex", _, _, _, rfl, rfl, hk.up (by omega)⟩
      · walk_at "rd"
        exact ⟨_, _, S, by walk_at "ex", none, none, [], rfl, rfl, ⟨fun p hp => (by cases hp), Nat.zero_le _⟩⟩
    · rintro σ6 H6 ⟨F5, M', S, e5, x6, x7, kvs, rfl, rfl, hk⟩
      walk_at "rd"
      refine ⟨many - 1, rfl, by omega, by omega, ?_⟩
      refine s_forR (fun i σ' F' M' => ∃ (x6 : Option V) (kvs : List (List Key × V)), σ' = [some (.ref p), some (.int most), some (.int shape), some (.int many), some (.ref o), some (.ref d), x6, x7, none, none] ∧ M' = [(d, .is (.dT kvs)), (p, .pot)] ∧ KeysOk many kvs (180 + i)) S ⟨x6, kvs, rfl, rfl, hk⟩ ?_ ?_
      · rintro i σ8 F8 H8 M' hi S e8 ⟨x6, kvs, rfl, rfl, hk⟩
        have a0 : atI (os.map V.int) 0 = some (.int (os.getD 0 0)) := atI_int (by omega) (by omega)
        have a1 : atI (os.map V.int) (0 + (i : Int)) = some (.int (os.getD i 0)) := by
          have := atI_int (cs := os) (i := 0 + (i : Int)) (by omega) (by omega)
          rw [show (0 + (i : Int)).toNat = i by omega] at this
          exact this
        have a2 : atI (os.map V.int) (0 + (i : Int) + 1) = some (.int (os.getD (i + 1) 0)) := by
          have := atI_int (cs := os) (i := 0 + (i : Int) + 1) (by omega) (by omega)
          rw [show (0 + (i : Int) + 1).toNat = i + 1 by omega] at this
          exact this
        have := hk.2
        walk_at "rd"
        refine iteB (fun c3 => ?_) (fun c3 => ?_)
        · walk_at "rd"
          refine ⟨(by show 2 ≤ sizeLine; decide), s_new S fun t F11 H11 S e11 ct => ?_⟩
          refine s_dputT S 0 rfl ct (by omega) fun H12 S => ?_
          walk_at "rd"
          refine iteB (fun c4 => ?_) (fun c4 => ?_)
          · have := of_decide_eq_true c3
            have := of_decide_eq_true c4
            omega
          · walk_at "rd"
            exact ⟨_, _, S, by walk_at "ex", _, _, rfl, rfl, hk.put (getD_rg hos (by omega)) (getD_rg hos (by omega))⟩
        · walk_at "rd"
          refine iteB (fun c4 => ?_) (fun c4 => ?_)
          · walk_at "rd"
            refine ⟨(by show 2 ≤ sizeLine; decide), s_new S fun t F11 H11 S e11 ct => ?_⟩
            refine s_dputT S 0 rfl ct (by omega) fun H12 S => ?_
            exact ⟨_, _, S, by walk_at "ex", _, _, rfl, rfl, hk.put (getD_rg hos (by omega)) (getD_rg hos (by omega))⟩
          · walk_at "rd"
            exact ⟨_, _, S, by walk_at "ex", _, _, rfl, rfl, hk.up (by omega)⟩
      · rintro σ8 F8 H8 M' S e8 ⟨x6, kvs, rfl, rfl, hk⟩
        have hk : KeysOk many kvs 240 := hk.up (by omega)
        have a0 : atI (os.map V.int) 0 = some (.int (os.getD 0 0)) := atI_int (by omega) (by omega)
        have a1 := atI_last (cs := os) (by omega)
        walk_at "rd"
        refine ⟨LI [p] H F F8 (fun _ σ' F' M' => ∃ (kvs : List (List Key × V)), σ' = [some (.ref p), some (.int most), some (.int shape), some (.int many), some (.ref o), some (.ref d), x6, x7, none, none] ∧ M' = [(d, .is (.dT kvs)), (p, .pot)] ∧ KeysOk many kvs 241) 0, ?_, ?_⟩
        · walk_at "rd"
          refine iteB (fun c4 => ?_) (fun c4 => ?_)
          · walk_at "rd"
            refine ⟨(by show 2 ≤ sizeLine; decide), s_new S fun t F11 H11 S e11 ct => ?_⟩
            have := hk.2
            refine s_dputT S 0 rfl ct (by omega) fun H12 S => ?_
            exact ⟨_, _, S, by walk_at "ex", _, rfl, rfl, hk.put (getD_rg hos (by omega)) (getD_rg hos (by omega))⟩
          · walk_at "rd"
            exact ⟨_, _, S, by walk_at "ex", _, rfl, rfl, hk.up (by omega)⟩
        · clear hk
          rintro σ9 H9 ⟨F9, M', S, e9, kvs, rfl, rfl, hk⟩
          walk_at "rd"
          refine s_frz S 0 rfl trivial fun od F10 H10 S e10 cd => ?_
          refine s_ikeysT (by walk_at "hc") ?_
          refine s_lcKT (fun i acc F' M' => ∃ ps : List (Int × Int), M' = [(p, .pot)] ∧ TupsAt F' acc ps ∧ acc.length ≤ i ∧ ∀ t ∈ ps, 0 ≤ t.1 ∧ t.2 < many) cd S ⟨[], rfl, .nil, Nat.le_refl _, fun t ht => (by cases ht)⟩ ?_ ?_
          · rintro i ky v q acc D F11 H11 M' hi hq S e11 ⟨ps, rfl, g1, g2, g3⟩
            have li := (List.getElem?_eq_some_iff.mp hi).1
            have lk := hk.2
            obtain ⟨a, b, rfl, b1, b2, b3, b4⟩ := hk.1 _ (List.mem_of_getElem? hi)
            have hq : SqT K H11 q [.int a, .int b] := SqT.of hq
            walk_at "rd"
            refine ⟨rfl, ?_⟩
            walk_at "rd"
            refine r_least2 hq ?_
            walk_at "rd"
            refine r_most2 hq ?_
            walk_at "rd"
            refine ⟨(by show 2 ≤ sizeLine; decide), s_new S fun t F12 H12 S e12 ct => ?_⟩
            refine CI.put S (by walk_at "ex") (by omega) ⟨ps ++ [(min a b, max a b)], rfl, TupsAt.snoc ct (g1.mono (ExT.of e12)), by rw [List.length_append]; simp; omega, fun t ht => ?_⟩
            rcases List.mem_append.mp ht with ht | ht
            · exact g3 t ht
            · rw [List.mem_singleton.mp ht]
              show 0 ≤ min a b ∧ max a b < many
              omega
          · rintro D acc F11 H11 M' S e11 ⟨ps, rfl, g1, g2, g3⟩
            have lk := hk.2
            have pl : ps.length = acc.length := g1.len.symm
            walk_at "rd"
            refine ⟨D, rfl, ⟨_, by walk_at "hl"⟩, ?_⟩
            refine s_lcD (K := K) (srcMP g1) (fun p : Int × Int => decide (p.1 < p.2)) tieD S (by omega) (fun m hm => by rw [List.mem_singleton.mp hm]; exact List.mem_cons_self) ?_ ?_
            · rintro i pr x acc' D' F12 H12 dt S e12 ⟨t, rfl, ct⟩
              have hx : SqT K H12 t [.int pr.1, .int pr.2] := SqT.of (S.fr _ _ ct)
              walk_at "rd"
              refine ⟨rfl, ?_⟩
              walk_at "rd"
              refine iteB (fun c => ?_) (fun c => ?_)
              · walk_at "rd"
                exact dt.put S (by walk_at "ex") (Evl.Ex.refl _) c (.tup (SqT.of ct) (.cons (.int _) (.cons (.int _) .nil)))
              · exact dt.skip S (by walk_at "ex") (Evl.Ex.refl _) c
            · intro D' acc' F12 H12 S e12 hd
              walk_at "rd"
              refine s_great S (by walk_at "hl") hd (Nat.le_trans (List.length_filter_le _ _) (by omega)) fun q L F13 H13 S e13 cq h1 h2 => ?_
              walk_at "rd"
              refine s_sortGreat S cq h1 h2 fun q2 ys ts H14 S hd2 pw mem => ?_
              walk_at "rd"
              refine s_new S fun l F15 H15 S e15 cl => ?_
              walk_at "rd"
              refine ⟨(by show 2 ≤ sizeLine; decide), s_new S fun f F16 H16 S e16 cf => ?_⟩
              refine k _ [] _ _ (S.sub (by simp)) ⟨rfl, many, ts, by omega, ⟨by omega, by omega, fun t ht => ?_, pw⟩, .tup (SqT.of cf) (.cons (.int _) (.cons (.tup (SqT.of (e16 _ _ cl)) (DpAll.ex (e15.trans e16) _ _ hd2)) .nil))⟩
              have hm := List.mem_filter.mp ((mem t).mp ht)
              have := g3 t hm.1
              have := of_decide_eq_true hm.2
              omega

end

end
section
local macro_rules | `(tactic| walk_at "ex") => `(tactic| first | exact Evl.Ex.refl _ | assumption | ((refine' Evl.Ex.trans ?x ?y); (case y => assumption); (case x => walk_at "ex")))
local macro_rules | `(tactic| walk_at "hc") => `(tactic| first
  | assumption
  | ((refine' Sep.rdM ?S 0 ?k); (case S => assumption); (case k => exact rfl)) | ((refine' Sep.rdM ?S 1 ?k); (case S => assumption); (case k => exact rfl)) | ((refine' Sep.rdM ?S 2 ?k); (case S => assumption); (case k => exact rfl)) | ((refine' Sep.rdM ?S 3 ?k); (case S => assumption); (case k => exact rfl)) | ((refine' Sep.rdM ?S 4 ?k); (case S => assumption); (case k => exact rfl))
  | ((refine' Sep.rdC ?S ?e ?h); (case S => assumption); (case h => assumption); (case e => walk_at "ex")))
local macro_rules | `(tactic| walk_at "hl") => `(tactic| first
  | assumption
  | ((refine' SqL.of (Sep.rdM ?S 0 ?k)); (case S => assumption); (case k => exact rfl)) | ((refine' SqL.of (Sep.rdM ?S 1 ?k)); (case S => assumption); (case k => exact rfl)) | ((refine' SqL.of (Sep.rdM ?S 2 ?k)); (case S => assumption); (case k => exact rfl)) | ((refine' SqL.of (Sep.rdM ?S 3 ?k)); (case S => assumption); (case k => exact rfl)) | ((refine' SqL.of (Sep.rdM ?S 4 ?k)); (case S => assumption); (case k => exact rfl))
  | ((refine' Sep.rdL ?S ?e ?h); (case S => assumption); (case h => assumption); (case e => walk_at "ex"))
  | ((refine' Sep.rdT ?S ?e ?h); (case S => assumption); (case h => assumption); (case e => walk_at "ex"))
  | ((refine' SqL.of (Sep.rdC ?S ?e ?h)); (case S => assumption); (case h => assumption); (case e => walk_at "ex"))
  | ((refine' SqT.of (Sep.rdC ?S ?e ?h)); (case S => assumption); (case h => assumption); (case e => walk_at "ex"))
  | ((refine' SqL.of ?h); (case h => assumption)) | ((refine' SqT.of ?h); (case h => assumption))
  | ((refine' Evl.ex_l ?e ?h); (case h => assumption); (case e => walk_at "ex")) | ((refine' Evl.ex_t ?e ?h); (case h => assumption); (case e => walk_at "ex"))
  | ((refine' SqL.of (?e _ _ ?h)); (case h => assumption); (case e => walk_at "ex")) | ((refine' SqT.of (?e _ _ ?h)); (case h => assumption); (case e => walk_at "ex")))
local macro_rules | `(tactic| walk_at "hs") => `(tactic| walk_at "hc")
local macro_rules | `(tactic| walk_at "dp") => `(tactic| first
  | assumption
  | ((refine' Sep.rdD ?S ?e ?h); (case S => assumption); (case h => assumption); (case e => walk_at "ex"))
  | ((refine' Dp.ex ?e _ _ ?h); (case h => assumption); (case e => walk_at "ex"))
  | ((refine' DpAll.ex ?e _ _ ?h); (case h => assumption); (case e => walk_at "ex"))
  | (refine' dp_intsD ?h; (case h => walk_at "hl")))
local macro_rules | `(tactic| walk_at "rd1") => `(tactic| (first
  | (with_reducible refine r_seq ?_)
  | (with_reducible refine r_asg ?_)
  | (with_reducible refine r_asgG ?_)
  | (with_reducible refine r_par ?_)
  | (with_reducible refine r_if ?_)
  | (with_reducible refine r_ret ?_)
  | (with_reducible refine r_drop ?_)
  | (with_reducible refine r_next ?_)
  | ((with_reducible refine' r_var ?hx ?_); (case hx => exact rfl))
  | (with_reducible refine r_c ?_)
  | (with_reducible refine r_op ?_)
  | (with_reducible refine r_un ?_)
  | (with_reducible refine r_I0 ?_)
  | ((with_reducible refine' r_I ?_ ?_); (· first | (show (0 : Int) < _; omega) | exact Or.inr ⟨by omega, by omega⟩ | exact Or.inl ⟨by omega, by omega⟩ | exact ⟨by omega, by omega, by decide⟩))
  | (with_reducible refine r_U ?_)
  | (with_reducible refine r_test ?_)
  | (with_reducible refine r_B ?_)
  | (with_reducible refine r_bl ?_)
  | (with_reducible refine r_eqI ?_)
  | (with_reducible refine r_neI ?_)
  | ((with_reducible refine' r_eq ?_ ?_); (· exact rfl))
  | ((with_reducible refine' r_ne ?_ ?_); (· exact rfl))
  | (with_reducible refine r_nil ?_)
  | (with_reducible refine r_cons ?_)
  | (with_reducible refine s_tup ?_)
  | (with_reducible refine s_lst ?_)
  | (with_reducible refine r_call ?_)
  | (with_reducible refine r_cb ?_)
  | (with_reducible refine r_and ?_)
  | (with_reducible refine r_or ?_)
  | (with_reducible refine r_not ?_)
  | (with_reducible refine r_andV ?_)
  | (with_reducible refine r_orV ?_)
  | (with_reducible refine r_notV ?_)
  | (with_reducible refine r_ifE ?_)
  | (with_reducible refine r_gSub ?_)
  | (with_reducible refine r_sadd ?_)
  | (with_reducible refine s_lstRg ?_)
  | (with_reducible refine r_rg1 ?_)
  | (with_reducible refine r_min2 ?_)
  | (with_reducible refine r_par2 ?_)
  | (with_reducible refine r_partI ?_)
  | (with_reducible refine s_lc ?_)
  | (with_reducible refine s_dc ?_)
  | (with_reducible refine r_yes ?_)
  | (with_reducible refine r_iZipA ?_)
  | (with_reducible refine r_isN ?_)
  | (with_reducible refine r_for ?_)
  | (with_reducible refine r_iList ?_)
  | (with_reducible refine r_iTup ?_)
  | (with_reducible refine r_iRng1 ?_)
  | (with_reducible refine r_iRng2 ?_)
  | (with_reducible refine r_iEnum ?_)
  | (with_reducible refine r_iZip ?_)
  | (with_reducible refine r_gName ?_)
  | (with_reducible refine r_isNV ?_)
  | (with_reducible refine r_notNV ?_)
  | (with_reducible refine r_bm ?_)
  | (with_reducible refine r_bm0 ?_)
  | (with_reducible refine r_sl ?_)
  | (with_reducible refine r_noPart ?_)
  | (with_reducible refine r_part ?_)
  | (with_reducible refine r_chain ?_)
  | (with_reducible refine r_iKeys ?_)
  | (with_reducible refine r_iItems ?_)
  | (with_reducible refine r_frz ?_)
  | (with_reducible refine r_dput ?_)
  | (with_reducible refine r_dget ?_)
  | (with_reducible refine r_din ?_)
  | (with_reducible refine r_dnotin ?_)
  | (with_reducible refine r_break ?_)
  | ((with_reducible refine' r_sIn ?h ?_); (case h => walk_at "hs"))
  | ((with_reducible refine' r_sNotIn ?h ?_); (case h => walk_at "hs"))
  | ((with_reducible refine' r_inI ?h ?_); (case h => walk_at "hl"))
  | ((with_reducible refine' r_notInI ?h ?_); (case h => walk_at "hl"))
  | ((with_reducible refine' r_eqNil ?h ?g ?_); (case h => walk_at "hl"); (case g => walk_at "hl"))
  | ((with_reducible refine' r_neNil ?h ?g ?_); (case h => walk_at "hl"); (case g => walk_at "hl"))
  | ((with_reducible refine' iteRT ?hh ?_); (case hh => exact rfl))
  | ((with_reducible refine' iteRF ?hh ?_); (case hh => exact rfl))
  | ((with_reducible refine' r_isiT ?ty ?hk ?_); (case ty => (first | assumption | exact tyx_L (by assumption) | exact tyx_T (by assumption) | exact .base (.non) | exact .base (.bl _) | exact .base (.int _) | exact .base (.str _) | exact tyx_L (by walk_at "hl") | exact tyx_T (by walk_at "hl"))); (case hk => decide +kernel))
  | ((with_reducible refine' r_isiF ?ty ?hk ?_); (case ty => (first | assumption | exact tyx_L (by assumption) | exact tyx_T (by assumption) | exact .base (.non) | exact .base (.bl _) | exact .base (.int _) | exact .base (.str _) | exact tyx_L (by walk_at "hl") | exact tyx_T (by walk_at "hl"))); (case hk => decide +kernel))
  | ((with_reducible refine' r_gTup2 ?hn ?hs ?_); (case hn => exact rfl); (case hs => walk_at "hl"))
  | ((with_reducible refine' s_list ?hl ?_); (case hl => first | exact Or.inl (by walk_at "hl") | exact Or.inr (by walk_at "hl")))
  | ((with_reducible refine' s_tupN ?hl ?_); (case hl => walk_at "hl"))
  | ((with_reducible refine' s_sortN ?hl ?_); (case hl => walk_at "hl"))
  | ((refine' ⟨_, _, rfl, ?hl, ?_⟩); (case hl => first | exact Or.inl (by walk_at "hl") | exact Or.inr (by walk_at "hl")))
  | ((with_reducible refine' r_ixL ?hl ?ha ?_); (case hl => walk_at "hl"); (case ha => first | exact rfl | assumption))
  | ((with_reducible refine' r_ixT ?hl ?ha ?_); (case hl => walk_at "hl"); (case ha => first | exact rfl | assumption))))
local macro_rules | `(tactic| walk_at "rd") => `(tactic| repeat (walk_at "rd1"))

section
variable {w : World} {K : PySem.W.Frag} {mg : Str → Option Value} {base : Heap}

theorem ok_l_drawn_web (T : Env K mg) : FnOk P w K mg base CX0 5 T.a__law_drawn_web T.fd__law_drawn_web ["pot", "most"] (SpP A_web (B_web K)) := by
  have nd := sc__law_drawn_web.nd
  have G__law_web : FnOk P w K mg base CX0 4 T.a__law_web T.fd__law_web ["pot", "most"] (SpP A_web (B_web K)) := ok_l_web T
  have G__law_pick : FnOk P w K mg base CX0 2 T.a__law_pick T.fd__law_pick ["pot", "many"] (SpP A_pick B_pick) := ok_l_pick T
  have G__law_any_ties : FnOk P w K mg base CX0 3 T.a__law_any_ties T.fd__law_any_ties ["pot", "most"] (SpP A_web (B_web K)) := ok_l_any_ties T
  refine T.F__law_drawn_web.ok sc__law_drawn_web (fun vs H Q E h => ?_) (fun cdv A outer s H vs Q E hr h => ?_)
  · obtain ⟨x, F, p, r, rfl, _, _, _, ⟨rfl, _⟩, _⟩ := h
    rfl
  · obtain ⟨most, F, p, r, rfl, fr, hF, hP, ⟨rfl, hm1, hm2⟩, k⟩ := h
    have S := Sep.startP fr hF hP
    refine ⟨_, (pss_cons (ps_if (pt_cmpR op_eq (pe_call G__law_pick (hr.mono (by decide)) (by rfl) T.g__law_pick T.F__law_pick.kp T.b__law_pick .nil pass0 (pa_cons (pv 0) (pa_cons pe_int pa_nil))) pe_int (nomark _)) (pss_one (ps_ret (pe_call G__law_any_ties (hr.mono (by decide)) (by rfl) T.g__law_any_ties T.F__law_any_ties.kp T.b__law_any_ties .nil pass0 (pa_cons (pv 0) (pa_cons (pe_callB (call_min2 rfl) (by rfl) T.n_min (by decide +kernel) (pa_cons (pv 1) (pa_cons pe_int pa_nil))) pa_nil))))) pss_nil)
      (pss_one (ps_ret (pe_call G__law_web (hr.mono (by decide)) (by rfl) T.g__law_web T.F__law_web.kp T.b__law_web .nil pass0 (pa_cons (pv 0) (pa_cons (pv 1) pa_nil)))))), ?_⟩
    walk_at "rd"
    refine r_callP S 0 rfl 2 ⟨rfl, by omega, small_up (by omega) (by omega)⟩ fun v N F1 H1 S e1 ⟨z, way, ev, h10, h11⟩ => ?_
    subst z ev
    walk_at "rd"
    refine iteB (fun _ => ?_) (fun _ => ?_)
    · walk_at "rd"
      refine r_callP S 0 rfl (if 7 < most then 7 else most) ⟨rfl, by split <;> omega, by split <;> omega⟩ fun v N F2 H2 S e2 ⟨z, many, ties, h20, h21, h22⟩ => ?_
      subst z
      exact k _ [] _ _ S ⟨rfl, many, ties, by split at h20 <;> omega, h21, h22⟩
    · walk_at "rd"
      refine r_callP S 0 rfl most ⟨rfl, hm1, hm2⟩ fun v N F2 H2 S e2 ⟨z, many, ties, h20, h21, h22⟩ => ?_
      subst z
      exact k _ [] _ _ S ⟨rfl, many, ties, h20, h21, h22⟩

end

end
section
local macro_rules | `(tactic| walk_at "ex") => `(tactic| first | exact Evl.Ex.refl _ | assumption | ((refine' Evl.Ex.trans ?x ?y); (case y => assumption); (case x => walk_at "ex")))
local macro_rules | `(tactic| walk_at "hc") => `(tactic| first
  | assumption
  | ((refine' Sep.rdM ?S 0 ?k); (case S => assumption); (case k => exact rfl)) | ((refine' Sep.rdM ?S 1 ?k); (case S => assumption); (case k => exact rfl)) | ((refine' Sep.rdM ?S 2 ?k); (case S => assumption); (case k => exact rfl)) | ((refine' Sep.rdM ?S 3 ?k); (case S => assumption); (case k => exact rfl)) | ((refine' Sep.rdM ?S 4 ?k); (case S => assumption); (case k => exact rfl))
  | ((refine' Sep.rdC ?S ?e ?h); (case S => assumption); (case h => assumption); (case e => walk_at "ex")))
local macro_rules | `(tactic| walk_at "hl") => `(tactic| first
  | assumption
  | ((refine' SqL.of (Sep.rdM ?S 0 ?k)); (case S => assumption); (case k => exact rfl)) | ((refine' SqL.of (Sep.rdM ?S 1 ?k)); (case S => assumption); (case k => exact rfl)) | ((refine' SqL.of (Sep.rdM ?S 2 ?k)); (case S => assumption); (case k => exact rfl)) | ((refine' SqL.of (Sep.rdM ?S 3 ?k)); (case S => assumption); (case k => exact rfl)) | ((refine' SqL.of (Sep.rdM ?S 4 ?k)); (case S => assumption); (case k => exact rfl))
  | ((refine' Sep.rdL ?S ?e ?h); (case S => assumption); (case h => assumption); (case e => walk_at "ex"))
  | ((refine' Sep.rdT ?S ?e ?h); (case S => assumption); (case h => assumption); (case e => walk_at "ex"))
  | ((refine' SqL.of (Sep.rdC ?S ?e ?h)); (case S => assumption); (case h => assumption); (case e => walk_at "ex"))
  | ((refine' SqT.of (Sep.rdC ?S ?e ?h)); (case S => assumption); (case h => assumption); (case e => walk_at "ex"))
  | ((refine' SqL.of ?h); (case h => assumption)) | ((refine' SqT.of ?h); (case h => assumption))
  | ((refine' Evl.ex_l ?e ?h); (case h => assumption); (case e => walk_at "ex")) | ((refine' Evl.ex_t ?e ?h); (case h => assumption); (case e => walk_at "ex"))
  | ((refine' SqL.of (?e _ _ ?h)); (case h => assumption); (case e => walk_at "ex")) | ((refine' SqT.of (?e _ _ ?h)); (case h => assumption); (case e => walk_at "ex")))
local macro_rules | `(tactic| walk_at "hs") => `(tactic| walk_at "hc")
local macro_rules | `(tactic| walk_at "dp") => `(tactic| first
  | assumption
  | ((refine' Sep.rdD ?S ?e ?h); (case S => assumption); (case h => assumption); (case e => walk_at "ex"))
  | ((refine' Dp.ex ?e _ _ ?h); (case h => assumption); (case e => walk_at "ex"))
  | ((refine' DpAll.ex ?e _ _ ?h); (case h => assumption); (case e => walk_at "ex"))
  | (refine' dp_intsD ?h; (case h => walk_at "hl")))
local macro_rules | `(tactic| walk_at "rd1") => `(tactic| (first
  | (with_reducible refine r_seq ?_)
  | (with_reducible refine r_asg ?_)
  | (with_reducible refine r_asgG ?_)
  | (with_reducible refine r_par ?_)
  | (with_reducible refine r_if ?_)
  | (with_reducible refine r_ret ?_)
  | (with_reducible refine r_drop ?_)
  | (with_reducible refine r_next ?_)
  | ((with_reducible refine' r_var ?hx ?_); (case hx => exact rfl))
  | (with_reducible refine r_c ?_)
  | (with_reducible refine r_op ?_)
  | (with_reducible refine r_un ?_)
  | (with_reducible refine r_I0 ?_)
  | ((with_reducible refine' r_I ?_ ?_); (· first | (show (0 : Int) < _; omega) | exact Or.inr ⟨by omega, by omega⟩ | exact Or.inl ⟨by omega, by omega⟩ | exact ⟨by omega, by omega, by decide⟩))
  | (with_reducible refine r_U ?_)
  | (with_reducible refine r_test ?_)
  | (with_reducible refine r_B ?_)
  | (with_reducible refine r_bl ?_)
  | (with_reducible refine r_eqI ?_)
  | (with_reducible refine r_neI ?_)
  | ((with_reducible refine' r_eq ?_ ?_); (· exact rfl))
  | ((with_reducible refine' r_ne ?_ ?_); (· exact rfl))
  | (with_reducible refine r_nil ?_)
  | (with_reducible refine r_cons ?_)
  | (with_reducible refine s_tup ?_)
  | (with_reducible refine s_lst ?_)
  | (with_reducible refine r_call ?_)
  | (with_reducible refine r_cb ?_)
  | (with_reducible refine r_and ?_)
  | (with_reducible refine r_or ?_)
  | (with_reducible refine r_not ?_)
  | (with_reducible refine r_andV ?_)
  | (with_reducible refine r_orV ?_)
  | (with_reducible refine r_notV ?_)
  | (with_reducible refine r_ifE ?_)
  | (with_reducible refine r_gSub ?_)
  | (with_reducible refine r_sadd ?_)
  | (with_reducible refine s_lstRg ?_)
  | (with_reducible refine r_rg1 ?_)
  | (with_reducible refine r_min2 ?_)
  | (with_reducible refine r_par2 ?_)
  | (with_reducible refine r_partI ?_)
  | (with_reducible refine s_lc ?_)
  | (with_reducible refine s_dc ?_)
  | (with_reducible refine r_yes ?_)
  | (with_reducible refine r_iZipA ?_)
  | (with_reducible refine r_isN ?_)
  | (with_reducible refine r_for ?_)
  | (with_reducible refine r_iList ?_)
  | (with_reducible refine r_iTup ?_)
  | (with_reducible refine r_iRng1 ?_)
  | (with_reducible refine r_iRng2 ?_)
  | (with_reducible refine r_iEnum ?_)
  | (with_reducible refine r_iZip ?_)
  | (with_reducible refine r_gName ?_)
  | (with_reducible refine r_isNV ?_)
  | (with_reducible refine r_notNV ?_)
  | (with_reducible refine r_bm ?_)
  | (with_reducible refine r_bm0 ?_)
  | (with_reducible refine r_sl ?_)
  | (with_reducible refine r_noPart ?_)
  | (with_reducible refine r_part ?_)
  | (with_reducible refine r_chain ?_)
  | (with_reducible refine r_iKeys ?_)
  | (with_reducible refine r_iItems ?_)
  | (with_reducible refine r_frz ?_)
  | (with_reducible refine r_dput ?_)
  | (with_reducible refine r_dget ?_)
  | (with_reducible refine r_din ?_)
  | (with_reducible refine r_dnotin ?_)
  | (with_reducible refine r_break ?_)
  | ((with_reducible refine' r_sIn ?h ?_); (case h => walk_at "hs"))
  | ((with_reducible refine' r_sNotIn ?h ?_); (case h => walk_at "hs"))
  | ((with_reducible refine' r_inI ?h ?_); (case h => walk_at "hl"))
  | ((with_reducible refine' r_notInI ?h ?_); (case h => walk_at "hl"))
  | ((with_reducible refine' r_eqNil ?h ?g ?_); (case h => walk_at "hl"); (case g => walk_at "hl"))
  | ((with_reducible refine' r_neNil ?h ?g ?_); (case h => walk_at "hl"); (case g => walk_at "hl"))
  | ((with_reducible refine' iteRT ?hh ?_); (case hh => exact rfl))
  | ((with_reducible refine' iteRF ?hh ?_); (case hh => exact rfl))
  | ((with_reducible refine' r_isiT ?ty ?hk ?_); (case ty => (first | assumption | exact tyx_L (by assumption) | exact tyx_T (by assumption) | exact .base (.non) | exact .base (.bl _) | exact .base (.int _) | exact .base (.str _) | exact tyx_L (by walk_at "hl") | exact tyx_T (by walk_at "hl"))); (case hk => decide +kernel))
  | ((with_reducible refine' r_isiF ?ty ?hk ?_); (case ty => (first | assumption | exact tyx_L (by assumption) | exact tyx_T (by assumption) | exact .base (.non) | exact .base (.bl _) | exact .base (.int _) | exact .base (.str _) | exact tyx_L (by walk_at "hl") | exact tyx_T (by walk_at "hl"))); (case hk => decide +kernel))
  | ((with_reducible refine' r_gTup2 ?hn ?hs ?_); (case hn => exact rfl); (case hs => walk_at "hl"))
  | ((with_reducible refine' s_list ?hl ?_); (case hl => first | exact Or.inl (by walk_at "hl") | exact Or.inr (by walk_at "hl")))
  | ((with_reducible refine' s_tupN ?hl ?_); (case hl => walk_at "hl"))
  | ((with_reducible refine' s_sortN ?hl ?_); (case hl => walk_at "hl"))
  | ((refine' ⟨_, _, rfl, ?hl, ?_⟩); (case hl => first | exact Or.inl (by walk_at "hl") | exact Or.inr (by walk_at "hl")))
  | ((with_reducible refine' r_ixL ?hl ?ha ?_); (case hl => walk_at "hl"); (case ha => first | exact rfl | assumption))
  | ((with_reducible refine' r_ixT ?hl ?ha ?_); (case hl => walk_at "hl"); (case ha => first | exact rfl | assumption))))
local macro_rules | `(tactic| walk_at "rd") => `(tactic| repeat (walk_at "rd1"))

section
variable {w : World} {K : PySem.W.Frag} {mg : Str → Option Value} {base : Heap}

def wholeB : PyData → Bool
  | .int _ => true
  | _ => false
def A_any (K : PySem.W.Frag) : PyData → List V → Hp → Prop := fun d vs F => ∃ v, vs = [v] ∧ Dp K F v d
def B_whole : PyData → V → List (Addr × Cel) → Hp → Prop := fun d v N _ => N = [] ∧ v = .bl (wholeB d)
theorem ok_is_whole (T : Env K mg) : FnOk P w K mg base CX0 1 T.a_is_whole T.fd_is_whole ["thing"] (SpF (A_any K) B_whole) := by
  have nd := sc_is_whole.nd
  refine T.F_is_whole.ok sc_is_whole (fun vs H Q E h => ?_) (fun cdv A outer s H vs Q E hr h => ?_)
  · obtain ⟨_, F, _, ⟨v, rfl, _⟩, _⟩ := h
    rfl
  · obtain ⟨d, F, fr, ⟨v, rfl, hd⟩, k⟩ := h
    have S := Sep.start0 fr
    refine ⟨_, (pss_one (ps_ret (pe_and (pe_callB call_isi (by rfl) T.n_isinstance (by decide +kernel) (pa_cons (pv 0) (pa_cons (pe_bltn (v := .ty "int") (u := .type "int") (by rfl) T.n_int (by decide +kernel) rfl) pa_nil))) (pe_one (pe_not (pe_callB call_isi (by rfl) T.n_isinstance (by decide +kernel) (pa_cons (pv 0) (pa_cons (pe_bltn (v := .ty "bool") (u := .type "bool") (by rfl) T.n_bool (by decide +kernel) rfl) pa_nil)))))))), ?_⟩
    cases hd with
    | non => walk_at "rd"; exact k _ [] _ _ S ⟨rfl, rfl⟩
    | bl b => walk_at "rd"; exact k _ [] _ _ S ⟨rfl, rfl⟩
    | int i => walk_at "rd"; exact k _ [] _ _ S ⟨rfl, rfl⟩
    | str x => walk_at "rd"; exact k _ [] _ _ S ⟨rfl, rfl⟩
    | lst h1 h2 =>
      have h1 := Evl.ex_l fr h1
      walk_at "rd"; exact k _ [] _ _ S ⟨rfl, rfl⟩
    | tup h1 h2 =>
      have h1 := Evl.ex_t fr h1
      walk_at "rd"; exact k _ [] _ _ S ⟨rfl, rfl⟩
def tieB (many : Int) : PyData → Bool
  | .tuple [.int a, .int b] => decide (0 ≤ a) && (decide (a < b) && decide (b < many))
  | _ => false
theorem tieB_two {many : Int} {x y : PyData} (h : (wholeB x && wholeB y) = false) : tieB many (.tuple [x, y]) = false := by
  cases x <;> cases y <;> first | rfl | (simp [wholeB] at h)
theorem tieB_len {many : Int} {xs : List PyData} (h : xs.length ≠ 2) : tieB many (.tuple xs) = false := by
  match xs, h with
  | [], _ => rfl
  | [x], _ => cases x <;> rfl
  | [_, _], h => exact absurd rfl h
  | x :: y :: _ :: _, _ => cases x <;> cases y <;> rfl
def A_tie (K : PySem.W.Frag) : (PyData × Int) → List V → Hp → Prop := fun | (d, many), vs, F => ∃ v, vs = [v, .int many] ∧ Dp K F v d
def B_tie : (PyData × Int) → V → List (Addr × Cel) → Hp → Prop := fun | (d, many), v, N, _ => N = [] ∧ v = .bl (tieB many d)
theorem r_chain3 {σ : L2.St} {H : Hp} {Q : VK} {r1 r2 r3 : R2} {ta tb tc td : TE} (h : ta σ H fun x H1 => tb σ H1 fun y H2 => r1 x y H2 fun z H3 => ∃ k, z = .bl k ∧
  (if k = true then tc σ H3 fun w' H4 => r2 y w' H4 fun z' H5 => ∃ k', z' = .bl k' ∧ (if k' = true then td σ H5 fun u' H6 => r3 w' u' H6 Q else Q (.bl false) H5) else Q (.bl false) H3)) : tChain3 r1 r2 r3 ta tb tc td σ H Q := h
theorem ok_is_tie (T : Env K mg) : FnOk P w K mg base CX0 2 T.a_is_tie T.fd_is_tie ["thing", "many"] (SpF (A_tie K) B_tie) := by
  have nd := sc_is_tie.nd
  have G_is_whole : FnOk P w K mg base CX0 1 T.a_is_whole T.fd_is_whole ["thing"] (SpF (A_any K) B_whole) := ok_is_whole T
  refine T.F_is_tie.ok sc_is_tie (fun vs H Q E h => ?_) (fun cdv A outer s H vs Q E hr h => ?_)
  · obtain ⟨⟨_, _⟩, F, _, ⟨v, rfl, _⟩, _⟩ := h
    rfl
  · obtain ⟨⟨d, many⟩, F, fr, ⟨v, rfl, hd⟩, k⟩ := h
    have S := Sep.start0 fr
    refine ⟨_, (pss_cons (ps_if (PW.pt (pw_or (pt_not (pt_val (pe_callB call_isi (by rfl) T.n_isinstance (by decide +kernel) (pa_cons (pv 0) (pa_cons (pe_bltn (v := .ty "tuple") (u := .type "tuple") (by rfl) T.n_tuple (by decide +kernel) rfl) pa_nil))))) (pw_or1 (pt_cmpR op_ne (pe_callB call_len_seq (by rfl) T.n_len PySem.boot_len (pa_cons (pv 0) pa_nil)) pe_int (nomark _))))) (pss_one (ps_ret pe_bl)) pss_nil)
      (pss_cons (ps_asg (pv 0) (pg_tup rfl (pgs_cons (pg_name (i := 2) nd rfl (.inl rfl)) (pgs_cons (pg_name (i := 3) nd rfl (.inl rfl)) pgs_nil))))
      (pss_one (ps_ret (pe_and (pe_call G_is_whole (hr.mono (by decide)) (by rfl) T.g_is_whole T.F_is_whole.kp T.b_is_whole .nil pass0 (pa_cons (pv 2) pa_nil)) (pe_and (pe_call G_is_whole (hr.mono (by decide)) (by rfl) T.g_is_whole T.F_is_whole.kp T.b_is_whole .nil pass0 (pa_cons (pv 3) pa_nil)) (pe_one (pe_chain3 op_le op_lt op_lt pe_int (pv 2) (pv 3) (pv 1))))))))), ?_⟩
    cases hd with
    | non => walk_at "rd"; exact k _ [] _ _ S ⟨rfl, rfl⟩
    | bl b => walk_at "rd"; exact k _ [] _ _ S ⟨rfl, rfl⟩
    | int i => walk_at "rd"; exact k _ [] _ _ S ⟨rfl, rfl⟩
    | str x => walk_at "rd"; exact k _ [] _ _ S ⟨rfl, rfl⟩
    | lst h1 h2 =>
      have h1 := Evl.ex_l fr h1
      walk_at "rd"; exact k _ [] _ _ S ⟨rfl, rfl⟩
    | tup h1 h2 =>
      rename_i a xs ds
      have h1' := Evl.ex_t fr h1
      have hl := (dpAll_get h2).1
      walk_at "rd"
      refine iteB (fun c => ?_) (fun c => ?_)
      · have c : ds.length ≠ 2 := fun z => by simp [hl, z] at c
        walk_at "rd"
        exact k _ [] _ _ S ⟨rfl, by rw [tieB_len c]⟩
      · have c : ds.length = 2 := by simp [hl] at c; omega
        cases h2 with
        | nil => cases c
        | @cons x1 xs1 ds1 dr1 d1 h3 =>
          cases h3 with
          | nil => cases c
          | @cons x2 xs2 ds2 dr2 d2 h4 =>
            cases h4 with
            | cons _ _ => simp at c
            | nil =>
              walk_at "rd"
              refine r_callF S ds1 ⟨_, rfl, d1⟩ ?_
              rintro v N F1 H1 S e1 ⟨rfl, rfl⟩
              walk_at "rd"
              refine iteB (fun c1 => ?_) (fun c1 => ?_)
              · walk_at "rd"
                refine r_callF S ds2 ⟨_, rfl, Dp.ex e1 _ _ d2⟩ ?_
                rintro v N F2 H2 S e2 ⟨rfl, rfl⟩
                walk_at "rd"
                refine iteB (fun c2 => ?_) (fun c2 => ?_)
                · cases d1 with
                  | int i1 =>
                    cases d2 with
                    | int i2 =>
                      walk_at "rd"
                      refine r_chain3 ?_
                      walk_at "rd"
                      have et : tieB many (.tuple [.int i1, .int i2]) = (decide (0 ≤ i1) && (decide (i1 < i2) && decide (i2 < many))) := rfl
                      refine iteB (fun c3 => ?_) (fun c3 => ?_)
                      · walk_at "rd"
                        refine iteB (fun c4 => ?_) (fun c4 => ?_)
                        · walk_at "rd"
                          exact k _ [] _ _ S ⟨rfl, by rw [et, c3, c4]; rfl⟩
                        · exact k _ [] _ _ S ⟨rfl, by rw [et, c3, c4]; rfl⟩
                      · exact k _ [] _ _ S ⟨rfl, by rw [et, c3]; rfl⟩
                    | non => cases c2
                    | bl _ => cases c2
                    | str _ => cases c2
                    | lst _ _ => cases c2
                    | tup _ _ => cases c2
                  | non => cases c1
                  | bl _ => cases c1
                  | str _ => cases c1
                  | lst _ _ => cases c1
                  | tup _ _ => cases c1
                · walk_at "rd"
                  exact k _ [] _ _ S ⟨rfl, by rw [tieB_two (by rw [c2, Bool.and_false])]⟩
              · walk_at "rd"
                exact k _ [] _ _ S ⟨rfl, by rw [tieB_two (by rw [c1, Bool.false_and])]⟩
def ltP2 (a b : Int × Int) : Bool := HT.lexLt [a.1, a.2] [b.1, b.2]
def riseT (ts : List (Int × Int)) : Bool := (ts.zip (ts.drop 1)).all fun p => ltP2 p.1 p.2
theorem srcZT {io : List Addr} {H0 F0 F : Hp} {a b : Addr} {xs ys : List V} (h : SqT K F a xs) (g : SqT K F b ys) : Src (RZ.ItzT K a b) io H0 F0 F [] (xs.zip ys) (fun p x F' => ∃ t, x = .ref t ∧ F' t = some (.tup [p.1, p.2])) := by
  refine ⟨_, _, walk_zipT (xs := xs) (ys := ys) List.length_zip, fun F' H' M' S e _ => ⟨S.rdT e h, S.rdT e g⟩, fun i p x F' H' H'' M' ha S e _ y => ?_⟩
  obtain ⟨t, x1, x2, rfl, ht, rfl, e1, e2⟩ := y
  have e1 : xs[i]? = some x1 := e1
  have e2 : ys[i]? = some x2 := e2
  rw [List.getElem?_zip_eq_some] at ha
  rw [e1, e2] at ha
  obtain ⟨z1, z2⟩ := ha
  cases z1
  cases z2
  exact ⟨_, S.newF ht _, Evl.Ex.new (S.fnone ht), t, rfl, upd_same⟩
theorem srcZT2 {io : List Addr} {H0 F0 F : Hp} {a b : Addr} {xs ys : List V} {ts us : List (Int × Int)} (h : SqT K F a xs) (g : SqT K F b ys) (hd : DpAll K F xs (ts.map tieD)) (gd : DpAll K F ys (us.map tieD)) : Src (RZ.ItzT K a b) io H0 F0 F [] (ts.zip us) (fun p x F' => ∃ t a b, x = .ref t ∧ F' t = some (.tup [.ref a, .ref b]) ∧ SqT K F' a [.int p.1.1, .int p.1.2] ∧ SqT K F' b [.int p.2.1, .int p.2.2]) := by
  obtain ⟨G, Y, w, s1, s2⟩ := srcZT (io := io) (H0 := H0) (F0 := F0) h g
  have l1 := dpAll_get hd
  have l2 := dpAll_get gd
  have e : (xs.zip ys).length = (ts.zip us).length := by
    rw [List.length_zip, List.length_zip, l1.1, l2.1, List.length_map, List.length_map]
  refine ⟨G, Y, e ▸ w, s1, fun i p x F' H' H'' M' hp S e hL y => ?_⟩
  rw [List.getElem?_zip_eq_some] at hp
  have i1 : i < xs.length := by rw [l1.1, List.length_map]; exact (List.getElem?_eq_some_iff.mp hp.1).1
  have i2 : i < ys.length := by rw [l2.1, List.length_map]; exact (List.getElem?_eq_some_iff.mp hp.2).1
  have hz : (xs.zip ys)[i]? = some (xs[i], ys[i]) := by
    rw [List.getElem?_zip_eq_some]
    exact ⟨List.getElem?_eq_getElem i1, List.getElem?_eq_getElem i2⟩
  obtain ⟨F'', S'', e'', t, rfl, ct⟩ := s2 i _ x F' H' H'' M' hz S e hL y
  obtain ⟨d1, g1, g2⟩ := l1.2 i _ (List.getElem?_eq_getElem i1)
  obtain ⟨d2, g3, g4⟩ := l2.2 i _ (List.getElem?_eq_getElem i2)
  rw [List.getElem?_map, hp.1] at g1
  rw [List.getElem?_map, hp.2] at g3
  cases g1
  cases g3
  obtain ⟨ta, e1, st1⟩ := tieD_at g2
  obtain ⟨tb, e2, st2⟩ := tieD_at g4
  rw [e1, e2] at ct
  exact ⟨F'', S'', e'', t, ta, tb, rfl, ct, Evl.ex_t (e.trans e'') st1, Evl.ex_t (e.trans e'') st2⟩
theorem s_slA {io : List Addr} {H0 F0 F H : Hp} {M : List (Addr × Cel)} {Q : VK} {a : Addr} {xs : List V} {lo hi : Option Int} (S : Sep io H0 F0 F H M) (h : SqT K F a xs) (k : ∀ (u : Addr) (F' H' : Hp), Sep io H0 F0 F' H' M → Evl.Ex F F' → SqT K F' u (cutV xs lo hi) → Q (.ref u) H') : rSlA K (.ref a) lo hi H Q := by
  refine ⟨a, xs, rfl, Evl.ex_t S.fr h, fun w => ?_, fun _ => s_new S fun u F' H' S' e c => k u F' H' S' e (SqT.of c)⟩
  refine k a F H S (Evl.Ex.refl _) ?_
  have : cutV xs lo hi = xs := by
    unfold cutV
    rw [w.1, w.2, List.drop_zero, Nat.sub_zero, List.take_length]
  rw [this]
  exact h
def ltV : V × V → Bool
  | (.int a, .int b) => decide (a < b)
  | _ => false
def riseI (ns : List Int) : Bool := ((ns.map V.int).zip ((ns.map V.int).drop 1)).all ltV
theorem riseI_up : ∀ {ns : List Int}, ns.Pairwise (· < ·) → riseI ns = true
  | [], _ => rfl
  | [_], _ => rfl
  | a :: b :: r, h => by
    obtain ⟨h1, h2⟩ := List.pairwise_cons.mp h
    have ih := riseI_up h2
    have ab := h1 b List.mem_cons_self
    unfold riseI at *
    simp only [List.map_cons, List.drop_succ_cons, List.drop_zero, List.zip_cons_cons, List.all_cons, Bool.and_eq_true] at *
    exact ⟨decide_eq_true ab, ih⟩
def A_rising (K : PySem.W.Frag) : (List (Int × Int) ⊕ List Int) → List V → Hp → Prop
  | .inl ts, vs, F => ∃ a xs, vs = [.ref a] ∧ SqT K F a xs ∧ DpAll K F xs (ts.map tieD) ∧ ts.length ≤ 4000
  | .inr ns, vs, F => ∃ a, vs = [.ref a] ∧ SqL K F a (ns.map V.int) ∧ ns.length ≤ 4000
def B_rising : (List (Int × Int) ⊕ List Int) → V → List (Addr × Cel) → Hp → Prop
  | .inl ts, v, N, _ => N = [] ∧ v = .bl (riseT ts)
  | .inr ns, v, N, _ => N = [] ∧ v = .bl (riseI ns)
theorem ok_is_rising (T : Env K mg) : FnOk P w K mg base CX0 1 T.a_is_rising T.fd_is_rising ["things"] (SpF (A_rising K) B_rising) := by
  have nd := sc_is_rising.nd
  refine T.F_is_rising.ok sc_is_rising (fun vs H Q E h => ?_) (fun cdv A outer s H vs Q E hr h => ?_)
  · obtain ⟨x, F, _, hA, _⟩ := h
    cases x with
    | inl ts => obtain ⟨a, xs, rfl, _⟩ := hA; rfl
    | inr ns => obtain ⟨a, rfl, _⟩ := hA; rfl
  · obtain ⟨x, F, fr, hA, k⟩ := h
    have S := Sep.start0 fr
    cases x with
    | inr ns =>
      obtain ⟨a, rfl, hs, few⟩ := hA
      refine ⟨_, (pss_one (ps_ret (pe_callB (cr_all rfl) (by rfl) T.n_all (by decide +kernel) (pa_cons (pe_lc (own := [("one", 1), ("other", 2)]) (g := (gTup K 2 (gCons (gName 1) (gCons (gName 2) gNil)))) (tt := tYes) (te := (tOp (rI0 fun i j => .bl (decide (i < j))) (tVar 1) (tVar 2))) rfl nd (pi_zip (by rfl) T.n_zip (pa_cons (pv 0) (pa_cons (pe_slice sl_list (pv 0) (po_some pe_int) po_none) pa_nil))) (blkOk_by (N := ["things", "one", "other"]) (sc := defScope s_is_rising) (by decide +kernel)) (fun _ _ _ _ _ => (pg_tup rfl (pgs_cons (pg_name (i := 1) nd rfl (.inl rfl)) (pgs_cons (pg_name (i := 2) nd rfl (.inl rfl)) pgs_nil)))) (fun _ _ _ _ _ => pts_nil) (fun _ _ _ _ _ => (pe_cmpR op_lt (pv 1) (pv 2) (nomark _)))) pa_nil)))), ?_⟩
      walk_at "rd"
      refine s_slL (Evl.ex_l S.fr hs) (s_new S fun u F1 H1 S e1 cu => ?_)
      rw [cutV_from (by omega)] at cu
      have hs1 := Evl.ex_l e1 hs
      have hu := SqL.of (K := K) cu
      walk_at "rd"
      refine ⟨a, u, ns.map V.int, _, rfl, Evl.ex_l S.fr hs1, Evl.ex_l S.fr hu, ?_⟩
      refine s_lcV (srcZ (xs := ns.map V.int) (ys := (ns.map V.int).drop 1) hs1 hu) (fun _ => true) (fun p => .bl (ltV p)) S (by rw [List.length_zip, List.length_map]; omega) (fun m hm => by cases hm) ?_ ?_
      · rintro j p x acc D F2 H2 vt S e2 ⟨q, rfl, cq⟩
        obtain ⟨x1, x2⟩ := p
        have hm := List.of_mem_zip (List.mem_of_getElem? vt.at')
        obtain ⟨n1, _, rfl⟩ := List.mem_map.mp hm.1
        obtain ⟨n2, _, rfl⟩ := List.mem_map.mp (List.mem_of_mem_drop hm.2)
        have cq' := SqT.of (K := K) (S.fr _ _ cq)
        walk_at "rd"
        refine ⟨rfl, ?_⟩
        walk_at "rd"
        exact vt.put S (by walk_at "ex") rfl rfl
      · intro D F2 H2 S e2
        rw [List.filter_eq_self.mpr (fun _ _ => rfl)] at S
        obtain ⟨F3, S, e3, c3⟩ := S.frz 0 rfl
        walk_at "rd"
        refine ⟨D, ((ns.map V.int).zip ((ns.map V.int).drop 1)).map ltV, rfl, by rw [List.map_map]; exact SqL.of (S.fr _ _ c3), ?_⟩
        refine k _ [] _ _ S ⟨rfl, ?_⟩
        unfold riseI
        rw [List.all_map]
        rfl
    | inl ts =>
    obtain ⟨a, xs, rfl, hs, hd, few⟩ := hA
    have hl := (dpAll_get hd).1
    rw [List.length_map] at hl
    refine ⟨_, (pss_one (ps_ret (pe_callB (cr_all rfl) (by rfl) T.n_all (by decide +kernel) (pa_cons (pe_lc (own := [("one", 1), ("other", 2)]) (g := (gTup K 2 (gCons (gName 1) (gCons (gName 2) gNil)))) (tt := tYes) (te := (tOp (rLtT K) (tVar 1) (tVar 2))) rfl nd (RZ.pi_zipA (by rfl) T.n_zip (pa_cons (pv 0) (pa_cons (pe_slice sl_tupA (pv 0) (po_some pe_int) po_none) pa_nil))) (blkOk_by (N := ["things", "one", "other"]) (sc := defScope s_is_rising) (by decide +kernel)) (fun _ _ _ _ _ => (pg_tup rfl (pgs_cons (pg_name (i := 1) nd rfl (.inl rfl)) (pgs_cons (pg_name (i := 2) nd rfl (.inl rfl)) pgs_nil)))) (fun _ _ _ _ _ => pts_nil) (fun _ _ _ _ _ => (pe_cmpR (op_ltT (Nat.lt_of_le_of_lt (Nat.le_add_right _ 64) hr.units)) (pv 1) (pv 2) (nomark _)))) pa_nil)))), ?_⟩
    walk_at "rd"
    refine s_slA S hs fun u F1 H1 S e1 hu => ?_
    rw [cutV_from (by omega)] at hu
    walk_at "rd"
    refine ⟨a, u, xs, _, rfl, .inr ⟨by walk_at "hl", by walk_at "hl", ?_⟩⟩
    have gd : DpAll K F1 (xs.drop (1 : Int).toNat) ((ts.drop 1).map tieD) := by rw [List.map_drop]; exact dpAll_drop _ (DpAll.ex e1 _ _ hd)
    refine s_lcV (srcZT2 (ts := ts) (us := ts.drop 1) (Evl.ex_t e1 hs) hu (DpAll.ex e1 _ _ hd) gd) (fun _ => true) (fun p => .bl (ltP2 p.1 p.2)) S (by rw [List.length_zip]; omega) (fun m hm => by cases hm) ?_ ?_
    · rintro j p x acc D F2 H2 vt S e2 ⟨t, ta, tb, rfl, ct, sa, sb⟩
      walk_at "rd"
      refine ⟨rfl, ?_⟩
      walk_at "rd"
      refine ⟨ta, tb, [p.1.1, p.1.2], [p.2.1, p.2.2], rfl, rfl, Evl.ex_t S.fr sa, Evl.ex_t S.fr sb, ?_⟩
      exact vt.put S (by walk_at "ex") rfl rfl
    · intro D F2 H2 S e2
      rw [List.filter_eq_self.mpr (fun _ _ => rfl)] at S
      obtain ⟨F3, S, e3, c3⟩ := S.frz 0 rfl
      walk_at "rd"
      refine ⟨D, (ts.zip (ts.drop 1)).map fun p => ltP2 p.1 p.2, rfl, by rw [List.map_map]; exact SqL.of (S.fr _ _ c3), ?_⟩
      refine k _ [] _ _ S ⟨rfl, ?_⟩
      unfold riseT
      rw [List.all_map]
      rfl
def toP : PyData → Int × Int
  | .tuple [.int a, .int b] => (a, b)
  | _ => (0, 0)
theorem tieB_toP {many : Int} : ∀ {d : PyData}, tieB many d = true → d = tieD (toP d) ∧ 0 ≤ (toP d).1 ∧ (toP d).1 < (toP d).2 ∧ (toP d).2 < many
  | .tuple [.int a, .int b], h => by
    have h : (decide (0 ≤ a) && (decide (a < b) && decide (b < many))) = true := h
    rw [Bool.and_eq_true, Bool.and_eq_true, decide_eq_true_eq, decide_eq_true_eq, decide_eq_true_eq] at h
    exact ⟨rfl, h.1, h.2.1, h.2.2⟩
  | .none, h => absurd h (by simp [tieB])
  | .bool _, h => absurd h (by simp [tieB])
  | .int _, h => absurd h (by simp [tieB])
  | .str _, h => absurd h (by simp [tieB])
  | .list _, h => absurd h (by simp [tieB])
  | .dict _, h => absurd h (by simp [tieB])
  | .tuple [], h => absurd h (by simp [tieB])
  | .tuple [x], h => absurd h (by cases x <;> simp [tieB])
  | .tuple (x :: y :: z :: r), h => absurd h (by rw [tieB_len (by simp)]; decide)
  | .tuple [x, y], h => by
    by_cases q : (wholeB x && wholeB y) = true
    · cases x <;> cases y <;> first | (simp [wholeB] at q; done) | skip
      rename_i a b
      have h : (decide (0 ≤ a) && (decide (a < b) && decide (b < many))) = true := h
      rw [Bool.and_eq_true, Bool.and_eq_true, decide_eq_true_eq, decide_eq_true_eq, decide_eq_true_eq] at h
      exact ⟨rfl, h.1, h.2.1, h.2.2⟩
    · rw [tieB_two (by simpa using q)] at h
      cases h
theorem ties_map {many : Int} : ∀ {ds : List PyData}, ds.all (tieB many) = true → ds = (ds.map toP).map tieD
  | [], _ => rfl
  | d :: ds, h => by
    rw [List.all_cons, Bool.and_eq_true] at h
    rw [List.map_cons, List.map_cons, ← ties_map h.2, ← (tieB_toP h.1).1]
def webB : PyData → Bool
  | .tuple [.int m, .tuple ds] => decide (1 ≤ m) && (decide (m ≤ 60) && (ds.all (tieB m) && riseT (ds.map toP)))
  | _ => false
def fewW : PyData → Prop
  | .tuple [_, .tuple ds] => ds.length ≤ 4000
  | _ => True
theorem webB_len {xs : List PyData} (h : xs.length ≠ 2) : webB (.tuple xs) = false := by
  match xs, h with
  | [], _ => rfl
  | [x], _ => cases x <;> rfl
  | [_, _], h => exact absurd rfl h
  | x :: y :: _ :: _, _ => cases x <;> cases y <;> rfl
def A_isweb (K : PySem.W.Frag) : PyData → List V → Hp → Prop := fun d vs F => ∃ v, vs = [v] ∧ Dp K F v d ∧ fewW d
def B_isweb : PyData → V → List (Addr × Cel) → Hp → Prop := fun d v N _ => N = [] ∧ v = .bl (webB d)
theorem ok_is_web (T : Env K mg) : FnOk P w K mg base CX0 3 T.a_is_web T.fd_is_web ["thing"] (SpF (A_isweb K) B_isweb) := by
  have nd := sc_is_web.nd
  have G_is_rising : FnOk P w K mg base CX0 1 T.a_is_rising T.fd_is_rising ["things"] (SpF (A_rising K) B_rising) := ok_is_rising T
  have G_is_whole : FnOk P w K mg base CX0 1 T.a_is_whole T.fd_is_whole ["thing"] (SpF (A_any K) B_whole) := ok_is_whole T
  have G_is_tie : FnOk P w K mg base CX0 2 T.a_is_tie T.fd_is_tie ["thing", "many"] (SpF (A_tie K) B_tie) := ok_is_tie T
  refine T.F_is_web.ok sc_is_web (fun vs H Q E h => ?_) (fun cdv A outer s H vs Q E hr h => ?_)
  · obtain ⟨_, F, _, ⟨v, rfl, _⟩, _⟩ := h
    rfl
  · obtain ⟨d, F, fr, ⟨v, rfl, hd, fw⟩, k⟩ := h
    have S := Sep.start0 fr
    refine ⟨_, (pss_cons (ps_if (PW.pt (pw_or (pt_not (pt_val (pe_callB call_isi (by rfl) T.n_isinstance (by decide +kernel) (pa_cons (pv 0) (pa_cons (pe_bltn (v := .ty "tuple") (u := .type "tuple") (by rfl) T.n_tuple (by decide +kernel) rfl) pa_nil))))) (pw_or1 (pt_cmpR op_ne (pe_callB call_len_seq (by rfl) T.n_len PySem.boot_len (pa_cons (pv 0) pa_nil)) pe_int (nomark _))))) (pss_one (ps_ret pe_bl)) pss_nil)
      (pss_cons (ps_asg (pv 0) (pg_tup rfl (pgs_cons (pg_name (i := 1) nd rfl (.inr rfl)) (pgs_cons (pg_name (i := 2) nd rfl (.inl rfl)) pgs_nil))))
      (pss_cons (ps_if (PW.pt (pw_or (pt_not (pt_val (pe_call G_is_whole (hr.mono (by decide)) (by rfl) T.g_is_whole T.F_is_whole.kp T.b_is_whole .nil pass0 (pa_cons (pv 1) pa_nil)))) (pw_or1 (pt_not (pt_chain op_le op_le pe_int (pv 1) (pe_glob (v := .int 60) (by rfl) T.g_MOST_HOUSES ⟨_, rfl⟩)))))) (pss_one (ps_ret pe_bl)) pss_nil)
      (pss_cons (ps_if (PW.pt (pw_or (pt_not (pt_val (pe_callB call_isi (by rfl) T.n_isinstance (by decide +kernel) (pa_cons (pv 2) (pa_cons (pe_bltn (v := .ty "tuple") (u := .type "tuple") (by rfl) T.n_tuple (by decide +kernel) rfl) pa_nil))))) (pw_or1 (pt_not (pt_val (pe_callB (cr_all rfl) (by rfl) T.n_all (by decide +kernel) (pa_cons (pe_lc (own := [("tie", 3)]) (g := gName 3) (tt := tYes) (te := (tCall (SpF (A_tie K) B_tie) [] E0 (tCons (tVar 3) (tCons (tVar 1) tNil)))) rfl nd (pi_tup (pv 2)) (blkOk_by (N := ["thing", "many", "ties", "tie"]) (sc := defScope s_is_web) (by decide +kernel)) (fun _ _ _ _ _ => (pg_name (i := 3) nd rfl (.inl rfl))) (fun _ _ _ _ _ => pts_nil) (fun _ _ _ _ _ => (pe_call G_is_tie (hr.mono (by decide)) (by rfl) T.g_is_tie T.F_is_tie.kp T.b_is_tie .nil pass0 (pa_cons (pv 3) (pa_cons (pv 1) pa_nil))))) pa_nil))))))) (pss_one (ps_ret pe_bl)) pss_nil)
      (pss_one (ps_ret (pe_call G_is_rising (hr.mono (by decide)) (by rfl) T.g_is_rising T.F_is_rising.kp T.b_is_rising .nil pass0 (pa_cons (pv 2) pa_nil)))))))), ?_⟩
    cases hd with
    | non => walk_at "rd"; exact k _ [] _ _ S ⟨rfl, rfl⟩
    | bl b => walk_at "rd"; exact k _ [] _ _ S ⟨rfl, rfl⟩
    | int i => walk_at "rd"; exact k _ [] _ _ S ⟨rfl, rfl⟩
    | str x => walk_at "rd"; exact k _ [] _ _ S ⟨rfl, rfl⟩
    | lst h1 h2 =>
      have h1 := Evl.ex_l fr h1
      walk_at "rd"; exact k _ [] _ _ S ⟨rfl, rfl⟩
    | tup h1 h2 =>
      rename_i a xs ds
      have h1' := Evl.ex_t fr h1
      have hl := (dpAll_get h2).1
      walk_at "rd"
      refine iteB (fun c => ?_) (fun c => ?_)
      · have c : ds.length ≠ 2 := fun z => by simp [hl, z] at c
        walk_at "rd"
        exact k _ [] _ _ S ⟨rfl, by rw [webB_len c]⟩
      · have c : ds.length = 2 := by simp [hl] at c; omega
        cases h2 with
        | nil => cases c
        | @cons x1 xs1 ds1 dr1 d1 h3 =>
          cases h3 with
          | nil => cases c
          | @cons x2 xs2 ds2 dr2 d2 h4 =>
            cases h4 with
            | cons _ _ => simp at c
            | nil =>
              walk_at "rd"
              refine r_callF S ds1 ⟨_, rfl, d1⟩ ?_
              rintro v N F1 H1 S e1 ⟨rfl, rfl⟩
              have bad : ∀ b, webB (.tuple [ds1, ds2]) = b → ∀ F' H', Sep [] H F F' H' [] → Q (.bl b) H' := fun b e F' H' S' => k (.bl b) [] F' H' S' ⟨rfl, by rw [e]⟩
              clear k
              walk_at "rd"
              cases d1 with
              | int m =>
                have et : ∀ ds, webB (.tuple [.int m, .tuple ds]) = (decide (1 ≤ m) && (decide (m ≤ 60) && (ds.all (tieB m) && riseT (ds.map toP)))) := fun _ => rfl
                have en : (¬ (1 ≤ m ∧ m ≤ 60)) → webB (.tuple [.int m, ds2]) = false := fun z => by
                  cases ds2 with
                  | tuple ds =>
                    rw [et]
                    by_cases q : 1 ≤ m
                    · rw [decide_eq_false (p := m ≤ 60) fun y => z ⟨q, y⟩, Bool.false_and, Bool.and_false]
                    · rw [decide_eq_false q, Bool.false_and]
                  | _ => rfl
                walk_at "rd"
                refine iteB (fun c1 => ?_) (fun c1 => ?_)
                · have c1 : 1 ≤ m := of_decide_eq_true c1
                  walk_at "rd"
                  cases c2 : decide (m ≤ 60) with
                  | false =>
                    have c2 := of_decide_eq_false c2
                    walk_at "rd"
                    exact bad _ (en fun z => c2 z.2) _ _ S
                  | true =>
                    have c2 : m ≤ 60 := of_decide_eq_true c2
                    have eb : ∀ ds, webB (.tuple [.int m, .tuple ds]) = (ds.all (tieB m) && riseT (ds.map toP)) := fun ds => by rw [et, decide_eq_true c1, decide_eq_true c2, Bool.true_and, Bool.true_and]
                    walk_at "rd"
                    cases d2 with
                    | non => walk_at "rd"; exact bad _ rfl _ _ S
                    | bl _ => walk_at "rd"; exact bad _ rfl _ _ S
                    | int _ => walk_at "rd"; exact bad _ rfl _ _ S
                    | str _ => walk_at "rd"; exact bad _ rfl _ _ S
                    | lst h5 h6 =>
                      have h5 := Evl.ex_l (e1.trans S.fr) h5
                      walk_at "rd"
                      exact bad _ rfl _ _ S
                    | @tup ta tx ts h5 h6 =>
                      have few : ts.length ≤ 4000 := fw
                      have h5 := Evl.ex_t e1 h5
                      have h6 := DpAll.ex e1 _ _ h6
                      have h6' : DpAll K F1 tx (ts.map fun d => d) := by rw [List.map_id']; exact h6
                      walk_at "rd"
                      refine ⟨ta, rfl, ⟨tx, by walk_at "hl"⟩, ?_⟩
                      refine s_lcV (srcDT (as := ts) (da := fun d => d) h5 h6') (fun _ => true) (fun d => .bl (tieB m d)) S (by omega) (fun m hm => by cases hm) ?_ ?_
                      · rintro j d x acc D F2 H2 vt S e2 hx
                        walk_at "rd"
                        refine ⟨rfl, ?_⟩
                        walk_at "rd"
                        refine r_callF S (d, m) ⟨_, rfl, hx⟩ ?_
                        rintro v N F3 H3 S e3 ⟨rfl, rfl⟩
                        exact vt.put S (by walk_at "ex") rfl rfl
                      · intro D F2 H2 S e2
                        rw [List.filter_eq_self.mpr (fun _ _ => rfl)] at S
                        obtain ⟨F3, S, e3, c3⟩ := S.frz 0 rfl
                        walk_at "rd"
                        refine ⟨D, ts.map (tieB m), rfl, by rw [List.map_map]; exact SqL.of (S.fr _ _ c3), ?_⟩
                        walk_at "rd"
                        rw [show (ts.map (tieB m)).all id = ts.all (tieB m) by rw [List.all_map]; rfl]
                        refine iteB (fun c3 => ?_) (fun c3 => ?_)
                        · walk_at "rd"
                          refine bad _ ?_ _ _ S
                          rw [eb, show ts.all (tieB m) = false by simpa using c3, Bool.false_and]
                        · have c3 : ts.all (tieB m) = true := by simpa using c3
                          walk_at "rd"
                          refine r_callF S (.inl (ts.map toP)) ⟨ta, tx, rfl, Evl.ex_t (e2.trans e3) h5, by rw [← ties_map c3]; exact DpAll.ex (e2.trans e3) _ _ h6, by rw [List.length_map]; omega⟩ ?_
                          rintro v N F4 H4 S e4 ⟨rfl, rfl⟩
                          refine bad _ ?_ _ _ S
                          rw [eb, c3, Bool.true_and]
                · have c1 : ¬ 1 ≤ m := of_decide_eq_false c1
                  walk_at "rd"
                  exact bad _ (en fun z => c1 z.1) _ _ S
              | non => walk_at "rd"; exact bad _ (by cases ds2 <;> rfl) _ _ S
              | bl _ => walk_at "rd"; exact bad _ (by cases ds2 <;> rfl) _ _ S
              | str _ => walk_at "rd"; exact bad _ (by cases ds2 <;> rfl) _ _ S
              | lst _ _ => walk_at "rd"; exact bad _ (by cases ds2 <;> rfl) _ _ S
              | tup _ _ => walk_at "rd"; exact bad _ (by cases ds2 <;> rfl) _ _ S

end

end
section
local macro_rules | `(tactic| walk_at "ex") => `(tactic| first | exact Evl.Ex.refl _ | assumption | ((refine' Evl.Ex.trans ?x ?y); (case y => assumption); (case x => walk_at "ex")))
local macro_rules | `(tactic| walk_at "hc") => `(tactic| first
  | assumption
  | ((refine' Sep.rdM ?S 0 ?k); (case S => assumption); (case k => exact rfl)) | ((refine' Sep.rdM ?S 1 ?k); (case S => assumption); (case k => exact rfl)) | ((refine' Sep.rdM ?S 2 ?k); (case S => assumption); (case k => exact rfl)) | ((refine' Sep.rdM ?S 3 ?k); (case S => assumption); (case k => exact rfl)) | ((refine' Sep.rdM ?S 4 ?k); (case S => assumption); (case k => exact rfl))
  | ((refine' Sep.rdC ?S ?e ?h); (case S => assumption); (case h => assumption); (case e => walk_at "ex")))
local macro_rules | `(tactic| walk_at "hl") => `(tactic| first
  | assumption
  | ((refine' SqL.of (Sep.rdM ?S 0 ?k)); (case S => assumption); (case k => exact rfl)) | ((refine' SqL.of (Sep.rdM ?S 1 ?k)); (case S => assumption); (case k => exact rfl)) | ((refine' SqL.of (Sep.rdM ?S 2 ?k)); (case S => assumption); (case k => exact rfl)) | ((refine' SqL.of (Sep.rdM ?S 3 ?k)); (case S => assumption); (case k => exact rfl)) | ((refine' SqL.of (Sep.rdM ?S 4 ?k)); (case S => assumption); (case k => exact rfl))
  | ((refine' Sep.rdL ?S ?e ?h); (case S => assumption); (case h => assumption); (case e => walk_at "ex"))
  | ((refine' Sep.rdT ?S ?e ?h); (case S => assumption); (case h => assumption); (case e => walk_at "ex"))
  | ((refine' SqL.of (Sep.rdC ?S ?e ?h)); (case S => assumption); (case h => assumption); (case e => walk_at "ex"))
  | ((refine' SqT.of (Sep.rdC ?S ?e ?h)); (case S => assumption); (case h => assumption); (case e => walk_at "ex"))
  | ((refine' SqL.of ?h); (case h => assumption)) | ((refine' SqT.of ?h); (case h => assumption))
  | ((refine' Evl.ex_l ?e ?h); (case h => assumption); (case e => walk_at "ex")) | ((refine' Evl.ex_t ?e ?h); (case h => assumption); (case e => walk_at "ex"))
  | ((refine' SqL.of (?e _ _ ?h)); (case h => assumption); (case e => walk_at "ex")) | ((refine' SqT.of (?e _ _ ?h)); (case h => assumption); (case e => walk_at "ex")))
local macro_rules | `(tactic| walk_at "hs") => `(tactic| walk_at "hc")
local macro_rules | `(tactic| walk_at "dp") => `(tactic| first
  | assumption
  | ((refine' Sep.rdD ?S ?e ?h); (case S => assumption); (case h => assumption); (case e => walk_at "ex"))
  | ((refine' Dp.ex ?e _ _ ?h); (case h => assumption); (case e => walk_at "ex"))
  | ((refine' DpAll.ex ?e _ _ ?h); (case h => assumption); (case e => walk_at "ex"))
  | (refine' dp_intsD ?h; (case h => walk_at "hl")))
local macro_rules | `(tactic| walk_at "rd1") => `(tactic| (first
  | (with_reducible refine r_seq ?_)
  | (with_reducible refine r_asg ?_)
  | (with_reducible refine r_asgG ?_)
  | (with_reducible refine r_par ?_)
  | (with_reducible refine r_if ?_)
  | (with_reducible refine r_ret ?_)
  | (with_reducible refine r_drop ?_)
  | (with_reducible refine r_next ?_)
  | ((with_reducible refine' r_var ?hx ?_); (case hx => exact rfl))
  | (with_reducible refine r_c ?_)
  | (with_reducible refine r_op ?_)
  | (with_reducible refine r_un ?_)
  | (with_reducible refine r_I0 ?_)
  | ((with_reducible refine' r_I ?_ ?_); (· first | (show (0 : Int) < _; omega) | exact Or.inr ⟨by omega, by omega⟩ | exact Or.inl ⟨by omega, by omega⟩ | exact ⟨by omega, by omega, by decide⟩))
  | (with_reducible refine r_U ?_)
  | (with_reducible refine r_test ?_)
  | (with_reducible refine r_B ?_)
  | (with_reducible refine r_bl ?_)
  | (with_reducible refine r_eqI ?_)
  | (with_reducible refine r_neI ?_)
  | ((with_reducible refine' r_eq ?_ ?_); (· exact rfl))
  | ((with_reducible refine' r_ne ?_ ?_); (· exact rfl))
  | (with_reducible refine r_nil ?_)
  | (with_reducible refine r_cons ?_)
  | (with_reducible refine s_tup ?_)
  | (with_reducible refine s_lst ?_)
  | (with_reducible refine r_call ?_)
  | (with_reducible refine r_cb ?_)
  | (with_reducible refine r_and ?_)
  | (with_reducible refine r_or ?_)
  | (with_reducible refine r_not ?_)
  | (with_reducible refine r_andV ?_)
  | (with_reducible refine r_orV ?_)
  | (with_reducible refine r_notV ?_)
  | (with_reducible refine r_ifE ?_)
  | (with_reducible refine r_gSub ?_)
  | (with_reducible refine r_sadd ?_)
  | (with_reducible refine s_lstRg ?_)
  | (with_reducible refine r_rg1 ?_)
  | (with_reducible refine r_min2 ?_)
  | (with_reducible refine r_par2 ?_)
  | (with_reducible refine r_partI ?_)
  | (with_reducible refine s_lc ?_)
  | (with_reducible refine s_dc ?_)
  | (with_reducible refine r_yes ?_)
  | (with_reducible refine r_iZipA ?_)
  | (with_reducible refine r_isN ?_)
  | (with_reducible refine r_for ?_)
  | (with_reducible refine r_iList ?_)
  | (with_reducible refine r_iTup ?_)
  | (with_reducible refine r_iRng1 ?_)
  | (with_reducible refine r_iRng2 ?_)
  | (with_reducible refine r_iEnum ?_)
  | (with_reducible refine r_iZip ?_)
  | (with_reducible refine r_gName ?_)
  | (with_reducible refine r_isNV ?_)
  | (with_reducible refine r_notNV ?_)
  | (with_reducible refine r_bm ?_)
  | (with_reducible refine r_bm0 ?_)
  | (with_reducible refine r_sl ?_)
  | (with_reducible refine r_noPart ?_)
  | (with_reducible refine r_part ?_)
  | (with_reducible refine r_chain ?_)
  | (with_reducible refine r_iKeys ?_)
  | (with_reducible refine r_iItems ?_)
  | (with_reducible refine r_frz ?_)
  | (with_reducible refine r_dput ?_)
  | (with_reducible refine r_dget ?_)
  | (with_reducible refine r_din ?_)
  | (with_reducible refine r_dnotin ?_)
  | (with_reducible refine r_break ?_)
  | ((with_reducible refine' r_sIn ?h ?_); (case h => walk_at "hs"))
  | ((with_reducible refine' r_sNotIn ?h ?_); (case h => walk_at "hs"))
  | ((with_reducible refine' r_inI ?h ?_); (case h => walk_at "hl"))
  | ((with_reducible refine' r_notInI ?h ?_); (case h => walk_at "hl"))
  | ((with_reducible refine' r_eqNil ?h ?g ?_); (case h => walk_at "hl"); (case g => walk_at "hl"))
  | ((with_reducible refine' r_neNil ?h ?g ?_); (case h => walk_at "hl"); (case g => walk_at "hl"))
  | ((with_reducible refine' iteRT ?hh ?_); (case hh => exact rfl))
  | ((with_reducible refine' iteRF ?hh ?_); (case hh => exact rfl))
  | ((with_reducible refine' r_isiT ?ty ?hk ?_); (case ty => (first | assumption | exact tyx_L (by assumption) | exact tyx_T (by assumption) | exact .base (.non) | exact .base (.bl _) | exact .base (.int _) | exact .base (.str _) | exact tyx_L (by walk_at "hl") | exact tyx_T (by walk_at "hl"))); (case hk => decide +kernel))
  | ((with_reducible refine' r_isiF ?ty ?hk ?_); (case ty => (first | assumption | exact tyx_L (by assumption) | exact tyx_T (by assumption) | exact .base (.non) | exact .base (.bl _) | exact .base (.int _) | exact .base (.str _) | exact tyx_L (by walk_at "hl") | exact tyx_T (by walk_at "hl"))); (case hk => decide +kernel))
  | ((with_reducible refine' r_gTup2 ?hn ?hs ?_); (case hn => exact rfl); (case hs => walk_at "hl"))
  | ((with_reducible refine' s_list ?hl ?_); (case hl => first | exact Or.inl (by walk_at "hl") | exact Or.inr (by walk_at "hl")))
  | ((with_reducible refine' s_tupN ?hl ?_); (case hl => walk_at "hl"))
  | ((with_reducible refine' s_sortN ?hl ?_); (case hl => walk_at "hl"))
  | ((refine' ⟨_, _, rfl, ?hl, ?_⟩); (case hl => first | exact Or.inl (by walk_at "hl") | exact Or.inr (by walk_at "hl")))
  | ((with_reducible refine' r_ixL ?hl ?ha ?_); (case hl => walk_at "hl"); (case ha => first | exact rfl | assumption))
  | ((with_reducible refine' r_ixT ?hl ?ha ?_); (case hl => walk_at "hl"); (case ha => first | exact rfl | assumption))))
local macro_rules | `(tactic| walk_at "rd") => `(tactic| repeat (walk_at "rd1"))

section
variable {w : World} {K : PySem.W.Frag} {mg : Str → Option Value} {base : Heap}
theorem ltP2_iff {a b : Int × Int} : ltP2 a b = true ↔ Lx a b := by
  unfold ltP2 Lx
  rw [HT.lexLt_cons, HT.lexLt_cons, HT.lexLt_nil_nil]
  by_cases h1 : a.1 = b.1
  · rw [if_pos h1]
    by_cases h2 : a.2 = b.2
    · rw [if_pos h2]
      constructor
      · intro z; cases z
      · intro z; omega
    · rw [if_neg h2, decide_eq_true_eq]
      omega
  · rw [if_neg h1, decide_eq_true_eq]
    omega
theorem Lx.trans {a b c : Int × Int} (h : Lx a b) (g : Lx b c) : Lx a c := by unfold Lx at *; omega
theorem rise_iff : ∀ ts : List (Int × Int), riseT ts = true ↔ ts.Pairwise Lx
  | [] => ⟨fun _ => .nil, fun _ => rfl⟩
  | [a] => ⟨fun _ => List.pairwise_singleton _ _, fun _ => rfl⟩
  | a :: b :: r => by
    have ih := rise_iff (b :: r)
    have e : riseT (a :: b :: r) = (ltP2 a b && riseT (b :: r)) := rfl
    rw [e, Bool.and_eq_true, ltP2_iff, ih, List.pairwise_cons (a := a)]
    constructor
    · rintro ⟨h, p⟩
      refine ⟨fun x hx => ?_, p⟩
      rcases List.mem_cons.mp hx with rfl | hx
      · exact h
      · exact h.trans ((List.pairwise_cons.mp p).1 x hx)
    · rintro ⟨h, p⟩
      exact ⟨h b List.mem_cons_self, p⟩
theorem webB_eq (m : Int) (ds : List PyData) : webB (.tuple [.int m, .tuple ds]) = (decide (1 ≤ m) && (decide (m ≤ 60) && (ds.all (tieB m) && riseT (ds.map toP)))) := rfl
theorem webB_web {many : Int} {ties : List (Int × Int)} (W : WebOk many ties) : webB (webD many ties) = true := by
  unfold webD
  rw [webB_eq, decide_eq_true W.lo, decide_eq_true W.hi, Bool.true_and, Bool.true_and, Bool.and_eq_true]
  refine ⟨List.all_eq_true.mpr fun d hd => ?_, ?_⟩
  · obtain ⟨u, hu, rfl⟩ := List.mem_map.mp hd
    have := W.ok u hu
    show (decide (0 ≤ u.1) && (decide (u.1 < u.2) && decide (u.2 < many))) = true
    rw [decide_eq_true this.1, decide_eq_true this.2.1, decide_eq_true this.2.2]
    rfl
  · rw [rise_iff, List.map_map]
    have : (toP ∘ tieD) = id := by funext u; rfl
    rw [this, List.map_id]
    exact W.up

end

end
section
local macro_rules | `(tactic| walk_at "ex") => `(tactic| first | exact Evl.Ex.refl _ | assumption | ((refine' Evl.Ex.trans ?x ?y); (case y => assumption); (case x => walk_at "ex")))
local macro_rules | `(tactic| walk_at "hc") => `(tactic| first
  | assumption
  | ((refine' Sep.rdM ?S 0 ?k); (case S => assumption); (case k => exact rfl)) | ((refine' Sep.rdM ?S 1 ?k); (case S => assumption); (case k => exact rfl)) | ((refine' Sep.rdM ?S 2 ?k); (case S => assumption); (case k => exact rfl)) | ((refine' Sep.rdM ?S 3 ?k); (case S => assumption); (case k => exact rfl)) | ((refine' Sep.rdM ?S 4 ?k); (case S => assumption); (case k => exact rfl))
  | ((refine' Sep.rdC ?S ?e ?h); (case S => assumption); (case h => assumption); (case e => walk_at "ex")))
local macro_rules | `(tactic| walk_at "hl") => `(tactic| first
  | assumption
  | ((refine' SqL.of (Sep.rdM ?S 0 ?k)); (case S => assumption); (case k => exact rfl)) | ((refine' SqL.of (Sep.rdM ?S 1 ?k)); (case S => assumption); (case k => exact rfl)) | ((refine' SqL.of (Sep.rdM ?S 2 ?k)); (case S => assumption); (case k => exact rfl)) | ((refine' SqL.of (Sep.rdM ?S 3 ?k)); (case S => assumption); (case k => exact rfl)) | ((refine' SqL.of (Sep.rdM ?S 4 ?k)); (case S => assumption); (case k => exact rfl))
  | ((refine' Sep.rdL ?S ?e ?h); (case S => assumption); (case h => assumption); (case e => walk_at "ex"))
  | ((refine' Sep.rdT ?S ?e ?h); (case S => assumption); (case h => assumption); (case e => walk_at "ex"))
  | ((refine' SqL.of (Sep.rdC ?S ?e ?h)); (case S => assumption); (case h => assumption); (case e => walk_at "ex"))
  | ((refine' SqT.of (Sep.rdC ?S ?e ?h)); (case S => assumption); (case h => assumption); (case e => walk_at "ex"))
  | ((refine' SqL.of ?h); (case h => assumption)) | ((refine' SqT.of ?h); (case h => assumption))
  | ((refine' Evl.ex_l ?e ?h); (case h => assumption); (case e => walk_at "ex")) | ((refine' Evl.ex_t ?e ?h); (case h => assumption); (case e => walk_at "ex"))
  | ((refine' SqL.of (?e _ _ ?h)); (case h => assumption); (case e => walk_at "ex")) | ((refine' SqT.of (?e _ _ ?h)); (case h => assumption); (case e => walk_at "ex")))
local macro_rules | `(tactic| walk_at "hs") => `(tactic| walk_at "hc")
local macro_rules | `(tactic| walk_at "dp") => `(tactic| first
  | assumption
  | ((refine' Sep.rdD ?S ?e ?h); (case S => assumption); (case h => assumption); (case e => walk_at "ex"))
  | ((refine' Dp.ex ?e _ _ ?h); (case h => assumption); (case e => walk_at "ex"))
  | ((refine' DpAll.ex ?e _ _ ?h); (case h => assumption); (case e => walk_at "ex"))
  | (refine' dp_intsD ?h; (case h => walk_at "hl")))
local macro_rules | `(tactic| walk_at "rd1") => `(tactic| (first
  | (with_reducible refine r_seq ?_)
  | (with_reducible refine r_asg ?_)
  | (with_reducible refine r_asgG ?_)
  | (with_reducible refine r_par ?_)
  | (with_reducible refine r_if ?_)
  | (with_reducible refine r_ret ?_)
  | (with_reducible refine r_drop ?_)
  | (with_reducible refine r_next ?_)
  | ((with_reducible refine' r_var ?hx ?_); (case hx => exact rfl))
  | (with_reducible refine r_c ?_)
  | (with_reducible refine r_op ?_)
  | (with_reducible refine r_un ?_)
  | (with_reducible refine r_I0 ?_)
  | ((with_reducible refine' r_I ?_ ?_); (· first | (show (0 : Int) < _; omega) | exact Or.inr ⟨by omega, by omega⟩ | exact Or.inl ⟨by omega, by omega⟩ | exact ⟨by omega, by omega, by decide⟩))
  | (with_reducible refine r_U ?_)
  | (with_reducible refine r_test ?_)
  | (with_reducible refine r_B ?_)
  | (with_reducible refine r_bl ?_)
  | (with_reducible refine r_eqI ?_)
  | (with_reducible refine r_neI ?_)
  | ((with_reducible refine' r_eq ?_ ?_); (· exact rfl))
  | ((with_reducible refine' r_ne ?_ ?_); (· exact rfl))
  | (with_reducible refine r_nil ?_)
  | (with_reducible refine r_cons ?_)
  | (with_reducible refine s_tup ?_)
  | (with_reducible refine s_lst ?_)
  | (with_reducible refine r_call ?_)
  | (with_reducible refine r_cb ?_)
  | (with_reducible refine r_and ?_)
  | (with_reducible refine r_or ?_)
  | (with_reducible refine r_not ?_)
  | (with_reducible refine r_andV ?_)
  | (with_reducible refine r_orV ?_)
  | (with_reducible refine r_notV ?_)
  | (with_reducible refine r_ifE ?_)
  | (with_reducible refine r_gSub ?_)
  | (with_reducible refine r_sadd ?_)
  | (with_reducible refine s_lstRg ?_)
  | (with_reducible refine r_rg1 ?_)
  | (with_reducible refine r_min2 ?_)
  | (with_reducible refine r_par2 ?_)
  | (with_reducible refine r_partI ?_)
  | (with_reducible refine s_lc ?_)
  | (with_reducible refine s_dc ?_)
  | (with_reducible refine r_yes ?_)
  | (with_reducible refine r_iZipA ?_)
  | (with_reducible refine r_isN ?_)
  | (with_reducible refine r_for ?_)
  | (with_reducible refine r_iList ?_)
  | (with_reducible refine r_iTup ?_)
  | (with_reducible refine r_iRng1 ?_)
  | (with_reducible refine r_iRng2 ?_)
  | (with_reducible refine r_iEnum ?_)
  | (with_reducible refine r_iZip ?_)
  | (with_reducible refine r_gName ?_)
  | (with_reducible refine r_isNV ?_)
  | (with_reducible refine r_notNV ?_)
  | (with_reducible refine r_bm ?_)
  | (with_reducible refine r_bm0 ?_)
  | (with_reducible refine r_sl ?_)
  | (with_reducible refine r_noPart ?_)
  | (with_reducible refine r_part ?_)
  | (with_reducible refine r_chain ?_)
  | (with_reducible refine r_iKeys ?_)
  | (with_reducible refine r_iItems ?_)
  | (with_reducible refine r_frz ?_)
  | (with_reducible refine r_dput ?_)
  | (with_reducible refine r_dget ?_)
  | (with_reducible refine r_din ?_)
  | (with_reducible refine r_dnotin ?_)
  | (with_reducible refine r_break ?_)
  | ((with_reducible refine' r_sIn ?h ?_); (case h => walk_at "hs"))
  | ((with_reducible refine' r_sNotIn ?h ?_); (case h => walk_at "hs"))
  | ((with_reducible refine' r_inI ?h ?_); (case h => walk_at "hl"))
  | ((with_reducible refine' r_notInI ?h ?_); (case h => walk_at "hl"))
  | ((with_reducible refine' r_eqNil ?h ?g ?_); (case h => walk_at "hl"); (case g => walk_at "hl"))
  | ((with_reducible refine' r_neNil ?h ?g ?_); (case h => walk_at "hl"); (case g => walk_at "hl"))
  | ((with_reducible refine' iteRT ?hh ?_); (case hh => exact rfl))
  | ((with_reducible refine' iteRF ?hh ?_); (case hh => exact rfl))
  | ((with_reducible refine' r_isiT ?ty ?hk ?_); (case ty => (first | assumption | exact tyx_L (by assumption) | exact tyx_T (by assumption) | exact .base (.non) | exact .base (.bl _) | exact .base (.int _) | exact .base (.str _) | exact tyx_L (by walk_at "hl") | exact tyx_T (by walk_at "hl"))); (case hk => decide +kernel))
  | ((with_reducible refine' r_isiF ?ty ?hk ?_); (case ty => (first | assumption | exact tyx_L (by assumption) | exact tyx_T (by assumption) | exact .base (.non) | exact .base (.bl _) | exact .base (.int _) | exact .base (.str _) | exact tyx_L (by walk_at "hl") | exact tyx_T (by walk_at "hl"))); (case hk => decide +kernel))
  | ((with_reducible refine' r_gTup2 ?hn ?hs ?_); (case hn => exact rfl); (case hs => walk_at "hl"))
  | ((with_reducible refine' s_list ?hl ?_); (case hl => first | exact Or.inl (by walk_at "hl") | exact Or.inr (by walk_at "hl")))
  | ((with_reducible refine' s_tupN ?hl ?_); (case hl => walk_at "hl"))
  | ((with_reducible refine' s_sortN ?hl ?_); (case hl => walk_at "hl"))
  | ((refine' ⟨_, _, rfl, ?hl, ?_⟩); (case hl => first | exact Or.inl (by walk_at "hl") | exact Or.inr (by walk_at "hl")))
  | ((with_reducible refine' r_ixL ?hl ?ha ?_); (case hl => walk_at "hl"); (case ha => first | exact rfl | assumption))
  | ((with_reducible refine' r_ixT ?hl ?ha ?_); (case hl => walk_at "hl"); (case ha => first | exact rfl | assumption))))
local macro_rules | `(tactic| walk_at "rd") => `(tactic| repeat (walk_at "rd1"))

section
variable {w : World} {K : PySem.W.Frag} {mg : Str → Option Value} {base : Heap}

def A_com : (Int × Int) → List V → Hp → Prop := fun f vs _ => vs = [.int f.1, .int f.2] ∧ 0 ≤ f.1 ∧ 0 ≤ f.2
def B_com : (Int × Int) → V → List (Addr × Cel) → Hp → Prop := fun f v N _ => N = [] ∧ v = .int ((Nat.gcd f.1.natAbs f.2.natAbs : Nat) : Int)
theorem gcd_step {a b : Int} (ha : 0 ≤ a) (hb : 0 < b) : Nat.gcd b.natAbs (a % b).natAbs = Nat.gcd a.natAbs b.natAbs := by
  obtain ⟨m, rfl⟩ := Int.eq_ofNat_of_zero_le ha
  obtain ⟨n, rfl⟩ := Int.eq_ofNat_of_zero_le (Int.le_of_lt hb)
  have e : ((m : Int) % (n : Int)).natAbs = m % n := by rw [← Int.natCast_emod]; rfl
  rw [e, Int.natAbs_natCast, Int.natAbs_natCast, Nat.gcd_comm m n, Nat.gcd_rec n m, Nat.gcd_comm]
theorem ok_l_common (T : Env K mg) : FnOk P w K mg base CX0 1 T.a__law_common T.fd__law_common ["one", "other"] (SpF A_com B_com) := by
  have nd := sc__law_common.nd
  refine T.F__law_common.ok sc__law_common (fun vs H Q E h => ?_) (fun cdv A outer s H vs Q E hr h => ?_)
  · obtain ⟨_, F, _, ⟨rfl, _⟩, _⟩ := h
    rfl
  · obtain ⟨f, F, fr, ⟨rfl, h1, h2⟩, k⟩ := h
    have S := Sep.start0 fr
    refine ⟨_, (pss_cons (ps_while PassesOwn.never (pt_cmpR op_ne (pv 1) pe_int (nomark _)) (pss_one (ps_par (i := 0) (j := 1) (by rfl) nd rfl rfl (by decide) rfl rfl (pa_cons (pv 1) (pa_cons (pe_op op_mod (pv 0) (pv 1)) pa_nil)) (by rfl))))
      (pss_one (ps_ret (pv 0)))), ?_⟩
    walk_at "rd"
    refine s_while (fun n σ' F' M' => ∃ a b : Int, σ' = [some (.int a), some (.int b)] ∧ M' = [] ∧ n = b.natAbs ∧ 0 ≤ a ∧ 0 ≤ b ∧ Nat.gcd a.natAbs b.natAbs = Nat.gcd f.1.natAbs f.2.natAbs) S f.2.natAbs ⟨_, _, rfl, rfl, rfl, h1, h2, rfl⟩ ?_
    rintro n σ' F1 H1 M' S e1 ⟨a, b, rfl, rfl, rfl, g1, g2, g3⟩
    walk_at "rd"
    refine iteB (fun c => ?_) (fun c => ?_)
    · have hb : b ≠ 0 := fun z => by rw [z] at c; exact absurd c (by decide)
      refine ⟨_, fun _ _ z => z, ?_⟩
      walk_at "rd"
      have m1 := Int.emod_nonneg a hb
      have m2 := Int.emod_lt_of_pos a (show 0 < b by omega)
      refine ⟨(a % b).natAbs, by omega, _, _, S, e1, b, a % b, rfl, rfl, rfl, g2, m1, ?_⟩
      rw [gcd_step g1 (by omega)]
      exact g3
    · have hb : b = 0 := Decidable.byContradiction fun z => by
        have : (decide (V.int b = V.int 0)) = false := decide_eq_false fun q => z (V.int.inj q)
        simp [this] at c
        exact z c
      walk_at "rd"
      refine k _ [] _ _ S ⟨rfl, ?_⟩
      rw [← g3, hb]
      show V.int a = V.int ((Nat.gcd a.natAbs 0 : Nat) : Int)
      rw [Nat.gcd_zero_right, Int.natAbs_of_nonneg g1]
def A_lfr : Unit → List V → Hp → Prop := fun _ vs _ => vs = []
structure FrOk (f : Int × Int) : Prop where
  one : Num60 f.1
  two : Num60 f.2
  pos : 0 < f.2
  cop : Nat.gcd f.1.natAbs f.2.natAbs = 1
def B_lfr (K : PySem.W.Frag) : Unit → V → List (Addr × Cel) → Hp → Prop := fun _ v N F => N = [] ∧ ∃ f, FrOk f ∧ Dp K F v (tieD f)
theorem frOk_of {a b : Int} (h1 : 0 ≤ a) (h2 : a < 10 ^ 60) (h3 : 0 < b) (h4 : b < 10 ^ 60) : 0 < ((Nat.gcd a.natAbs b.natAbs : Nat) : Int) ∧ ((Nat.gcd a.natAbs b.natAbs : Nat) : Int).natAbs.log2 < 9000 ∧ FrOk (a / ((Nat.gcd a.natAbs b.natAbs : Nat) : Int), b / ((Nat.gcd a.natAbs b.natAbs : Nat) : Int)) := by
  obtain ⟨m, rfl⟩ := Int.eq_ofNat_of_zero_le h1
  obtain ⟨n, rfl⟩ := Int.eq_ofNat_of_zero_le (Int.le_of_lt h3)
  rw [Int.natAbs_natCast, Int.natAbs_natCast, Int.natAbs_natCast]
  have np : 0 < n := by omega
  have gp : 0 < Nat.gcd m n := Nat.gcd_pos_of_pos_right m np
  have gl : Nat.gcd m n ≤ n := Nat.gcd_le_right m np
  have l := log_num (i := ((Nat.gcd m n : Nat) : Int)) ⟨by omega, by omega⟩
  have e1 : (m : Int) / ((Nat.gcd m n : Nat) : Int) = ((m / Nat.gcd m n : Nat) : Int) := (Int.natCast_ediv _ _).symm
  have e2 : (n : Int) / ((Nat.gcd m n : Nat) : Int) = ((n / Nat.gcd m n : Nat) : Int) := (Int.natCast_ediv _ _).symm
  have d1 : m / Nat.gcd m n ≤ m := Nat.div_le_self _ _
  have d2 : n / Nat.gcd m n ≤ n := Nat.div_le_self _ _
  have p2 : 0 < n / Nat.gcd m n := Nat.div_pos gl gp
  refine ⟨by omega, by rw [Int.natAbs_natCast] at l; omega, ?_⟩
  rw [e1, e2]
  exact ⟨⟨Int.natCast_nonneg _, by show ((m / Nat.gcd m n : Nat) : Int) < 10 ^ 60; omega⟩, ⟨Int.natCast_nonneg _, by show ((n / Nat.gcd m n : Nat) : Int) < 10 ^ 60; omega⟩, by show 0 < ((n / Nat.gcd m n : Nat) : Int); omega, by
    show Nat.gcd (m / Nat.gcd m n) (n / Nat.gcd m n) = 1
    exact Nat.gcd_div_gcd_div_gcd_of_pos_right np⟩
theorem ok_l_fraction (T : Env K mg) : FnOk P w K mg base CX0 3 T.a__law_fraction T.fd__law_fraction ["pot"] (SpP A_lfr (B_lfr K)) := by
  have nd := sc__law_fraction.nd
  have G__law_pick : FnOk P w K mg base CX0 2 T.a__law_pick T.fd__law_pick ["pot", "many"] (SpP A_pick B_pick) := ok_l_pick T
  have G__law_common : FnOk P w K mg base CX0 1 T.a__law_common T.fd__law_common ["one", "other"] (SpF A_com B_com) := ok_l_common T
  refine T.F__law_fraction.ok sc__law_fraction (fun vs H Q E h => ?_) (fun cdv A outer s H vs Q E hr h => ?_)
  · obtain ⟨x, F, p, r, rfl, _, _, _, rfl, _⟩ := h
    rfl
  · obtain ⟨_, F, p, r, rfl, fr, hF, hP, rfl, k⟩ := h
    have S := Sep.startP fr hF hP
    refine ⟨_, (pss_cons (ps_set (i := 1) nd rfl (.inl rfl) (pe_call G__law_pick (hr.mono (by decide)) (by rfl) T.g__law_pick T.F__law_pick.kp T.b__law_pick .nil pass0 (pa_cons (pv 0) (pa_cons pe_int pa_nil))))
      (pss_cons (ps_set (i := 2) nd rfl (.inl rfl) (pe_call G__law_pick (hr.mono (by decide)) (by rfl) T.g__law_pick T.F__law_pick.kp T.b__law_pick .nil pass0 (pa_cons (pv 0) (pa_cons (pe_ix ix_list (pe_lst (pa_cons pe_int (pa_cons pe_int (pa_cons (pe_op op_pow pe_int pe_int) (pa_cons (pe_op op_pow pe_int pe_int) pa_nil))))) (pv 1) (fun _ _ => rfl)) pa_nil))))
      (pss_cons (ps_set (i := 3) nd rfl (.inl rfl) (pe_op op_add pe_int (pe_call G__law_pick (hr.mono (by decide)) (by rfl) T.g__law_pick T.F__law_pick.kp T.b__law_pick .nil pass0 (pa_cons (pv 0) (pa_cons (pe_ix ix_list (pe_lst (pa_cons pe_int (pa_cons pe_int (pa_cons (pe_op op_pow pe_int pe_int) (pa_cons (pe_op op_pow pe_int pe_int) pa_nil))))) (pv 1) (fun _ _ => rfl)) pa_nil)))))
      (pss_cons (ps_set (i := 4) nd rfl (.inl rfl) (pe_call G__law_common (hr.mono (by decide)) (by rfl) T.g__law_common T.F__law_common.kp T.b__law_common .nil pass0 (pa_cons (pv 2) (pa_cons (pv 3) pa_nil))))
      (pss_one (ps_ret (pe_tup (pa_cons (pe_op op_fdivW (pv 2) (pv 4)) (pa_cons (pe_op op_fdivW (pv 3) (pv 4)) pa_nil))))))))), ?_⟩
    walk_at "rd"
    refine r_callP S 0 rfl 4 ⟨rfl, by omega, small_up (by omega) (by omega)⟩ fun v N F1 H1 S e1 ⟨z, way, ev, w0, w1⟩ => ?_
    subst z ev
    walk_at "rd"
    refine ⟨(by show 4 ≤ sizeLine; decide), s_new S fun l1 F2 H2 S e2 c1 => ?_⟩
    obtain ⟨u, hu, hu1, hu2⟩ : ∃ u : Int, atI [V.int 2, V.int 20, V.int (10 ^ 6), V.int (10 ^ 50)] way = some (.int u) ∧ 0 < u ∧ u ≤ 10 ^ 50 := by
      rcases (show way = 0 ∨ way = 1 ∨ way = 2 ∨ way = 3 by omega) with e | e | e | e <;> subst e
      · exact ⟨2, rfl, by decide +kernel, by decide +kernel⟩
      · exact ⟨20, rfl, by decide +kernel, by decide +kernel⟩
      · exact ⟨10 ^ 6, rfl, by decide +kernel, by decide +kernel⟩
      · exact ⟨10 ^ 50, rfl, by decide +kernel, by decide +kernel⟩
    have up : ∀ u : Int, 0 < u → u ≤ 10 ^ 50 → u.natAbs < 2 ^ 1000 := fun u h1 h2 => Nat.lt_of_lt_of_le (show u.natAbs < 2 ^ 200 by omega) (Nat.pow_le_pow_right (by omega) (by omega))
    walk_at "rd"
    refine r_callP S 0 rfl u ⟨rfl, hu1, up u hu1 hu2⟩ fun v N F3 H3 S e3 ⟨z, over, ev, o0, o1⟩ => ?_
    subst z ev
    walk_at "rd"
    refine ⟨(by show 4 ≤ sizeLine; decide), s_new S fun l2 F4 H4 S e4 c2 => ?_⟩
    obtain ⟨u', hu', hu1', hu2'⟩ : ∃ u : Int, atI [V.int 3, V.int 20, V.int (10 ^ 6), V.int (10 ^ 50)] way = some (.int u) ∧ 0 < u ∧ u ≤ 10 ^ 50 := by
      rcases (show way = 0 ∨ way = 1 ∨ way = 2 ∨ way = 3 by omega) with e | e | e | e <;> subst e
      · exact ⟨3, rfl, by decide +kernel, by decide +kernel⟩
      · exact ⟨20, rfl, by decide +kernel, by decide +kernel⟩
      · exact ⟨10 ^ 6, rfl, by decide +kernel, by decide +kernel⟩
      · exact ⟨10 ^ 50, rfl, by decide +kernel, by decide +kernel⟩
    walk_at "rd"
    refine r_callP S 0 rfl u' ⟨rfl, hu1', up u' hu1' hu2'⟩ fun v N F5 H5 S e5 ⟨z, un, ev, n0, n1⟩ => ?_
    subst z ev
    walk_at "rd"
    have dec : (10 : Int) ^ 50 < 10 ^ 59 := by decide +kernel
    have dec2 : (10 : Int) ^ 59 + 1 < 10 ^ 60 := by decide +kernel
    obtain ⟨q1, q2, q3⟩ := frOk_of (a := over) (b := 1 + un) o0 (by omega) (by omega) (by omega)
    refine r_callF S (over, 1 + un) ⟨rfl, o0, by show 0 ≤ 1 + un; omega⟩ ?_
    rintro v N F6 H6 S e6 ⟨rfl, rfl⟩
    walk_at "rd"
    refine ⟨_, _, rfl, rfl, ⟨q1, q2⟩, ?_⟩
    walk_at "rd"
    refine ⟨_, _, rfl, rfl, ⟨q1, q2⟩, ?_⟩
    walk_at "rd"
    refine ⟨by show 2 ≤ sizeLine; decide, s_new S fun t1 F7 H7 S e7 c7 => ?_⟩
    exact k _ [] _ _ S ⟨rfl, _, q3, .tup (SqT.of c7) (.cons (.int _) (.cons (.int _) .nil))⟩
def A_lho : Int → List V → Hp → Prop := fun many vs _ => vs = [.int many] ∧ 0 ≤ many ∧ many ≤ 60
def B_lho : Int → V → List (Addr × Cel) → Hp → Prop := fun many v N _ => ∃ (q : Addr) (ns : List Int), v = .ref q ∧ N = [(q, .is (.lst (ns.map V.int)))] ∧ (∀ n ∈ ns, Num60 n) ∧ ns.Pairwise (· < ·) ∧ ns.length ≤ 60
theorem rgI_pw (n : Int) : (rgI n).Pairwise (· < ·) := by
  unfold rgI
  rw [List.pairwise_map]
  exact List.Pairwise.imp (fun h => by omega) List.pairwise_lt_range
theorem ok_l_houses (T : Env K mg) : FnOk P w K mg base CX0 3 T.a__law_houses T.fd__law_houses ["pot", "many"] (SpP A_lho B_lho) := by
  have nd := sc__law_houses.nd
  have G__law_pick : FnOk P w K mg base CX0 2 T.a__law_pick T.fd__law_pick ["pot", "many"] (SpP A_pick B_pick) := ok_l_pick T
  refine T.F__law_houses.ok sc__law_houses (fun vs H Q E h => ?_) (fun cdv A outer s H vs Q E hr h => ?_)
  · obtain ⟨x, F, p, r, rfl, _, _, _, ⟨rfl, _⟩, _⟩ := h
    rfl
  · obtain ⟨many, F, p, r, rfl, fr, hF, hP, ⟨rfl, m0, m1⟩, k⟩ := h
    have S := Sep.startP fr hF hP
    refine ⟨_, (pss_cons (ps_set (i := 2) nd rfl (.inr rfl) (pe_call G__law_pick (hr.mono (by decide)) (by rfl) T.g__law_pick T.F__law_pick.kp T.b__law_pick .nil pass0 (pa_cons (pv 0) (pa_cons pe_int pa_nil))))
      (pss_cons (ps_set (i := 3) nd rfl (.inr rfl) (pe_ix ix_list (pe_lst (pa_cons pe_int (pa_cons pe_int (pa_cons pe_int (pa_cons (pe_op op_pow pe_int pe_int) pa_nil))))) (pe_call G__law_pick (hr.mono (by decide)) (by rfl) T.g__law_pick T.F__law_pick.kp T.b__law_pick .nil pass0 (pa_cons (pv 0) (pa_cons pe_int pa_nil))) (fun _ _ => rfl)))
      (pss_one (ps_ret (pe_lc (own := [("house", 4)]) (g := gName 4) (tt := (tTest (tOp (rI0 fun i j => .bl (decide (i < j))) (tCall (SpP A_pick B_pick) [] E0 (tCons (tVar 0) (tCons (tC (.int 4)) tNil))) (tVar 2)))) (te := (tOp (rI CMul fun i j => .int (i * j)) (tVar 4) (tVar 3))) rfl nd (pi_range1 (by rfl) T.n_range (pa_cons (pv 1) pa_nil)) (blkOk_by (N := ["pot", "many", "share", "step", "house"]) (sc := defScope s__law_houses) (by decide +kernel)) (fun _ _ _ _ _ => (pg_name (i := 4) nd rfl (.inl rfl))) (fun _ _ _ _ _ => pts_one (pt_cmpR op_lt (pe_call G__law_pick (hr.mono (by decide)) (by rfl) T.g__law_pick T.F__law_pick.kp T.b__law_pick .nil pass0 (pa_cons (pv 0) (pa_cons pe_int pa_nil))) (pv 2) (nomark _))) (fun _ _ _ _ _ => (pe_op op_mul (pv 4) (pv 3)))))))), ?_⟩
    walk_at "rd"
    refine r_callP S 0 rfl 5 ⟨rfl, by omega, small_up (by omega) (by omega)⟩ fun v N F1 H1 S e1 ⟨z, share, ev, w0, w1⟩ => ?_
    subst z ev
    walk_at "rd"
    refine ⟨(by show 4 ≤ sizeLine; decide), s_new S fun l1 F2 H2 S e2 c1 => ?_⟩
    walk_at "rd"
    refine r_callP S 0 rfl 4 ⟨rfl, by omega, small_up (by omega) (by omega)⟩ fun v N F3 H3 S e3 ⟨z, way, ev, v0, v1⟩ => ?_
    subst z ev
    obtain ⟨u, hu, hu1, hu2⟩ : ∃ u : Int, atI [V.int 1, V.int 1, V.int 3, V.int (10 ^ 30)] way = some (.int u) ∧ 0 < u ∧ u ≤ 10 ^ 30 := by
      rcases (show way = 0 ∨ way = 1 ∨ way = 2 ∨ way = 3 by omega) with e | e | e | e <;> subst e
      · exact ⟨1, rfl, by decide +kernel, by decide +kernel⟩
      · exact ⟨1, rfl, by decide +kernel, by decide +kernel⟩
      · exact ⟨3, rfl, by decide +kernel, by decide +kernel⟩
      · exact ⟨10 ^ 30, rfl, by decide +kernel, by decide +kernel⟩
    walk_at "rd"
    refine ⟨many, rfl, by omega, by omega, ?_⟩
    refine s_lcI (srcRG (n := many)) (fun i acc F' M' => M' = [(p, .pot)] ∧ ∃ l : List Int, l.Sublist ((rgI many).take i) ∧ acc = (l.map fun h => h * u).map V.int) S ⟨rfl, [], List.Sublist.refl _, rfl⟩ (fun _ _ _ _ _ m hm => by cases hm) ?_ ?_
    · rintro i h x acc D F4 F5 H4 M' hi S e4 e5 rfl ⟨rfl, l, hl, rfl⟩
      have ll := hl.length_le
      rw [List.length_take] at ll
      have rl := rgI_len many
      have ih : i < (rgI many).length := (List.getElem?_eq_some_iff.mp hi).1
      walk_at "rd"
      refine ⟨rfl, ?_⟩
      walk_at "rd"
      refine r_callP S 1 rfl 4 ⟨rfl, by omega, small_up (by omega) (by omega)⟩ fun v N F6 H6 S e6 ⟨z, ch, ev, hc0, hc1⟩ => ?_
      subst z ev
      have mh := rgI_mem.mp (List.mem_of_getElem? hi)
      walk_at "rd"
      refine iteB (fun c => ?_) (fun c => ?_)
      · walk_at "rd"
        refine CI.put S (e4.trans (e5.trans e6)) (by rw [List.length_map, List.length_map]; omega) ⟨rfl, l ++ [h], ?_, ?_⟩
        · rw [take_snoc hi]
          exact hl.append (List.Sublist.refl _)
        · rw [List.map_append, List.map_append]
          rfl
      · exact CI.skip S (e4.trans (e5.trans e6)) ⟨rfl, l, hl.trans (by rw [take_snoc hi]; exact List.sublist_append_left _ _), rfl⟩
    · rintro D acc F4 H4 M' S e4 ⟨rfl, l, hl, rfl⟩
      have rl := rgI_len many
      rw [List.take_of_length_le (Nat.le_refl _)] at hl
      walk_at "rd"
      have dec : (60 : Int) * 10 ^ 30 < 10 ^ 60 := by decide +kernel
      refine k _ [_] _ _ S ⟨D, _, rfl, rfl, fun n hn => ?_, ?_, ?_⟩
      · obtain ⟨h, hm, rfl⟩ := List.mem_map.mp hn
        have mh := rgI_mem.mp (hl.subset hm)
        have a1 : 0 ≤ h * u := Int.mul_nonneg mh.1 (by omega)
        have a2 : h * u ≤ 60 * 10 ^ 30 := Int.mul_le_mul (by omega) hu2 (by omega) (by omega)
        exact ⟨a1, by omega⟩
      · rw [List.pairwise_map]
        exact List.Pairwise.imp (fun q => Int.mul_lt_mul_of_pos_right q hu1) ((rgI_pw many).sublist hl)
      · rw [List.length_map]
        have := hl.length_le
        omega

end

end
section
local macro_rules | `(tactic| walk_at "ex") => `(tactic| first | exact Evl.Ex.refl _ | assumption | ((refine' Evl.Ex.trans ?x ?y); (case y => assumption); (case x => walk_at "ex")))
local macro_rules | `(tactic| walk_at "hc") => `(tactic| first
  | assumption
  | ((refine' Sep.rdM ?S 0 ?k); (case S => assumption); (case k => exact rfl)) | ((refine' Sep.rdM ?S 1 ?k); (case S => assumption); (case k => exact rfl)) | ((refine' Sep.rdM ?S 2 ?k); (case S => assumption); (case k => exact rfl)) | ((refine' Sep.rdM ?S 3 ?k); (case S => assumption); (case k => exact rfl)) | ((refine' Sep.rdM ?S 4 ?k); (case S => assumption); (case k => exact rfl))
  | ((refine' Sep.rdC ?S ?e ?h); (case S => assumption); (case h => assumption); (case e => walk_at "ex")))
local macro_rules | `(tactic| walk_at "hl") => `(tactic| first
  | assumption
  | ((refine' SqL.of (Sep.rdM ?S 0 ?k)); (case S => assumption); (case k => exact rfl)) | ((refine' SqL.of (Sep.rdM ?S 1 ?k)); (case S => assumption); (case k => exact rfl)) | ((refine' SqL.of (Sep.rdM ?S 2 ?k)); (case S => assumption); (case k => exact rfl)) | ((refine' SqL.of (Sep.rdM ?S 3 ?k)); (case S => assumption); (case k => exact rfl)) | ((refine' SqL.of (Sep.rdM ?S 4 ?k)); (case S => assumption); (case k => exact rfl))
  | ((refine' Sep.rdL ?S ?e ?h); (case S => assumption); (case h => assumption); (case e => walk_at "ex"))
  | ((refine' Sep.rdT ?S ?e ?h); (case S => assumption); (case h => assumption); (case e => walk_at "ex"))
  | ((refine' SqL.of (Sep.rdC ?S ?e ?h)); (case S => assumption); (case h => assumption); (case e => walk_at "ex"))
  | ((refine' SqT.of (Sep.rdC ?S ?e ?h)); (case S => assumption); (case h => assumption); (case e => walk_at "ex"))
  | ((refine' SqL.of ?h); (case h => assumption)) | ((refine' SqT.of ?h); (case h => assumption))
  | ((refine' Evl.ex_l ?e ?h); (case h => assumption); (case e => walk_at "ex")) | ((refine' Evl.ex_t ?e ?h); (case h => assumption); (case e => walk_at "ex"))
  | ((refine' SqL.of (?e _ _ ?h)); (case h => assumption); (case e => walk_at "ex")) | ((refine' SqT.of (?e _ _ ?h)); (case h => assumption); (case e => walk_at "ex")))
local macro_rules | `(tactic| walk_at "hs") => `(tactic| walk_at "hc")
local macro_rules | `(tactic| walk_at "dp") => `(tactic| first
  | assumption
  | ((refine' Sep.rdD ?S ?e ?h); (case S => assumption); (case h => assumption); (case e => walk_at "ex"))
  | ((refine' Dp.ex ?e _ _ ?h); (case h => assumption); (case e => walk_at "ex"))
  | ((refine' DpAll.ex ?e _ _ ?h); (case h => assumption); (case e => walk_at "ex"))
  | (refine' dp_intsD ?h; (case h => walk_at "hl")))
local macro_rules | `(tactic| walk_at "rd1") => `(tactic| (first
  | (with_reducible refine r_seq ?_)
  | (with_reducible refine r_asg ?_)
  | (with_reducible refine r_asgG ?_)
  | (with_reducible refine r_par ?_)
  | (with_reducible refine r_if ?_)
  | (with_reducible refine r_ret ?_)
  | (with_reducible refine r_drop ?_)
  | (with_reducible refine r_next ?_)
  | ((with_reducible refine' r_var ?hx ?_); (case hx => exact rfl))
  | (with_reducible refine r_c ?_)
  | (with_reducible refine r_op ?_)
  | (with_reducible refine r_un ?_)
  | (with_reducible refine r_I0 ?_)
  | ((with_reducible refine' r_I ?_ ?_); (· first | (show (0 : Int) < _; omega) | exact Or.inr ⟨by omega, by omega⟩ | exact Or.inl ⟨by omega, by omega⟩ | exact ⟨by omega, by omega, by decide⟩))
  | (with_reducible refine r_U ?_)
  | (with_reducible refine r_test ?_)
  | (with_reducible refine r_B ?_)
  | (with_reducible refine r_bl ?_)
  | (with_reducible refine r_eqI ?_)
  | (with_reducible refine r_neI ?_)
  | ((with_reducible refine' r_eq ?_ ?_); (· exact rfl))
  | ((with_reducible refine' r_ne ?_ ?_); (· exact rfl))
  | (with_reducible refine r_nil ?_)
  | (with_reducible refine r_cons ?_)
  | (with_reducible refine s_tup ?_)
  | (with_reducible refine s_lst ?_)
  | (with_reducible refine r_call ?_)
  | (with_reducible refine r_cb ?_)
  | (with_reducible refine r_and ?_)
  | (with_reducible refine r_or ?_)
  | (with_reducible refine r_not ?_)
  | (with_reducible refine r_andV ?_)
  | (with_reducible refine r_orV ?_)
  | (with_reducible refine r_notV ?_)
  | (with_reducible refine r_ifE ?_)
  | (with_reducible refine r_gSub ?_)
  | (with_reducible refine r_sadd ?_)
  | (with_reducible refine s_lstRg ?_)
  | (with_reducible refine r_rg1 ?_)
  | (with_reducible refine r_min2 ?_)
  | (with_reducible refine r_par2 ?_)
  | (with_reducible refine r_partI ?_)
  | (with_reducible refine s_lc ?_)
  | (with_reducible refine s_dc ?_)
  | (with_reducible refine r_yes ?_)
  | (with_reducible refine r_iZipA ?_)
  | (with_reducible refine r_isN ?_)
  | (with_reducible refine r_for ?_)
  | (with_reducible refine r_iList ?_)
  | (with_reducible refine r_iTup ?_)
  | (with_reducible refine r_iRng1 ?_)
  | (with_reducible refine r_iRng2 ?_)
  | (with_reducible refine r_iEnum ?_)
  | (with_reducible refine r_iZip ?_)
  | (with_reducible refine r_gName ?_)
  | (with_reducible refine r_isNV ?_)
  | (with_reducible refine r_notNV ?_)
  | (with_reducible refine r_bm ?_)
  | (with_reducible refine r_bm0 ?_)
  | (with_reducible refine r_sl ?_)
  | (with_reducible refine r_noPart ?_)
  | (with_reducible refine r_part ?_)
  | (with_reducible refine r_chain ?_)
  | (with_reducible refine r_iKeys ?_)
  | (with_reducible refine r_iItems ?_)
  | (with_reducible refine r_frz ?_)
  | (with_reducible refine r_dput ?_)
  | (with_reducible refine r_dget ?_)
  | (with_reducible refine r_din ?_)
  | (with_reducible refine r_dnotin ?_)
  | (with_reducible refine r_break ?_)
  | ((with_reducible refine' r_sIn ?h ?_); (case h => walk_at "hs"))
  | ((with_reducible refine' r_sNotIn ?h ?_); (case h => walk_at "hs"))
  | ((with_reducible refine' r_inI ?h ?_); (case h => walk_at "hl"))
  | ((with_reducible refine' r_notInI ?h ?_); (case h => walk_at "hl"))
  | ((with_reducible refine' r_eqNil ?h ?g ?_); (case h => walk_at "hl"); (case g => walk_at "hl"))
  | ((with_reducible refine' r_neNil ?h ?g ?_); (case h => walk_at "hl"); (case g => walk_at "hl"))
  | ((with_reducible refine' iteRT ?hh ?_); (case hh => exact rfl))
  | ((with_reducible refine' iteRF ?hh ?_); (case hh => exact rfl))
  | ((with_reducible refine' r_isiT ?ty ?hk ?_); (case ty => (first | assumption | exact tyx_L (by assumption) | exact tyx_T (by assumption) | exact .base (.non) | exact .base (.bl _) | exact .base (.int _) | exact .base (.str _) | exact tyx_L (by walk_at "hl") | exact tyx_T (by walk_at "hl"))); (case hk => decide +kernel))
  | ((with_reducible refine' r_isiF ?ty ?hk ?_); (case ty => (first | assumption | exact tyx_L (by assumption) | exact tyx_T (by assumption) | exact .base (.non) | exact .base (.bl _) | exact .base (.int _) | exact .base (.str _) | exact tyx_L (by walk_at "hl") | exact tyx_T (by walk_at "hl"))); (case hk => decide +kernel))
  | ((with_reducible refine' r_gTup2 ?hn ?hs ?_); (case hn => exact rfl); (case hs => walk_at "hl"))
  | ((with_reducible refine' s_list ?hl ?_); (case hl => first | exact Or.inl (by walk_at "hl") | exact Or.inr (by walk_at "hl")))
  | ((with_reducible refine' s_tupN ?hl ?_); (case hl => walk_at "hl"))
  | ((with_reducible refine' s_sortN ?hl ?_); (case hl => walk_at "hl"))
  | ((refine' ⟨_, _, rfl, ?hl, ?_⟩); (case hl => first | exact Or.inl (by walk_at "hl") | exact Or.inr (by walk_at "hl")))
  | ((with_reducible refine' r_ixL ?hl ?ha ?_); (case hl => walk_at "hl"); (case ha => first | exact rfl | assumption))
  | ((with_reducible refine' r_ixT ?hl ?ha ?_); (case hl => walk_at "hl"); (case ha => first | exact rfl | assumption))))
local macro_rules | `(tactic| walk_at "rd") => `(tactic| repeat (walk_at "rd1"))

section
variable {w : World} {K : PySem.W.Frag} {mg : Str → Option Value} {base : Heap}
theorem webB_ok {d : PyData} (h : webB d = true) : ∃ many ties, d = webD many ties ∧ WebOk many ties := by
  cases d with
  | tuple xs =>
    match xs, h with
    | [], h => cases h
    | [x], h => cases x <;> cases h
    | x :: y :: z :: r, h => rw [webB_len (by simp)] at h; cases h
    | [x, y], h =>
      cases x with
      | int m =>
        cases y with
        | tuple ds =>
          rw [webB_eq, Bool.and_eq_true, Bool.and_eq_true, Bool.and_eq_true, decide_eq_true_eq, decide_eq_true_eq] at h
          obtain ⟨h1, h2, h3, h4⟩ := h
          refine ⟨m, ds.map toP, ?_, h1, h2, fun u hu => ?_, (rise_iff _).1 h4⟩
          · unfold webD
            rw [← ties_map h3]
          · obtain ⟨e, he, rfl⟩ := List.mem_map.mp hu
            have := tieB_toP (List.all_eq_true.mp h3 e he)
            exact this.2
        | _ => cases h
      | _ => cases y <;> cases h
  | _ => cases h

def NumW (w : Str) : Prop := 1 ≤ w.length ∧ w.length ≤ 60 ∧ (∀ c ∈ TL.tl w, 48 ≤ c ∧ c ≤ 57) ∧ ¬ (1 < w.length ∧ (TL.tl w)[0]? = some 48)
instance (w : Str) : Decidable (NumW w) := by unfold NumW; infer_instance
def valOf (w : Str) : Int := (PySem.NumText.digitsVal (TL.tl w) : Int)
def numOf (w : Str) : Option Int := if NumW w then some (valOf w) else none
theorem dv_snoc (l : List Nat) (c : Nat) : PySem.NumText.digitsVal (l ++ [c]) = PySem.NumText.digitsVal l * 10 + (c - 48) := by
  unfold PySem.NumText.digitsVal
  rw [List.foldl_append]
  rfl
theorem dv_all : ∀ (n : Nat) (l : List Nat), l.length = n → l ≠ [] → PySem.NumText.AllDigits l → PySem.NumText.digitsVal l < 10 ^ l.length ∧ ((l.length = 1 ∨ l[0]? ≠ some 48) → TL.numL (PySem.NumText.digitsVal l) = l)
  | 0, l, h, ne, _ => absurd (List.eq_nil_of_length_eq_zero h) ne
  | n + 1, l, h, ne, hd => by
    obtain ⟨init, c, rfl⟩ : ∃ init c, l = init ++ [c] := ⟨l.dropLast, l.getLast ne, (List.dropLast_concat_getLast ne).symm⟩
    have hc := hd c (List.mem_append.mpr (.inr List.mem_cons_self))
    have hi : PySem.NumText.AllDigits init := fun x m => hd x (List.mem_append.mpr (.inl m))
    rw [dv_snoc]
    by_cases e : init = []
    · subst e
      have z : PySem.NumText.digitsVal [] = 0 := rfl
      rw [z]
      refine ⟨by simp only [List.nil_append, List.length_singleton]; omega, fun _ => ?_⟩
      rw [TL.numL_lt (by omega)]
      show [48 + (0 * 10 + (c - 48))] = [c]
      rw [show 48 + (0 * 10 + (c - 48)) = c by omega]
    · have hl : init.length = n := by rw [List.length_append] at h; simp at h; omega
      obtain ⟨i1, i2⟩ := dv_all n init hl e hi
      refine ⟨?_, fun q => ?_⟩
      · rw [List.length_append, List.length_singleton, Nat.pow_succ]
        omega
      · have h0 : init[0]? ≠ some 48 := by
          rcases q with q | q
          · exfalso
            rw [List.length_append, List.length_singleton] at q
            exact e (List.eq_nil_of_length_eq_zero (by omega))
          · intro z
            refine q ?_
            cases init with
            | nil => exact absurd rfl e
            | cons x r => exact z
        have ih := i2 (.inr h0)
        have pos : 1 ≤ PySem.NumText.digitsVal init := by
          apply Decidable.byContradiction
          intro z
          have z : PySem.NumText.digitsVal init = 0 := by omega
          rw [z, TL.numL_lt (by omega)] at ih
          rw [← ih] at h0
          exact h0 rfl
        rw [TL.numL_step (by omega), show (PySem.NumText.digitsVal init * 10 + (c - 48)) / 10 = PySem.NumText.digitsVal init by omega, ih, show 48 + (PySem.NumText.digitsVal init * 10 + (c - 48)) % 10 = c by omega]
theorem tl_ne {w : Str} (h : 1 ≤ w.length) : TL.tl w ≠ [] := fun z => by rw [TL.len_tl, z] at h; simp at h
theorem int_digits {w : Str} (h1 : 1 ≤ w.length) (h2 : w.length ≤ 60) (h3 : ∀ c ∈ TL.tl w, 48 ≤ c ∧ c ≤ 57) : intText? w = some (valOf w) :=
  PySem.intText_digits h3 (tl_ne h1) (by omega)
theorem numOf_some {w : Str} {i : Int} (h : numOf w = some i) : Num60 i ∧ w = intS i := by
  unfold numOf at h
  split at h
  · rename_i q
    obtain ⟨h1, h2, h3, h4⟩ := q
    have h := Option.some.inj h
    subst h
    obtain ⟨d1, d2⟩ := dv_all _ (TL.tl w) rfl (tl_ne h1) h3
    have hz : (TL.tl w).length = 1 ∨ (TL.tl w)[0]? ≠ some 48 := by
      by_cases q : 1 < w.length
      · exact .inr fun z => h4 ⟨q, z⟩
      · rw [TL.len_tl] at q h1
        exact .inl (by omega)
    have d2 := d2 hz
    have lt : PySem.NumText.digitsVal (TL.tl w) < 10 ^ 60 := Nat.lt_of_lt_of_le d1 (Nat.pow_le_pow_right (by omega) (by rw [← TL.len_tl]; exact h2))
    refine ⟨⟨Int.natCast_nonneg _, by unfold valOf; omega⟩, TL.ext_tl ?_⟩
    unfold valOf
    rw [tl_intS (Int.natCast_nonneg _), Int.toNat_natCast, d2]
  · cases h
theorem numOf_intS {i : Int} (h : Num60 i) : numOf (intS i) = some i := by
  have l := len_intS h
  have q : NumW (intS i) := ⟨l.1, l.2, dig_intS h.1, fun z => by
    obtain ⟨c, h1, h2⟩ := head_intS h.1 z.1
    have h3 := z.2
    unfold TL.tl at h3
    rw [Array.getElem?_toList, h1] at h3
    exact h2 (Option.some.inj h3)⟩
  unfold numOf
  rw [if_pos q]
  unfold valOf
  rw [tl_intS h.1, TL.numL_val, Int.toNat_of_nonneg h.1]
def uD : Option Int → PyData
  | none => .none
  | some i => .int i
def uV : Option Int → V
  | none => .non
  | some i => .int i
theorem uD_at {K : PySem.W.Frag} {F : Hp} (o : Option Int) : Dp K F (uV o) (uD o) := by cases o with | none => exact .non | some i => exact .int i
theorem uD_int {o : Option Int} {i : Int} (h : uD o = .int i) : o = some i := by cases o with | none => cases h | some j => cases h; rfl
theorem part_mid (x y : Str) (h : (Txt.partition x y).2.2 ≠ Str.empty) : (Txt.partition x y).2.1 = y := by
  unfold Txt.partition at *
  split at h
  · rfl
  · exact absurd rfl h
theorem part_none (x y : Str) (hy : y ≠ Str.empty) (h : (Txt.partition x y).2.1 = Str.empty) : (Txt.partition x y).1 = x := by
  unfold Txt.partition at *
  split at h
  · exact absurd h hy
  · rfl
theorem intS_ne {i : Int} (h : Num60 i) : intS i ≠ Str.empty := fun z => by
  have := (len_intS h).1
  rw [z] at this
  exact absurd this (by decide +kernel)
theorem part_two {x y : Str} {i j : Int} (h1 : numOf (Txt.partition x y).1 = some i) (h2 : numOf (Txt.partition x y).2.2 = some j) : Num60 i ∧ Num60 j ∧ x = (intS i ++ y) ++ intS j := by
  obtain ⟨a1, a2⟩ := numOf_some h1
  obtain ⟨b1, b2⟩ := numOf_some h2
  have m := part_mid x y (by rw [b2]; exact intS_ne b1)
  have s := PySem.StrLaws.partition_sum x y
  rw [m, a2, b2] at s
  exact ⟨a1, b1, s.symm⟩
def tieOf (w : Str) : Option Int × Option Int := (numOf (Txt.partition w ("-" : Str)).1, numOf (Txt.partition w ("-" : Str)).2.2)
def rawTie (w : Str) : PyData := .tuple [uD (tieOf w).1, uD (tieOf w).2]
theorem rawTie_tie {w : Str} {t : Int × Int} (h : rawTie w = tieD t) : w = tieS t := by
  unfold rawTie tieD at h
  injection h with h
  injection h with h1 h2
  injection h2 with h2 _
  exact (part_two (uD_int h1) (uD_int h2)).2.2
theorem rawTie_tieS {t : Int × Int} (h1 : Num60 t.1) (h2 : Num60 t.2) : rawTie (tieS t) = tieD t := by
  unfold rawTie tieOf
  rw [part_tie h1.1]
  show PyData.tuple [uD (numOf (intS t.1)), uD (numOf (intS t.2))] = _
  rw [numOf_intS h1, numOf_intS h2]
  rfl
def wordsOf (text : Str) : List Str := Txt.split text blank
def rawWeb (text : Str) : PyData := .tuple [uD (numOf ((wordsOf text).headD Str.empty)), .tuple (((wordsOf text).drop 1).map rawTie)]
theorem words_ne (text : Str) : wordsOf text ≠ [] := fun z => by
  have := PyProof.Rows.split_pos text blank
  unfold wordsOf at z
  rw [z] at this
  simp at this
theorem words_join (text : Str) : Txt.join blank (wordsOf text) = text := by
  rw [TL.join_eq]
  exact PySem.StrLaws.join_split text blank
theorem rawTies : ∀ {ws : List Str} {ts : List (Int × Int)}, ws.map rawTie = ts.map tieD → ws = ts.map tieS
  | [], [], _ => rfl
  | [], _ :: _, h => by cases h
  | _ :: _, [], h => by cases h
  | w :: ws, t :: ts, h => by
    rw [List.map_cons, List.map_cons] at h
    injection h with h1 h2
    rw [List.map_cons, rawTie_tie h1, rawTies h2]
theorem rawWeb_web {text : Str} {many : Int} {ts : List (Int × Int)} (h : rawWeb text = webD many ts) : text = webS many ts := by
  unfold rawWeb webD at h
  injection h with h
  injection h with h1 h2
  injection h2 with h2 _
  injection h2 with h2
  have e1 := (numOf_some (uD_int h1)).2
  have e2 := rawTies h2
  have j := words_join text
  have ne := words_ne text
  rw [← webW_eq]
  unfold webW
  rw [← j, ← e2]
  cases q : wordsOf text with
  | nil => exact absurd q ne
  | cons w r =>
    rw [q] at e1
    have e1 : w = intS many := e1
    rw [e1]
    rfl
theorem rawWeb_webS {many : Int} {ts : List (Int × Int)} (W : WebOk many ts) : rawWeb (webS many ts) = webD many ts := by
  obtain ⟨hm, hn⟩ := num_web W
  unfold rawWeb wordsOf webD
  rw [split_web hm.1 fun t m => ⟨(hn t m).1.1, (hn t m).2.1⟩]
  show PyData.tuple [uD (numOf (intS many)), .tuple ((ts.map tieS).map rawTie)] = _
  rw [numOf_intS hm, List.map_map]
  have : ts.map (rawTie ∘ tieS) = ts.map tieD := List.map_congr_left fun t m => rawTie_tieS (hn t m).1 (hn t m).2
  rw [this]
  rfl
def rawNums (text : Str) : List (Option Int) := (wordsOf text).map numOf
theorem nums_words : ∀ {ws : List Str} {ns : List Int}, ws.map numOf = ns.map some → ws = ns.map intS ∧ ∀ n ∈ ns, Num60 n
  | [], [], _ => ⟨rfl, fun n m => by cases m⟩
  | [], _ :: _, h => by cases h
  | _ :: _, [], h => by cases h
  | w :: ws, n :: ns, h => by
    rw [List.map_cons, List.map_cons] at h
    injection h with h1 h2
    obtain ⟨a, b⟩ := numOf_some h1
    obtain ⟨c, d⟩ := nums_words h2
    refine ⟨by rw [List.map_cons, b, c], fun x m => ?_⟩
    rcases List.mem_cons.mp m with e | m
    · rw [e]; exact a
    · exact d x m
theorem all_some : ∀ {os : List (Option Int)}, none ∉ os → ∃ ns : List Int, os = ns.map some
  | [], _ => ⟨[], rfl⟩
  | none :: r, h => absurd List.mem_cons_self h
  | some n :: r, h => by
    obtain ⟨ns, e⟩ := all_some fun m => h (List.mem_cons_of_mem _ m)
    exact ⟨n :: ns, by rw [e]; rfl⟩
theorem riseI_iff : ∀ {ns : List Int}, riseI ns = true → ns.Pairwise (· < ·)
  | [], _ => .nil
  | [_], _ => List.pairwise_singleton _ _
  | a :: b :: r, h => by
    have h2 : (ltV (.int a, .int b) && riseI (b :: r)) = true := h
    rw [Bool.and_eq_true] at h2
    have ih := riseI_iff h2.2
    have ab : a < b := of_decide_eq_true h2.1
    refine List.pairwise_cons.mpr ⟨fun x m => ?_, ih⟩
    rcases List.mem_cons.mp m with e | m
    · omega
    · have := (List.pairwise_cons.mp ih).1 x m
      omega
structure NsOk (ns : List Int) : Prop where
  num : ∀ n ∈ ns, Num60 n
  up : ns.Pairwise (· < ·)
  few : ns.length ≤ 4000
theorem set_text {text : Str} {ns : List Int} (h : rawNums text = ns.map some) : text = numsS ns ∧ ns ≠ [] ∧ ∀ n ∈ ns, Num60 n := by
  obtain ⟨a, b⟩ := nums_words h
  refine ⟨?_, fun z => ?_, b⟩
  · have := words_join text
    rw [a] at this
    exact this.symm
  · rw [z] at a
    exact words_ne text a
theorem nums_text {ns : List Int} (hn : ∀ n ∈ ns, Num60 n) (e : ns ≠ []) : rawNums (numsS ns) = ns.map some := by
  unfold rawNums wordsOf
  rw [split_nums (fun n m => (hn n m).1) e, List.map_map]
  exact List.map_congr_left fun n m => numOf_intS (hn n m)
theorem frac_some {text : Str} {i : Int} (h1 : numOf (Txt.partition text ("/" : Str)).1 = some i) (h2 : (Txt.partition text ("/" : Str)).2.1 = Str.empty) : Num60 i ∧ text = fracS (i, 1) := by
  obtain ⟨a, b⟩ := numOf_some h1
  have := part_none text ("/" : Str) (fun z => absurd (congrArg TL.tl z) (by decide +kernel)) h2
  exact ⟨a, by unfold fracS; rw [if_pos rfl, ← b, this]⟩
inductive Thing
  | web (many : Int) (ts : List (Int × Int))
  | set (ns : List Int)
  | frac (f : Int × Int)
def thD : Thing → PyData
  | .web many ts => webD many ts
  | .set ns => .list (ns.map PyData.int)
  | .frac f => tieD f
def thS : Thing → Str
  | .web many ts => webS many ts
  | .set ns => setS ns
  | .frac f => fracS f
def ThOk : Int → Thing → Prop
  | 0, .web many ts => WebOk many ts
  | 1, .set ns => NsOk ns
  | 2, .frac f => FrOk f
  | _, _ => False
theorem web_inj {m1 m2 : Int} {t1 t2 : List (Int × Int)} (W1 : WebOk m1 t1) (W2 : WebOk m2 t2) (h : webS m1 t1 = webS m2 t2) : m1 = m2 ∧ t1 = t2 := by
  have e := rawWeb_webS W1
  rw [h, rawWeb_webS W2] at e
  unfold webD at e
  injection e with e
  injection e with e1 e2
  injection e1 with e1
  injection e2 with e2 _
  injection e2 with e2
  refine ⟨e1.symm, ?_⟩
  clear h W1 W2 e1
  induction t1 generalizing t2 with
  | nil => cases t2 with | nil => rfl | cons _ _ => cases e2
  | cons t r ih =>
    cases t2 with
    | nil => cases e2
    | cons u s =>
      rw [List.map_cons, List.map_cons] at e2
      injection e2 with a b
      rw [ih b]
      unfold tieD at a
      injection a with a
      injection a with a1 a2
      injection a1 with a1
      injection a2 with a2 _
      injection a2 with a2
      rw [show u = t from Prod.ext a1 a2]
theorem map_some_inj {a b : List Int} (h : a.map some = b.map some) : a = b := by
  induction a generalizing b with
  | nil => cases b with | nil => rfl | cons _ _ => cases h
  | cons x r ih =>
    cases b with
    | nil => cases h
    | cons y s =>
      rw [List.map_cons, List.map_cons] at h
      injection h with a b
      cases a
      rw [ih b]
theorem set_inj {a b : List Int} (A : NsOk a) (B : NsOk b) (h : setS a = setS b) : a = b := by
  have pa : ∀ n ∈ a, 0 ≤ n := fun n m => (A.num n m).1
  have pb : ∀ n ∈ b, 0 ≤ n := fun n m => (B.num n m).1
  have ea := setS_none pa
  have eb := setS_none pb
  rw [h, eb] at ea
  by_cases z : a = []
  · by_cases y : b = []
    · rw [z, y]
    · rw [decide_eq_false y, decide_eq_true z] at ea; cases ea
  · by_cases y : b = []
    · rw [decide_eq_true y, decide_eq_false z] at ea; cases ea
    · unfold setS at h
      rw [if_neg z, if_neg y] at h
      have := nums_text A.num z
      rw [h, nums_text B.num y] at this
      exact (map_some_inj this).symm
theorem frac_inj {a b : Int × Int} (A : FrOk a) (B : FrOk b) (h : fracS a = fracS b) : a = b := by
  have p := part_frac (f := a) A.one.1
  have q := part_frac (f := b) B.one.1
  rw [h, q] at p
  have i1 : ∀ {x y : Int}, Num60 x → Num60 y → intS x = intS y → x = y := fun hx hy e => by
    have := numOf_intS hx
    rw [e, numOf_intS hy] at this
    exact (Option.some.inj this).symm
  by_cases e1 : a.2 = 1
  · by_cases e2 : b.2 = 1
    · rw [if_pos e1, if_pos e2] at p
      exact Prod.ext (i1 A.one B.one (Prod.mk.inj p).1.symm) (by rw [e1, e2])
    · rw [if_pos e1, if_neg e2] at p
      have := (Prod.mk.inj (Prod.mk.inj p).2).1
      exact absurd (congrArg TL.tl this) (by decide +kernel)
  · by_cases e2 : b.2 = 1
    · rw [if_neg e1, if_pos e2] at p
      have := (Prod.mk.inj (Prod.mk.inj p).2).1
      exact absurd (congrArg TL.tl this) (by decide +kernel)
    · rw [if_neg e1, if_neg e2] at p
      exact Prod.ext (i1 A.one B.one (Prod.mk.inj p).1.symm) (i1 A.two B.two (Prod.mk.inj (Prod.mk.inj p).2).2.symm)
theorem th_inj : ∀ {way : Int} {a b : Thing}, ThOk way a → ThOk way b → thS a = thS b → a = b := by
  intro way a b ha hb h
  unfold ThOk at ha hb
  split at ha
  · cases b with
    | web m t => obtain ⟨e1, e2⟩ := web_inj ha hb h; rw [e1, e2]
    | set _ => exact hb.elim
    | frac _ => exact hb.elim
  · cases b with
    | web _ _ => exact hb.elim
    | set ns => rw [set_inj ha hb h]
    | frac _ => exact hb.elim
  · cases b with
    | web _ _ => exact hb.elim
    | set ns => exact hb.elim
    | frac f => rw [frac_inj ha hb h]
  · exact ha.elim

end

end
section
local macro_rules | `(tactic| walk_at "ex") => `(tactic| first | exact Evl.Ex.refl _ | assumption | ((refine' Evl.Ex.trans ?x ?y); (case y => assumption); (case x => walk_at "ex")))
local macro_rules | `(tactic| walk_at "hc") => `(tactic| first
  | assumption
  | ((refine' Sep.rdM ?S 0 ?k); (case S => assumption); (case k => exact rfl)) | ((refine' Sep.rdM ?S 1 ?k); (case S => assumption); (case k => exact rfl)) | ((refine' Sep.rdM ?S 2 ?k); (case S => assumption); (case k => exact rfl)) | ((refine' Sep.rdM ?S 3 ?k); (case S => assumption); (case k => exact rfl)) | ((refine' Sep.rdM ?S 4 ?k); (case S => assumption); (case k => exact rfl))
  | ((refine' Sep.rdC ?S ?e ?h); (case S => assumption); (case h => assumption); (case e => walk_at "ex")))
local macro_rules | `(tactic| walk_at "hl") => `(tactic| first
  | assumption
  | ((refine' SqL.of (Sep.rdM ?S 0 ?k)); (case S => assumption); (case k => exact rfl)) | ((refine' SqL.of (Sep.rdM ?S 1 ?k)); (case S => assumption); (case k => exact rfl)) | ((refine' SqL.of (Sep.rdM ?S 2 ?k)); (case S => assumption); (case k => exact rfl)) | ((refine' SqL.of (Sep.rdM ?S 3 ?k)); (case S => assumption); (case k => exact rfl)) | ((refine' SqL.of (Sep.rdM ?S 4 ?k)); (case S => assumption); (case k => exact rfl))
  | ((refine' Sep.rdL ?S ?e ?h); (case S => assumption); (case h => assumption); (case e => walk_at "ex"))
  | ((refine' Sep.rdT ?S ?e ?h); (case S => assumption); (case h => assumption); (case e => walk_at "ex"))
  | ((refine' SqL.of (Sep.rdC ?S ?e ?h)); (case S => assumption); (case h => assumption); (case e => walk_at "ex"))
  | ((refine' SqT.of (Sep.rdC ?S ?e ?h)); (case S => assumption); (case h => assumption); (case e => walk_at "ex"))
  | ((refine' SqL.of ?h); (case h => assumption)) | ((refine' SqT.of ?h); (case h => assumption))
  | ((refine' Evl.ex_l ?e ?h); (case h => assumption); (case e => walk_at "ex")) | ((refine' Evl.ex_t ?e ?h); (case h => assumption); (case e => walk_at "ex"))
  | ((refine' SqL.of (?e _ _ ?h)); (case h => assumption); (case e => walk_at "ex")) | ((refine' SqT.of (?e _ _ ?h)); (case h => assumption); (case e => walk_at "ex")))
local macro_rules | `(tactic| walk_at "hs") => `(tactic| walk_at "hc")
local macro_rules | `(tactic| walk_at "dp") => `(tactic| first
  | assumption
  | ((refine' Sep.rdD ?S ?e ?h); (case S => assumption); (case h => assumption); (case e => walk_at "ex"))
  | ((refine' Dp.ex ?e _ _ ?h); (case h => assumption); (case e => walk_at "ex"))
  | ((refine' DpAll.ex ?e _ _ ?h); (case h => assumption); (case e => walk_at "ex"))
  | (refine' dp_intsD ?h; (case h => walk_at "hl")))
local macro_rules | `(tactic| walk_at "rd1") => `(tactic| (first
  | (with_reducible refine r_seq ?_)
  | (with_reducible refine r_asg ?_)
  | (with_reducible refine r_asgG ?_)
  | (with_reducible refine r_par ?_)
  | (with_reducible refine r_if ?_)
  | (with_reducible refine r_ret ?_)
  | (with_reducible refine r_drop ?_)
  | (with_reducible refine r_next ?_)
  | ((with_reducible refine' r_var ?hx ?_); (case hx => exact rfl))
  | (with_reducible refine r_c ?_)
  | (with_reducible refine r_op ?_)
  | (with_reducible refine r_un ?_)
  | (with_reducible refine r_I0 ?_)
  | ((with_reducible refine' r_I ?_ ?_); (· first | (show (0 : Int) < _; omega) | exact Or.inr ⟨by omega, by omega⟩ | exact Or.inl ⟨by omega, by omega⟩ | exact ⟨by omega, by omega, by decide⟩))
  | (with_reducible refine r_U ?_)
  | (with_reducible refine r_test ?_)
  | (with_reducible refine r_B ?_)
  | (with_reducible refine r_bl ?_)
  | (with_reducible refine r_eqI ?_)
  | (with_reducible refine r_neI ?_)
  | ((with_reducible refine' r_eq ?_ ?_); (· exact rfl))
  | ((with_reducible refine' r_ne ?_ ?_); (· exact rfl))
  | (with_reducible refine r_nil ?_)
  | (with_reducible refine r_cons ?_)
  | (with_reducible refine s_tup ?_)
  | (with_reducible refine s_lst ?_)
  | (with_reducible refine r_call ?_)
  | (with_reducible refine r_cb ?_)
  | (with_reducible refine r_and ?_)
  | (with_reducible refine r_or ?_)
  | (with_reducible refine r_not ?_)
  | (with_reducible refine r_andV ?_)
  | (with_reducible refine r_orV ?_)
  | (with_reducible refine r_notV ?_)
  | (with_reducible refine r_ifE ?_)
  | (with_reducible refine r_gSub ?_)
  | (with_reducible refine r_sadd ?_)
  | (with_reducible refine s_lstRg ?_)
  | (with_reducible refine r_rg1 ?_)
  | (with_reducible refine r_min2 ?_)
  | (with_reducible refine r_par2 ?_)
  | (with_reducible refine r_partI ?_)
  | (with_reducible refine s_lc ?_)
  | (with_reducible refine s_dc ?_)
  | (with_reducible refine r_yes ?_)
  | (with_reducible refine r_iZipA ?_)
  | (with_reducible refine r_isN ?_)
  | (with_reducible refine r_for ?_)
  | (with_reducible refine r_iList ?_)
  | (with_reducible refine r_iTup ?_)
  | (with_reducible refine r_iRng1 ?_)
  | (with_reducible refine r_iRng2 ?_)
  | (with_reducible refine r_iEnum ?_)
  | (with_reducible refine r_iZip ?_)
  | (with_reducible refine r_gName ?_)
  | (with_reducible refine r_isNV ?_)
  | (with_reducible refine r_notNV ?_)
  | (with_reducible refine r_bm ?_)
  | (with_reducible refine r_bm0 ?_)
  | (with_reducible refine r_sl ?_)
  | (with_reducible refine r_noPart ?_)
  | (with_reducible refine r_part ?_)
  | (with_reducible refine r_chain ?_)
  | (with_reducible refine r_iKeys ?_)
  | (with_reducible refine r_iItems ?_)
  | (with_reducible refine r_frz ?_)
  | (with_reducible refine r_dput ?_)
  | (with_reducible refine r_dget ?_)
  | (with_reducible refine r_din ?_)
  | (with_reducible refine r_dnotin ?_)
  | (with_reducible refine r_break ?_)
  | ((with_reducible refine' r_sIn ?h ?_); (case h => walk_at "hs"))
  | ((with_reducible refine' r_sNotIn ?h ?_); (case h => walk_at "hs"))
  | ((with_reducible refine' r_inI ?h ?_); (case h => walk_at "hl"))
  | ((with_reducible refine' r_notInI ?h ?_); (case h => walk_at "hl"))
  | ((with_reducible refine' r_eqNil ?h ?g ?_); (case h => walk_at "hl"); (case g => walk_at "hl"))
  | ((with_reducible refine' r_neNil ?h ?g ?_); (case h => walk_at "hl"); (case g => walk_at "hl"))
  | ((with_reducible refine' iteRT ?hh ?_); (case hh => exact rfl))
  | ((with_reducible refine' iteRF ?hh ?_); (case hh => exact rfl))
  | ((with_reducible refine' r_isiT ?ty ?hk ?_); (case ty => (first | assumption | exact tyx_L (by assumption) | exact tyx_T (by assumption) | exact .base (.non) | exact .base (.bl _) | exact .base (.int _) | exact .base (.str _) | exact tyx_L (by walk_at "hl") | exact tyx_T (by walk_at "hl"))); (case hk => decide +kernel))
  | ((with_reducible refine' r_isiF ?ty ?hk ?_); (case ty => (first | assumption | exact tyx_L (by assumption) | exact tyx_T (by assumption) | exact .base (.non) | exact .base (.bl _) | exact .base (.int _) | exact .base (.str _) | exact tyx_L (by walk_at "hl") | exact tyx_T (by walk_at "hl"))); (case hk => decide +kernel))
  | ((with_reducible refine' r_gTup2 ?hn ?hs ?_); (case hn => exact rfl); (case hs => walk_at "hl"))
  | ((with_reducible refine' s_list ?hl ?_); (case hl => first | exact Or.inl (by walk_at "hl") | exact Or.inr (by walk_at "hl")))
  | ((with_reducible refine' s_tupN ?hl ?_); (case hl => walk_at "hl"))
  | ((with_reducible refine' s_sortN ?hl ?_); (case hl => walk_at "hl"))
  | ((refine' ⟨_, _, rfl, ?hl, ?_⟩); (case hl => first | exact Or.inl (by walk_at "hl") | exact Or.inr (by walk_at "hl")))
  | ((with_reducible refine' r_ixL ?hl ?ha ?_); (case hl => walk_at "hl"); (case ha => first | exact rfl | assumption))
  | ((with_reducible refine' r_ixT ?hl ?ha ?_); (case hl => walk_at "hl"); (case ha => first | exact rfl | assumption))))
local macro_rules | `(tactic| walk_at "rd") => `(tactic| repeat (walk_at "rd1"))

section
variable {w : World} {K : PySem.W.Frag} {mg : Str → Option Value} {base : Heap}

theorem r_callS {σ : L2.St} {H : Hp} {Q : VK} {sp : Sp} {E : L2.St → XK} {t : TA} (h : t σ H fun vs H1 => sp vs H1 Q (E σ)) : tCallS sp E t σ H Q := h
def R_cls {α : Type} (C : Addr) (P : α → Prop) : α → Value → Option Addr → Hp → Prop := fun x c d _ => c = .ref C ∧ d = none ∧ P x
def rInSign : R2 := fun x y H Q => ∃ c z, x = V.str { cps := #[c] } ∧ y = V.str z ∧ Q (V.bl (decide (c ∈ z.cps.toList))) H
def A_fx : (Int × Int) → List V → Hp → Prop := fun f vs _ => vs = [.int f.1, .int f.2] ∧ Num60 f.1 ∧ Num60 f.2 ∧ 0 < f.2
def gOf (f : Int × Int) : Int := ((Nat.gcd f.1.natAbs f.2.natAbs : Nat) : Int)
def B_fx (K : PySem.W.Frag) : (Int × Int) → V → List (Addr × Cel) → Hp → Prop := fun f v N F => N = [] ∧ Dp K F v (tieD (f.1 / gOf f, f.2 / gOf f))
theorem ok_fraction_of (T : Env K mg) : FnOk P w K mg base CX0 1 T.a_fraction_of T.fd_fraction_of ["over", "under"] (SpF A_fx (B_fx K)) := by
  have nd := sc_fraction_of.nd
  refine T.F_fraction_of.ok sc_fraction_of (fun vs H Q E h => ?_) (fun cdv A outer s H vs Q E hr h => ?_)
  · obtain ⟨_, F, _, ⟨rfl, _⟩, _⟩ := h
    rfl
  · obtain ⟨f, F, fr, ⟨rfl, h1, h2, h3⟩, k⟩ := h
    have S := Sep.start0 fr
    obtain ⟨q1, q2, q3⟩ := frOk_of h1.1 h1.2 h3 h2.2
    refine ⟨_, (pss_cons (ps_set (i := 2) nd rfl (.inl rfl) (pe_callBfun cr_gcd (by rfl) T.g_gcd (pa_cons (pv 0) (pa_cons (pv 1) pa_nil))))
      (pss_one (ps_ret (pe_tup (pa_cons (pe_op op_fdivW (pv 0) (pv 2)) (pa_cons (pe_op op_fdivW (pv 1) (pv 2)) pa_nil)))))), ?_⟩
    walk_at "rd"
    refine ⟨f.1, f.2, rfl, ?_⟩
    walk_at "rd"
    refine ⟨_, _, rfl, rfl, ⟨q1, q2⟩, ?_⟩
    walk_at "rd"
    refine ⟨_, _, rfl, rfl, ⟨q1, q2⟩, ?_⟩
    walk_at "rd"
    refine ⟨by show 2 ≤ sizeLine; decide, s_new S fun q F1 H1 S e1 c1 => ?_⟩
    exact k _ [] _ _ S ⟨rfl, .tup (SqT.of c1) (.cons (.int _) (.cons (.int _) .nil))⟩
def A_num : Str → List V → Hp → Prop := fun w vs _ => vs = [.str w, .int 60] ∧ w.length ≤ 1000000
def B_num : Str → V → List (Addr × Cel) → Hp → Prop := fun w v N _ => N = [] ∧ v = uV (numOf w)
theorem figs : TL.tl ("0123456789" : Str) = [48, 49, 50, 51, 52, 53, 54, 55, 56, 57] := by decide +kernel
theorem fig_iff (c : Nat) : decide (c ∈ TL.tl ("0123456789" : Str)) = decide (48 ≤ c ∧ c ≤ 57) := by
  rw [figs]
  congr 1
  simp only [List.mem_cons, List.not_mem_nil, or_false]
  exact propext ⟨fun h => by omega, fun h => by omega⟩
theorem ok_number_in (T : Env K mg) : FnOk P w K mg base CX0 1 T.a_number_in T.fd_number_in ["word", "most"] (SpF A_num B_num) := by
  have nd := sc_number_in.nd
  refine T.F_number_in.ok sc_number_in (fun vs H Q E h => ?_) (fun cdv A outer s H vs Q E hr h => ?_)
  · obtain ⟨_, F, _, ⟨rfl, _⟩, _⟩ := h
    rfl
  · obtain ⟨w', F, fr, ⟨rfl, lw⟩, k⟩ := h
    have S := Sep.start0 fr
    have lsz : w'.length ≤ sizeLine := by rw [sizeL]; omega
    have bad : ¬ NumW w' → ∀ F' H', Sep [] H F F' H' [] → Q .non H' := fun n F' H' S' => k _ [] _ _ S' ⟨rfl, by unfold numOf; rw [if_neg n]; rfl⟩
    refine ⟨_, (pss_cons (ps_if (PW.pt (pw_or (pt_not (pt_chain op_le op_le pe_int (pe_callB call_len_str (by rfl) T.n_len PySem.boot_len (pa_cons (pv 0) pa_nil)) (pv 1))) (pw_or1 (pt_not (pt_val (pe_callB (cr_all rfl) (by rfl) T.n_all (by decide +kernel) (pa_cons (pe_lc (own := [("sign", 2)]) (g := gName 2) (tt := tYes) (te := (tOp rInSign (tVar 2) (tC (.str "0123456789")))) rfl nd (pi_str (pv 0)) (blkOk_by (N := ["word", "most", "sign"]) (sc := defScope s_number_in) (by decide +kernel)) (fun _ _ _ _ _ => (pg_name (i := 2) nd rfl (.inl rfl))) (fun _ _ _ _ _ => pts_nil) (fun _ _ _ _ _ => (pe_cmpR op_in_sign (pv 2) (pe_glob (v := .str "0123456789") (by rfl) T.g_FIGURES ⟨_, rfl⟩) rfl))) pa_nil))))))) (pss_one (ps_ret pe_non)) pss_nil)
      (pss_cons (ps_if (PW.pt (pw_and (pt_cmpR op_gt (pe_callB call_len_str (by rfl) T.n_len PySem.boot_len (pa_cons (pv 0) pa_nil)) pe_int (nomark _)) (pw_and1 (pt_cmpR op_eq (pe_ix ix_str (pv 0) pe_int (fun _ _ => rfl)) pe_str (nomark _))))) (pss_one (ps_ret pe_non)) pss_nil)
      (pss_one (ps_ret (pe_callTy call_int_str (by rfl) T.n_int (by decide +kernel) (pa_cons (pv 0) pa_nil)))))), ?_⟩
    walk_at "rd"
    refine ⟨_, rfl, lsz, ?_⟩
    walk_at "rd"
    cases d1 : decide ((1 : Int) ≤ (w'.length : Int)) with
    | false =>
      have d1 := of_decide_eq_false d1
      walk_at "rd"
      exact bad (fun z => d1 (by have := z.1; omega)) _ _ S
    | true =>
    have d1 := of_decide_eq_true d1
    walk_at "rd"
    cases d2 : decide ((w'.length : Int) ≤ 60) with
    | false =>
      have d2 := of_decide_eq_false d2
      walk_at "rd"
      exact bad (fun z => d2 (by have := z.2.1; omega)) _ _ S
    | true =>
    have d2 := of_decide_eq_true d2
    walk_at "rd"
    refine ⟨_, rfl, _, rfl, ?_⟩
    refine s_lcV (srcStr (x := w')) (fun _ => true) (fun c => .bl (decide (c ∈ TL.tl ("0123456789" : Str)))) S (by rw [← TL.len_tl]; omega) (fun m hm => by cases hm) ?_ ?_
    · rintro j c x acc D F2 H2 vt S e2 rfl
      walk_at "rd"
      refine ⟨rfl, ?_⟩
      walk_at "rd"
      refine ⟨c, _, rfl, rfl, ?_⟩
      exact vt.put S (by walk_at "ex") rfl rfl
    · intro D F2 H2 S e2
      rw [List.filter_eq_self.mpr (fun _ _ => rfl)] at S
      obtain ⟨F3, S, e3, c3⟩ := S.frz 0 rfl
      walk_at "rd"
      refine ⟨D, (TL.tl w').map fun c => decide (c ∈ TL.tl ("0123456789" : Str)), rfl, by rw [List.map_map]; exact SqL.of (S.fr _ _ c3), ?_⟩
      cases d3 : ((TL.tl w').map fun c => decide (c ∈ TL.tl ("0123456789" : Str))).all id with
      | false =>
        walk_at "rd"
        refine bad (fun z => ?_) _ _ S
        have : ((TL.tl w').map fun c => decide (c ∈ TL.tl ("0123456789" : Str))).all id = true := by
          rw [List.all_map, List.all_eq_true]
          intro c hc
          show decide _ = true
          rw [fig_iff]
          exact decide_eq_true (z.2.2.1 c hc)
        rw [this] at d3
        cases d3
      | true =>
      have every : ∀ c ∈ TL.tl w', 48 ≤ c ∧ c ≤ 57 := fun c hc => by
        rw [List.all_map, List.all_eq_true] at d3
        have := d3 c hc
        have : decide (c ∈ TL.tl ("0123456789" : Str)) = true := this
        rw [fig_iff] at this
        exact of_decide_eq_true this
      have good : ¬ (1 < w'.length ∧ (TL.tl w')[0]? = some 48) → ∀ F' H', Sep [] H F F' H' [] → Q (.int (valOf w')) H' := fun n F' H' S' => k _ [] _ _ S' ⟨rfl, by unfold numOf; rw [if_pos ⟨by omega, by omega, every, n⟩]; rfl⟩
      have val := int_digits (w := w') (by omega) (by omega) every
      walk_at "rd"
      refine ⟨_, rfl, lsz, ?_⟩
      walk_at "rd"
      refine iteB (fun c => ?_) (fun c => ?_)
      · have c : 1 < w'.length := by have := of_decide_eq_true c; omega
        obtain ⟨u, hu⟩ : ∃ u, (TL.tl w')[0]? = some u := ⟨_, List.getElem?_eq_getElem (by rw [← TL.len_tl]; omega)⟩
        have hu' : atI w'.cps.toList 0 = some u := atI_nat (j := 0) hu
        walk_at "rd"
        refine ⟨_, _, u, rfl, rfl, lsz, hu', ?_⟩
        walk_at "rd"
        by_cases z : u = 48
        · subst z
          rw [show decide (V.str { cps := #[48] } = V.str ("0" : Str)) = true from decide_eq_true rfl]
          walk_at "rd"
          exact bad (fun z => z.2.2.2 ⟨c, hu⟩) _ _ S
        · have ne : decide (V.str { cps := #[u] } = V.str ("0" : Str)) = false := decide_eq_false fun q => by
            have q : ({ cps := #[u] } : Str) = ("0" : Str) := V.str.inj q
            have q2 : TL.tl { cps := #[u] } = TL.tl ("0" : Str) := by rw [q]
            have q3 : [u] = [48] := q2
            exact z (List.cons.inj q3).1
          rw [ne]
          walk_at "rd"
          refine ⟨_, _, rfl, val, by omega, ?_⟩
          exact good (fun q => z (by rw [hu] at q; exact Option.some.inj q.2)) _ _ S
      · have c := of_decide_eq_false c
        walk_at "rd"
        refine ⟨_, _, rfl, val, by omega, ?_⟩
        exact good (fun q => c (by have := q.1; omega)) _ _ S
def A_tin : Str → List V → Hp → Prop := fun w vs _ => vs = [.str w] ∧ w.length ≤ 1000000
def B_tin (K : PySem.W.Frag) : Str → V → List (Addr × Cel) → Hp → Prop := fun w v N F => N = [] ∧ Dp K F v (rawTie w)
theorem part_len (x y : Str) : (Txt.partition x y).1.length ≤ x.length ∧ (Txt.partition x y).2.2.length ≤ x.length := by
  have s := PySem.StrLaws.partition_sum x y
  have l : (((Txt.partition x y).1 ++ (Txt.partition x y).2.1) ++ (Txt.partition x y).2.2).length = x.length := by rw [s]
  rw [len_app, len_app] at l
  omega
theorem ok_tie_in (T : Env K mg) : FnOk P w K mg base CX0 2 T.a_tie_in T.fd_tie_in ["word"] (SpF A_tin (B_tin K)) := by
  have nd := sc_tie_in.nd
  have G_number_in : FnOk P w K mg base CX0 1 T.a_number_in T.fd_number_in ["word", "most"] (SpF A_num B_num) := ok_number_in T
  refine T.F_tie_in.ok sc_tie_in (fun vs H Q E h => ?_) (fun cdv A outer s H vs Q E hr h => ?_)
  · obtain ⟨_, F, _, ⟨rfl, _⟩, _⟩ := h
    rfl
  · obtain ⟨w', F, fr, ⟨rfl, lw⟩, k⟩ := h
    have S := Sep.start0 fr
    have pl := part_len w' ("-" : Str)
    refine ⟨_, (pss_cons (ps_asg (pe_partition (pv 0) pe_str) (pg_tup rfl (pgs_cons (pg_name (i := 1) nd rfl (.inl rfl)) (pgs_cons (pg_name (i := 2) nd rfl (.inl rfl)) (pgs_cons (pg_name (i := 3) nd rfl (.inl rfl)) pgs_nil)))))
      (pss_one (ps_ret (pe_tup (pa_cons (pe_call G_number_in (hr.mono (by decide)) (by rfl) T.g_number_in T.F_number_in.kp T.b_number_in .nil pass0 (pa_cons (pv 1) (pa_cons (pe_glob (v := .int 60) (by rfl) T.g_MOST_FIGURES ⟨_, rfl⟩) pa_nil))) (pa_cons (pe_call G_number_in (hr.mono (by decide)) (by rfl) T.g_number_in T.F_number_in.kp T.b_number_in .nil pass0 (pa_cons (pv 3) (pa_cons (pe_glob (v := .int 60) (by rfl) T.g_MOST_FIGURES ⟨_, rfl⟩) pa_nil))) pa_nil)))))), ?_⟩
    walk_at "rd"
    refine r_m1 ?_
    walk_at "rd"
    refine ⟨⟨_, rfl⟩, ?_⟩
    walk_at "rd"
    refine ⟨_, _, rfl, rfl, by decide +kernel, by rw [sizeL]; omega, ?_⟩
    intro q hq
    obtain ⟨F1, S, e1, c1⟩ := s_push (o := .tup [.str (Txt.partition w' ("-" : Str)).1, .str (Txt.partition w' ("-" : Str)).2.1, .str (Txt.partition w' ("-" : Str)).2.2]) S hq
    have st := SqT.of (K := K) (S.fr _ _ c1)
    refine r_gTup3 rfl st ?_
    walk_at "rd"
    refine r_callF S (Txt.partition w' ("-" : Str)).1 ⟨rfl, by omega⟩ ?_
    rintro v N F2 H2 S e2 ⟨rfl, rfl⟩
    walk_at "rd"
    refine r_callF S (Txt.partition w' ("-" : Str)).2.2 ⟨rfl, by omega⟩ ?_
    rintro v N F3 H3 S e3 ⟨rfl, rfl⟩
    walk_at "rd"
    refine ⟨by show 2 ≤ sizeLine; decide, s_new S fun q2 F4 H4 S e4 c4 => ?_⟩
    exact k _ [] _ _ S ⟨rfl, .tup (SqT.of c4) (.cons (uD_at _) (.cons (uD_at _) .nil))⟩
def A_rd (n : Nat) : Str → List V → Hp → Prop := fun text vs _ => vs = [.str text] ∧ text.length ≤ 1000000 ∧ (wordsOf text).length ≤ n
def B_rw (K : PySem.W.Frag) : Str → V → List (Addr × Cel) → Hp → Prop := fun text v N F => N = [] ∧ webB (rawWeb text) = true ∧ Dp K F v (rawWeb text)
theorem ok_read_web (T : Env K mg) : FnOk P w K mg base (L2.CX P w) 4 T.a_read_web T.fd_read_web ["text"] (SpX (A_rd 4001) (B_rw K) (R_cls T.c_NoText fun text => webB (rawWeb text) = false)) := by
  have nd := sc_read_web.nd
  have G_number_in : FnOk P w K mg base CX0 1 T.a_number_in T.fd_number_in ["word", "most"] (SpF A_num B_num) := ok_number_in T
  have G_is_web : FnOk P w K mg base CX0 3 T.a_is_web T.fd_is_web ["thing"] (SpF (A_isweb K) B_isweb) := ok_is_web T
  have G_tie_in : FnOk P w K mg base CX0 2 T.a_tie_in T.fd_tie_in ["word"] (SpF A_tin (B_tin K)) := ok_tie_in T
  refine T.F_read_web.okX sc_read_web (fun vs H Q E h => ?_) (fun cdv A outer s H vs Q E hr h => ?_)
  · obtain ⟨_, F, _, ⟨rfl, _⟩, _⟩ := h
    rfl
  · obtain ⟨text, F, fr, ⟨rfl, lt, lw⟩, k, kx⟩ := h
    have S := Sep.start0 fr
    refine ⟨_, (pss_cons (ps_set (i := 1) nd rfl (.inl rfl) (pe_split (pv 0) pe_str))
      (pss_cons (ps_set (i := 2) nd rfl (.inl rfl) (pe_callTy call_tupN (by rfl) T.n_tuple (by decide +kernel) (pa_cons (pe_lc (own := [("word", 4)]) (g := gName 4) (tt := tYes) (te := (tCall (SpF A_tin (B_tin K)) [] E0 (tCons (tVar 4) tNil))) rfl nd (pi_list (pe_slice sl_list (pv 1) (po_some pe_int) po_none)) (blkOk_by (N := ["text", "words", "ties", "web", "word"]) (sc := defScope s_read_web) (by decide +kernel)) (fun _ _ _ _ _ => (pg_name (i := 4) nd rfl (.inl rfl))) (fun _ _ _ _ _ => pts_nil) (fun _ _ _ _ _ => (pe_call G_tie_in (hr.mono (by decide)) (by rfl) T.g_tie_in T.F_tie_in.kp T.b_tie_in .nil pass0 (pa_cons (pv 4) pa_nil)))) pa_nil)))
      (pss_cons (ps_set (i := 3) nd rfl (.inl rfl) (pe_tup (pa_cons (pe_call G_number_in (hr.mono (by decide)) (by rfl) T.g_number_in T.F_number_in.kp T.b_number_in .nil pass0 (pa_cons (pe_ix ix_list (pv 1) pe_int (fun _ _ => rfl)) (pa_cons (pe_glob (v := .int 60) (by rfl) T.g_MOST_FIGURES ⟨_, rfl⟩) pa_nil))) (pa_cons (pv 2) pa_nil))))
      (pss_cons (ps_if (pt_not (pt_val (pe_call G_is_web (hr.mono (by decide)) (by rfl) T.g_is_web T.F_is_web.kp T.b_is_web .nil pass0 (pa_cons (pv 3) pa_nil)))) (pss_one (ps_raise rfl (takes_of rfl rfl rfl rfl) (pmk_own PySem.F.excBase_ValueError T.x_NoText T.g_NoText T.kp_NoText (raises_own T.y_NoText.hs T.ty_NoText) (by rfl)))) pss_nil)
      (pss_one (ps_ret (pv 3))))))), ?_⟩
    walk_at "rd"
    refine r_m1 ?_
    walk_at "rd"
    refine ⟨⟨_, rfl⟩, ?_⟩
    walk_at "rd"
    refine ⟨_, blank, rfl, rfl, by decide +kernel, by rw [sizeL]; omega, ?_⟩
    intro wq hq
    obtain ⟨F1, S, e1, c1⟩ := s_push (o := .lst ((wordsOf text).map V.str)) S hq
    walk_at "rd"
    refine s_slL (SqL.of (S.fr _ _ c1)) (s_new S fun u F2 H2 S e2 c2 => ?_)
    rw [cutV_from (by omega)] at c2
    have c2 : F2 u = some (.lst (((wordsOf text).map V.str).drop 1)) := c2
    rw [← List.map_drop] at c2
    have c2' : SqL K F2 u (((wordsOf text).drop 1).map V.str) := SqL.of c2
    have short : ∀ w' ∈ wordsOf text, w'.length ≤ 1000000 := fun w' m => Nat.le_trans (PyProof.Rows.part_short m) lt
    walk_at "rd"
    refine ⟨u, rfl, ⟨_, SqL.of (S.fr _ _ c2)⟩, ?_⟩
    refine s_lcD (K := K) (Src.map (bs := (wordsOf text).drop 1) (r := V.str) (srcV c2')) (fun _ => true) rawTie S (by rw [List.length_drop]; omega) (fun m hm => by cases hm) ?_ ?_
    · rintro j w1 x acc D F3 H3 dt S e3 rfl
      have mn := short w1 (List.mem_of_mem_drop (List.mem_of_getElem? dt.at'))
      walk_at "rd"
      refine ⟨rfl, ?_⟩
      walk_at "rd"
      refine r_callF S w1 ⟨rfl, mn⟩ ?_
      rintro v N F4 H4 S e4 ⟨rfl, hv⟩
      exact dt.put S (e3.trans e4) e4 rfl hv
    · intro D acc F3 H3 S e3 hd
      rw [List.filter_eq_self.mpr (fun _ _ => rfl)] at hd
      obtain ⟨F4, S, e4, c4⟩ := S.frz 0 rfl
      walk_at "rd"
      refine s_new S fun tq F5 H5 S e5 c5 => ?_
      have c1' := SqL.of (K := K) (((e2.trans e3).trans (e4.trans e5)) _ _ c1)
      have hw0 : (wordsOf text)[0]? = some ((wordsOf text).headD Str.empty) := by
        have := words_ne text
        cases q : wordsOf text with
        | nil => exact absurd q this
        | cons a b => rfl
      walk_at "rd"
      refine r_ixL (v := .str ((wordsOf text).headD Str.empty)) (Evl.ex_l S.fr c1') (atI_nat (j := 0) (by rw [List.getElem?_map, hw0]; rfl)) ?_
      walk_at "rd"
      refine r_callF S ((wordsOf text).headD Str.empty) ⟨rfl, short _ (List.mem_of_getElem? hw0)⟩ ?_
      rintro v N F6 H6 S e6 ⟨rfl, rfl⟩
      walk_at "rd"
      refine ⟨by show 2 ≤ sizeLine; decide, s_new S fun w1 F7 H7 S e7 c7 => ?_⟩
      have hw : Dp K F7 (.ref w1) (rawWeb text) := .tup (SqT.of c7) (.cons (uD_at _) (.cons (.tup (SqT.of ((e6.trans e7) _ _ c5)) (DpAll.ex ((e4.trans e5).trans (e6.trans e7)) _ _ hd)) .nil))
      walk_at "rd"
      refine r_callF S (rawWeb text) ⟨_, rfl, hw, by show (((wordsOf text).drop 1).map rawTie).length ≤ 4000; rw [List.length_map, List.length_drop]; omega⟩ ?_
      rintro v N F8 H8 S e8 ⟨rfl, rfl⟩
      cases b : webB (rawWeb text) with
      | true =>
        walk_at "rd"
        exact k _ [] _ _ S ⟨rfl, b, Dp.ex e8 _ _ hw⟩
      | false =>
        walk_at "rd"
        exact kx _ _ _ _ S ⟨rfl, rfl, b⟩
theorem inV_u (os : List (Option Int)) : inV .non (os.map uV) = decide (none ∈ os) := by
  induction os with
  | nil => rfl
  | cons o r ih =>
    cases o with
    | none => simp [inV, eqV, uV]
    | some n =>
      rw [List.map_cons]
      simp [inV, eqV, uV] at ih ⊢
      exact ih
theorem flat_u (os : List (Option Int)) : (os.map uV).all flatV = true := by
  rw [List.all_map, List.all_eq_true]
  intro o _
  cases o <;> rfl
theorem uV_some (ns : List Int) : (ns.map some).map uV = ns.map V.int := by rw [List.map_map]; rfl
def B_rs (K : PySem.W.Frag) : Str → V → List (Addr × Cel) → Hp → Prop := fun text v N F => N = [] ∧ ∃ ns a, NsOk ns ∧ setS ns = text ∧ v = .ref a ∧ SqL K F a (ns.map V.int)
theorem ok_read_set (T : Env K mg) : FnOk P w K mg base (L2.CX P w) 3 T.a_read_set T.fd_read_set ["text"] (SpX (A_rd 4000) (B_rs K) (R_cls T.c_NoText fun text => ∀ ns, NsOk ns → setS ns ≠ text)) := by
  have nd := sc_read_set.nd
  have G_number_in : FnOk P w K mg base CX0 1 T.a_number_in T.fd_number_in ["word", "most"] (SpF A_num B_num) := ok_number_in T
  have G_is_rising : FnOk P w K mg base CX0 1 T.a_is_rising T.fd_is_rising ["things"] (SpF (A_rising K) B_rising) := ok_is_rising T
  refine T.F_read_set.okX sc_read_set (fun vs H Q E h => ?_) (fun cdv A outer s H vs Q E hr h => ?_)
  · obtain ⟨_, F, _, ⟨rfl, _⟩, _⟩ := h
    rfl
  · obtain ⟨text, F, fr, ⟨rfl, lt, lw⟩, k, kx⟩ := h
    have S := Sep.start0 fr
    refine ⟨_, (pss_cons (ps_if (pt_cmpR op_eq (pv 0) pe_str (nomark _)) (pss_one (ps_ret (pe_lst pa_nil))) pss_nil)
      (pss_cons (ps_setLc (i := 1) (own := [("word", 2)]) (g := gName 2) (tt := tYes) (te := (tCall (SpF A_num B_num) [] E0 (tCons (tVar 2) (tCons (tC (.int 60)) tNil)))) rfl nd rfl rfl (sw_true rfl rfl rfl (by decide +kernel)) (pi_list (pe_split (pv 0) pe_str)) (blkOk_by (N := ["text", "numbers", "word"]) (sc := defScope s_read_set) (by decide +kernel)) (fun _ _ _ _ _ => (pg_name (i := 2) nd rfl (.inl rfl))) (fun _ _ _ _ _ => pts_nil) (fun _ _ _ _ _ => (pe_call G_number_in (hr.mono (by decide)) (by rfl) T.g_number_in T.F_number_in.kp T.b_number_in .nil pass0 (pa_cons (pv 2) (pa_cons (pe_glob (v := .int 60) (by rfl) T.g_MOST_FIGURES ⟨_, rfl⟩) pa_nil)))))
      (pss_cons (ps_if (PW.pt (pw_or (pt_cmpR op_in_seq pe_non (pv 1) rfl) (pw_or1 (pt_not (pt_val (pe_call G_is_rising (hr.mono (by decide)) (by rfl) T.g_is_rising T.F_is_rising.kp T.b_is_rising .nil pass0 (pa_cons (pv 1) pa_nil))))))) (pss_one (ps_raise rfl (takes_of rfl rfl rfl rfl) (pmk_own PySem.F.excBase_ValueError T.x_NoText T.g_NoText T.kp_NoText (raises_own T.y_NoText.hs T.ty_NoText) (by rfl)))) pss_nil)
      (pss_one (ps_ret (pv 1)))))), ?_⟩
    walk_at "rd"
    cases d0 : decide (V.str text = V.str ("none" : Str)) with
    | true =>
      have d0 := V.str.inj (of_decide_eq_true d0)
      walk_at "rd"
      refine ⟨Nat.zero_le _, s_new S fun q F1 H1 S e1 c1 => ?_⟩
      exact k _ [] _ _ S ⟨rfl, [], q, ⟨fun _ m => (by cases m), .nil, Nat.zero_le _⟩, d0.symm, rfl, SqL.of c1⟩
    | false =>
      have d0 := of_decide_eq_false d0
      have none0 : ∀ ns, setS ns = text → ns ≠ [] ∧ numsS ns = text := fun ns e => by
        by_cases z : ns = []
        · exfalso
          rw [z] at e
          exact d0 (by rw [← e]; rfl)
        · refine ⟨z, ?_⟩
          unfold setS at e
          rw [if_neg z] at e
          exact e
      walk_at "rd"
      refine r_m1 ?_
      walk_at "rd"
      refine ⟨⟨_, rfl⟩, ?_⟩
      walk_at "rd"
      refine ⟨_, blank, rfl, rfl, by decide +kernel, by rw [sizeL]; omega, ?_⟩
      intro wq hq
      obtain ⟨F1, S, e1, c1⟩ := s_push (o := .lst ((wordsOf text).map V.str)) S hq
      have c1' : SqL K F1 wq ((wordsOf text).map V.str) := SqL.of c1
      have short : ∀ w' ∈ wordsOf text, w'.length ≤ 1000000 := fun w' m => Nat.le_trans (PyProof.Rows.part_short m) lt
      refine ⟨wq, rfl, ⟨_, Evl.ex_l S.fr c1'⟩, ?_⟩
      refine s_lcV (Src.map (bs := wordsOf text) (r := V.str) (srcV c1')) (fun _ => true) (fun w1 => uV (numOf w1)) S (by omega) (fun m hm => by cases hm) ?_ ?_
      · rintro j w1 x acc D F3 H3 vt S e3 rfl
        have mn := short w1 (List.mem_of_getElem? vt.at')
        walk_at "rd"
        refine ⟨rfl, ?_⟩
        walk_at "rd"
        refine r_callF S w1 ⟨rfl, mn⟩ ?_
        rintro v N F4 H4 S e4 ⟨rfl, rfl⟩
        exact vt.put S (e3.trans e4) rfl rfl
      · intro D F3 H3 S e3
        rw [List.filter_eq_self.mpr (fun _ _ => rfl)] at S
        obtain ⟨F4, S, e4, c4⟩ := S.frz 0 rfl
        have c4 : F4 D = some (.lst ((rawNums text).map uV)) := by
          unfold rawNums
          rw [List.map_map]
          exact c4
        walk_at "rd"
        have hD := SqL.of (K := K) (S.fr _ _ c4)
        refine ⟨rfl, flat_u _, ?_⟩
        rw [if_neg (by decide), inV_u]
        by_cases nn : none ∈ rawNums text
        · rw [decide_eq_true nn]
          walk_at "rd"
          refine kx _ _ _ _ S ⟨rfl, rfl, fun ns ok e => ?_⟩
          obtain ⟨e1, e2⟩ := none0 ns e
          rw [← e2, nums_text ok.num e1] at nn
          obtain ⟨n, _, z⟩ := List.mem_map.mp nn
          cases z
        · rw [decide_eq_false nn]
          obtain ⟨ns, hns⟩ := all_some nn
          rw [hns, uV_some] at c4
          have ln : ns.length ≤ 4000 := by
            have : (rawNums text).length = (wordsOf text).length := by unfold rawNums; rw [List.length_map]
            rw [hns, List.length_map] at this
            omega
          walk_at "rd"
          refine r_callF S (.inr ns) ⟨D, rfl, SqL.of c4, ln⟩ ?_
          rintro v N F5 H5 S e5 ⟨rfl, rfl⟩
          cases b : riseI ns with
          | true =>
            walk_at "rd"
            obtain ⟨t1, t2, t3⟩ := set_text hns
            exact k _ [] _ _ S ⟨rfl, ns, D, ⟨t3, riseI_iff b, ln⟩, by unfold setS; rw [if_neg t2, ← t1], rfl, SqL.of (e5 _ _ c4)⟩
          | false =>
            walk_at "rd"
            refine kx _ _ _ _ S ⟨rfl, rfl, fun ns' ok e => ?_⟩
            obtain ⟨e1, e2⟩ := none0 ns' e
            have := nums_text ok.num e1
            rw [e2, hns] at this
            have := map_some_inj this
            rw [this, riseI_up ok.up] at b
            cases b
def fracB : Option Int × Option Int → Bool
  | (some o, some u) => decide (2 ≤ u) && decide (gOf (o, u) = 1)
  | _ => false
def okO (o : Option Int) : Prop := ∀ i, o = some i → Num60 i
def A_isf : (Option Int × Option Int) → List V → Hp → Prop := fun f vs _ => vs = [uV f.1, uV f.2] ∧ okO f.1 ∧ okO f.2
def B_isf : (Option Int × Option Int) → V → List (Addr × Cel) → Hp → Prop := fun f v N _ => N = [] ∧ v = .bl (fracB f)
theorem div_one_iff {u g : Int} (hu : 0 < u) (hg : 0 < g) (h : u / g = u) : g = 1 := by
  obtain ⟨a, rfl⟩ := Int.eq_ofNat_of_zero_le (Int.le_of_lt hu)
  obtain ⟨b, rfl⟩ := Int.eq_ofNat_of_zero_le (Int.le_of_lt hg)
  rw [← Int.natCast_ediv] at h
  have h : a / b = a := by omega
  by_cases z : 2 ≤ b
  · have := Nat.div_lt_self (show 0 < a by omega) z
    omega
  · omega
theorem ok_is_fraction (T : Env K mg) : FnOk P w K mg base CX0 2 T.a_is_fraction T.fd_is_fraction ["over", "under"] (SpF A_isf B_isf) := by
  have nd := sc_is_fraction.nd
  have G_fraction_of : FnOk P w K mg base CX0 1 T.a_fraction_of T.fd_fraction_of ["over", "under"] (SpF A_fx (B_fx K)) := ok_fraction_of T
  refine T.F_is_fraction.ok sc_is_fraction (fun vs H Q E h => ?_) (fun cdv A outer s H vs Q E hr h => ?_)
  · obtain ⟨⟨_, _⟩, F, _, ⟨rfl, _⟩, _⟩ := h
    rfl
  · obtain ⟨⟨oo, uu⟩, F, fr, ⟨rfl, h1, h2⟩, k⟩ := h
    have S := Sep.start0 fr
    refine ⟨_, (pss_cons (ps_if (PW.pt (pw_or (pt_cmpR op_isN (pv 0) pe_non (nomark _)) (pw_or (pt_cmpR op_isN (pv 1) pe_non (nomark _)) (pw_or1 (pt_cmpR op_lt (pv 1) pe_int (nomark _)))))) (pss_one (ps_ret pe_bl)) pss_nil)
      (pss_one (ps_ret (pe_cmpR (op_eqD hr.units) (pe_call G_fraction_of (hr.mono (by decide)) (by rfl) T.g_fraction_of T.F_fraction_of.kp T.b_fraction_of .nil pass0 (pa_cons (pv 0) (pa_cons (pv 1) pa_nil))) (pe_tup (pa_cons (pv 0) (pa_cons (pv 1) pa_nil))) (nomark _))))), ?_⟩
    cases oo with
    | none =>
      walk_at "rd"
      exact k _ [] _ _ S ⟨rfl, rfl⟩
    | some o =>
      cases uu with
      | none =>
        walk_at "rd"
        exact k _ [] _ _ S ⟨rfl, rfl⟩
      | some u =>
        have h1 := h1 o rfl
        have h2 := h2 u rfl
        have fin : ∀ b, (decide (2 ≤ u) && decide (gOf (o, u) = 1)) = b → ∀ F' H', Sep [] H F F' H' [] → Q (.bl b) H' := fun b e F' H' S' => k _ [] _ _ S' ⟨rfl, by rw [← e]; rfl⟩
        dsimp only [uV]
        walk_at "rd"
        refine iteB (fun c => ?_) (fun c => ?_)
        · have c : u < 2 := of_decide_eq_true c
          walk_at "rd"
          exact fin _ (by rw [decide_eq_false (by omega), Bool.false_and]) _ _ S
        · have c : ¬ u < 2 := of_decide_eq_false c
          rw [decide_eq_true (show 2 ≤ u by omega), Bool.true_and] at fin
          walk_at "rd"
          refine r_callF S (o, u) ⟨rfl, h1, h2, by show 0 < u; omega⟩ ?_
          rintro v N F1 H1 S e1 ⟨rfl, hv⟩
          obtain ⟨q1, _, _⟩ := frOk_of h1.1 h1.2 (show 0 < u by omega) h2.2
          walk_at "rd"
          refine ⟨by show 2 ≤ sizeLine; decide, s_new S fun q F2 H2 S e2 c2 => ?_⟩
          refine ⟨_, tieD (o, u), Dp.ex S.fr _ _ (Dp.ex e2 _ _ hv), .tup (SqT.of (S.fr _ _ c2)) (.cons (.int _) (.cons (.int _) .nil)), shaped_tie _, shaped_tie _, ?_⟩
          rw [eqv_tie]
          refine fin _ ?_ _ _ S
          congr 1
          refine propext ⟨fun g1 => ?_, fun z => ?_⟩
          · rw [g1, Int.ediv_one, Int.ediv_one]
          · exact div_one_iff (by omega) q1 (Prod.mk.inj z).2
def B_rf (K : PySem.W.Frag) : Str → V → List (Addr × Cel) → Hp → Prop := fun text v N F => N = [] ∧ ∃ f, FrOk f ∧ fracS f = text ∧ Dp K F v (tieD f)
theorem gOf_cop {f : Int × Int} : gOf f = 1 ↔ Nat.gcd f.1.natAbs f.2.natAbs = 1 := by unfold gOf; omega
def A_rt : Str → List V → Hp → Prop := fun text vs _ => vs = [.str text] ∧ text.length ≤ 1000000
theorem numO (w' : Str) : okO (numOf w') := fun i e => (numOf_some e).1
theorem len_z (x : Str) : ((x.length : Int) != 0) = !decide (x = Str.empty) := by
  by_cases z : x = Str.empty
  · rw [decide_eq_true z, z]; rfl
  · have : x.length ≠ 0 := fun q => z (TL.ext_tl (by rw [(TL.len0_tl x).mp q]; rfl))
    rw [decide_eq_false z]
    simp [this]
theorem ok_read_fraction (T : Env K mg) : FnOk P w K mg base (L2.CX P w) 3 T.a_read_fraction T.fd_read_fraction ["text"] (SpX A_rt (B_rf K) (R_cls T.c_NoText fun text => ∀ f, FrOk f → fracS f ≠ text)) := by
  have nd := sc_read_fraction.nd
  have G_number_in : FnOk P w K mg base CX0 1 T.a_number_in T.fd_number_in ["word", "most"] (SpF A_num B_num) := ok_number_in T
  have G_is_fraction : FnOk P w K mg base CX0 2 T.a_is_fraction T.fd_is_fraction ["over", "under"] (SpF A_isf B_isf) := ok_is_fraction T
  refine T.F_read_fraction.okX sc_read_fraction (fun vs H Q E h => ?_) (fun cdv A outer s H vs Q E hr h => ?_)
  · obtain ⟨_, F, _, ⟨rfl, _⟩, _⟩ := h
    rfl
  · obtain ⟨text, F, fr, ⟨rfl, lt⟩, k, kx⟩ := h
    have S := Sep.start0 fr
    have pl := part_len text ("/" : Str)
    refine ⟨_, (pss_cons (ps_asg (pe_partition (pv 0) pe_str) (pg_tup rfl (pgs_cons (pg_name (i := 1) nd rfl (.inl rfl)) (pgs_cons (pg_name (i := 2) nd rfl (.inl rfl)) (pgs_cons (pg_name (i := 3) nd rfl (.inl rfl)) pgs_nil)))))
      (pss_cons (ps_set (i := 4) nd rfl (.inl rfl) (pe_call G_number_in (hr.mono (by decide)) (by rfl) T.g_number_in T.F_number_in.kp T.b_number_in .nil pass0 (pa_cons (pv 1) (pa_cons (pe_glob (v := .int 60) (by rfl) T.g_MOST_FIGURES ⟨_, rfl⟩) pa_nil))))
      (pss_cons (ps_if (PW.pt (pw_and (pt_cmpR op_notN (pv 4) pe_non (nomark _)) (pw_and1 (pt_not (pt_truth (pv 2) (by intro _; rfl)))))) (pss_one (ps_ret (pe_tup (pa_cons (pv 4) (pa_cons pe_int pa_nil))))) pss_nil)
      (pss_cons (ps_set (i := 5) nd rfl (.inl rfl) (pe_call G_number_in (hr.mono (by decide)) (by rfl) T.g_number_in T.F_number_in.kp T.b_number_in .nil pass0 (pa_cons (pv 3) (pa_cons (pe_glob (v := .int 60) (by rfl) T.g_MOST_FIGURES ⟨_, rfl⟩) pa_nil))))
      (pss_cons (ps_if (pt_not (pt_val (pe_call G_is_fraction (hr.mono (by decide)) (by rfl) T.g_is_fraction T.F_is_fraction.kp T.b_is_fraction .nil pass0 (pa_cons (pv 4) (pa_cons (pv 5) pa_nil))))) (pss_one (ps_raise rfl (takes_of rfl rfl rfl rfl) (pmk_own PySem.F.excBase_ValueError T.x_NoText T.g_NoText T.kp_NoText (raises_own T.y_NoText.hs T.ty_NoText) (by rfl)))) pss_nil)
      (pss_one (ps_ret (pe_tup (pa_cons (pv 4) (pa_cons (pv 5) pa_nil)))))))))), ?_⟩
    walk_at "rd"
    refine r_m1 ?_
    walk_at "rd"
    refine ⟨⟨_, rfl⟩, ?_⟩
    walk_at "rd"
    refine ⟨_, _, rfl, rfl, by decide +kernel, by rw [sizeL]; omega, ?_⟩
    intro q hq
    obtain ⟨F1, S, e1, c1⟩ := s_push (o := .tup [.str (Txt.partition text ("/" : Str)).1, .str (Txt.partition text ("/" : Str)).2.1, .str (Txt.partition text ("/" : Str)).2.2]) S hq
    have st := SqT.of (K := K) (S.fr _ _ c1)
    have s2len : (Txt.partition text ("/" : Str)).2.1.length ≤ sizeLine := by
      have s := PySem.StrLaws.partition_sum text ("/" : Str)
      have l : (((Txt.partition text ("/" : Str)).1 ++ (Txt.partition text ("/" : Str)).2.1) ++ (Txt.partition text ("/" : Str)).2.2).length = text.length := by rw [s]
      rw [len_app, len_app] at l
      rw [sizeL]
      omega
    refine r_gTup3 rfl st ?_
    walk_at "rd"
    refine r_callF S (Txt.partition text ("/" : Str)).1 ⟨rfl, by omega⟩ ?_
    rintro v N F2 H2 S e2 ⟨rfl, rfl⟩
    have hm2 : ∀ f, FrOk f → fracS f = text → numOf (Txt.partition text ("/" : Str)).1 = some f.1 ∧ (f.2 = 1 → (Txt.partition text ("/" : Str)).2.1 = Str.empty) ∧ (f.2 ≠ 1 → (Txt.partition text ("/" : Str)).2.1 ≠ Str.empty ∧ numOf (Txt.partition text ("/" : Str)).2.2 = some f.2) := fun f fo e => by
      have p := part_frac (f := f) fo.one.1
      rw [e] at p
      by_cases z : f.2 = 1
      · rw [if_pos z] at p
        rw [p]
        exact ⟨numOf_intS fo.one, fun _ => rfl, fun q => absurd z q⟩
      · rw [if_neg z] at p
        rw [p]
        exact ⟨numOf_intS fo.one, fun q => absurd q z, fun _ => ⟨fun y => absurd (congrArg TL.tl (show ("/" : Str) = Str.empty from y)) (by decide +kernel), numOf_intS fo.two⟩⟩
    have later : ∀ (F2 : Hp) (H2 : Hp), Sep [] H F F2 H2 [] → (numOf (Txt.partition text ("/" : Str)).1 = none ∨ (Txt.partition text ("/" : Str)).2.1 ≠ Str.empty) → ∀ b : Bool, b = fracB (numOf (Txt.partition text ("/" : Str)).1, numOf (Txt.partition text ("/" : Str)).2.2) → (b = true → ∃ o u, numOf (Txt.partition text ("/" : Str)).1 = some o ∧ numOf (Txt.partition text ("/" : Str)).2.2 = some u ∧ FrOk (o, u) ∧ fracS (o, u) = text) ∧ (b = false → ∀ f, FrOk f → fracS f ≠ text) := fun F2 H2 S2 hc b hb => by
      refine ⟨fun y => ?_, fun y f fo e => ?_⟩
      · rw [y] at hb
        cases n1 : numOf (Txt.partition text ("/" : Str)).1 with
        | none => rw [n1] at hb; cases hb
        | some o =>
          cases n2 : numOf (Txt.partition text ("/" : Str)).2.2 with
          | none => rw [n1, n2] at hb; cases hb
          | some u =>
            rw [n1, n2] at hb
            have hb : (decide (2 ≤ u) && decide (gOf (o, u) = 1)) = true := hb.symm
            rw [Bool.and_eq_true, decide_eq_true_eq, decide_eq_true_eq] at hb
            obtain ⟨a, b', c⟩ := part_two n1 n2
            exact ⟨o, u, rfl, rfl, ⟨a, b', by show 0 < u; omega, gOf_cop.mp hb.2⟩, by unfold fracS; rw [if_neg (by show u ≠ 1; omega)]; exact c.symm⟩
      · obtain ⟨m1, m2, m3⟩ := hm2 f fo e
        by_cases z : f.2 = 1
        · rcases hc with hc | hc
          · rw [m1] at hc; cases hc
          · exact hc (m2 z)
        · have m4 := (m3 z).2
          rw [m1, m4, y] at hb
          have hb : (decide (2 ≤ f.2) && decide (gOf (f.1, f.2) = 1)) = false := hb.symm
          have pos := fo.pos
          rw [decide_eq_true (show 2 ≤ f.2 by omega), decide_eq_true (gOf_cop.mpr fo.cop)] at hb
          cases hb
    walk_at "rd"
    cases n1 : numOf (Txt.partition text ("/" : Str)).1 with
    | none =>
      rw [n1] at later
      walk_at "rd"
      refine r_callF S (Txt.partition text ("/" : Str)).2.2 ⟨rfl, by omega⟩ ?_
      rintro v N F3 H3 S e3 ⟨rfl, rfl⟩
      walk_at "rd"
      refine r_callF S (none, numOf (Txt.partition text ("/" : Str)).2.2) ⟨rfl, fun i e => by (cases e), numO _⟩ ?_
      rintro v N F4 H4 S e4 ⟨rfl, rfl⟩
      have lt2 := later _ _ S (.inl rfl) _ rfl
      walk_at "rd"
      exact kx _ _ _ _ S ⟨rfl, rfl, lt2.2 rfl⟩
    | some o =>
      dsimp only [uV]
      walk_at "rd"
      refine ⟨_, rfl, _, ⟨s2len, rfl⟩, ?_⟩
      rw [len_z]
      by_cases st0 : (Txt.partition text ("/" : Str)).2.1 = Str.empty
      · rw [decide_eq_true st0]
        obtain ⟨a1, a2⟩ := frac_some n1 st0
        walk_at "rd"
        refine ⟨by show 2 ≤ sizeLine; decide, s_new S fun q2 F4 H4 S e4 c4 => ?_⟩
        refine k _ [] _ _ S ⟨rfl, (o, 1), ⟨a1, ⟨by show (0 : Int) ≤ 1; omega, by show (1 : Int) < 10 ^ 60; omega⟩, by show (0 : Int) < 1; omega, by show Nat.gcd o.natAbs 1 = 1; exact Nat.gcd_one_right _⟩, a2.symm, .tup (SqT.of c4) (.cons (.int _) (.cons (.int _) .nil))⟩
      · rw [decide_eq_false st0]
        rw [n1] at later
        walk_at "rd"
        refine r_callF S (Txt.partition text ("/" : Str)).2.2 ⟨rfl, by omega⟩ ?_
        rintro v N F3 H3 S e3 ⟨rfl, rfl⟩
        walk_at "rd"
        refine r_callF S (some o, numOf (Txt.partition text ("/" : Str)).2.2) ⟨rfl, fun i e => by (cases e; exact (numOf_some n1).1), numO _⟩ ?_
        rintro v N F4 H4 S e4 ⟨rfl, rfl⟩
        have lt2 := later _ _ S (.inr st0) _ rfl
        cases b : fracB (some o, numOf (Txt.partition text ("/" : Str)).2.2) with
        | false =>
          walk_at "rd"
          exact kx _ _ _ _ S ⟨rfl, rfl, lt2.2 b⟩
        | true =>
          obtain ⟨o', u, z1, z2, z3, z4⟩ := lt2.1 b
          cases z1
          rw [z2]
          dsimp only [uV]
          walk_at "rd"
          refine ⟨by show 2 ≤ sizeLine; decide, s_new S fun q2 F5 H5 S e5 c5 => ?_⟩
          exact k _ [] _ _ S ⟨rfl, (o, u), z3, z4, .tup (SqT.of c5) (.cons (.int _) (.cons (.int _) .nil))⟩

end

end
section
local macro_rules | `(tactic| walk_at "ex") => `(tactic| first | exact Evl.Ex.refl _ | assumption | ((refine' Evl.Ex.trans ?x ?y); (case y => assumption); (case x => walk_at "ex")))
local macro_rules | `(tactic| walk_at "hc") => `(tactic| first
  | assumption
  | ((refine' Sep.rdM ?S 0 ?k); (case S => assumption); (case k => exact rfl)) | ((refine' Sep.rdM ?S 1 ?k); (case S => assumption); (case k => exact rfl)) | ((refine' Sep.rdM ?S 2 ?k); (case S => assumption); (case k => exact rfl)) | ((refine' Sep.rdM ?S 3 ?k); (case S => assumption); (case k => exact rfl)) | ((refine' Sep.rdM ?S 4 ?k); (case S => assumption); (case k => exact rfl))
  | ((refine' Sep.rdC ?S ?e ?h); (case S => assumption); (case h => assumption); (case e => walk_at "ex")))
local macro_rules | `(tactic| walk_at "hl") => `(tactic| first
  | assumption
  | ((refine' SqL.of (Sep.rdM ?S 0 ?k)); (case S => assumption); (case k => exact rfl)) | ((refine' SqL.of (Sep.rdM ?S 1 ?k)); (case S => assumption); (case k => exact rfl)) | ((refine' SqL.of (Sep.rdM ?S 2 ?k)); (case S => assumption); (case k => exact rfl)) | ((refine' SqL.of (Sep.rdM ?S 3 ?k)); (case S => assumption); (case k => exact rfl)) | ((refine' SqL.of (Sep.rdM ?S 4 ?k)); (case S => assumption); (case k => exact rfl))
  | ((refine' Sep.rdL ?S ?e ?h); (case S => assumption); (case h => assumption); (case e => walk_at "ex"))
  | ((refine' Sep.rdT ?S ?e ?h); (case S => assumption); (case h => assumption); (case e => walk_at "ex"))
  | ((refine' SqL.of (Sep.rdC ?S ?e ?h)); (case S => assumption); (case h => assumption); (case e => walk_at "ex"))
  | ((refine' SqT.of (Sep.rdC ?S ?e ?h)); (case S => assumption); (case h => assumption); (case e => walk_at "ex"))
  | ((refine' SqL.of ?h); (case h => assumption)) | ((refine' SqT.of ?h); (case h => assumption))
  | ((refine' Evl.ex_l ?e ?h); (case h => assumption); (case e => walk_at "ex")) | ((refine' Evl.ex_t ?e ?h); (case h => assumption); (case e => walk_at "ex"))
  | ((refine' SqL.of (?e _ _ ?h)); (case h => assumption); (case e => walk_at "ex")) | ((refine' SqT.of (?e _ _ ?h)); (case h => assumption); (case e => walk_at "ex")))
local macro_rules | `(tactic| walk_at "hs") => `(tactic| walk_at "hc")
local macro_rules | `(tactic| walk_at "dp") => `(tactic| first
  | assumption
  | ((refine' Sep.rdD ?S ?e ?h); (case S => assumption); (case h => assumption); (case e => walk_at "ex"))
  | ((refine' Dp.ex ?e _ _ ?h); (case h => assumption); (case e => walk_at "ex"))
  | ((refine' DpAll.ex ?e _ _ ?h); (case h => assumption); (case e => walk_at "ex"))
  | (refine' dp_intsD ?h; (case h => walk_at "hl")))
local macro_rules | `(tactic| walk_at "rd1") => `(tactic| (first
  | (with_reducible refine r_seq ?_)
  | (with_reducible refine r_asg ?_)
  | (with_reducible refine r_asgG ?_)
  | (with_reducible refine r_par ?_)
  | (with_reducible refine r_if ?_)
  | (with_reducible refine r_ret ?_)
  | (with_reducible refine r_drop ?_)
  | (with_reducible refine r_next ?_)
  | ((with_reducible refine' r_var ?hx ?_); (case hx => exact rfl))
  | (with_reducible refine r_c ?_)
  | (with_reducible refine r_op ?_)
  | (with_reducible refine r_un ?_)
  | (with_reducible refine r_I0 ?_)
  | ((with_reducible refine' r_I ?_ ?_); (· first | (show (0 : Int) < _; omega) | exact Or.inr ⟨by omega, by omega⟩ | exact Or.inl ⟨by omega, by omega⟩ | exact ⟨by omega, by omega, by decide⟩))
  | (with_reducible refine r_U ?_)
  | (with_reducible refine r_test ?_)
  | (with_reducible refine r_B ?_)
  | (with_reducible refine r_bl ?_)
  | (with_reducible refine r_eqI ?_)
  | (with_reducible refine r_neI ?_)
  | ((with_reducible refine' r_eq ?_ ?_); (· exact rfl))
  | ((with_reducible refine' r_ne ?_ ?_); (· exact rfl))
  | (with_reducible refine r_nil ?_)
  | (with_reducible refine r_cons ?_)
  | (with_reducible refine s_tup ?_)
  | (with_reducible refine s_lst ?_)
  | (with_reducible refine r_call ?_)
  | (with_reducible refine r_cb ?_)
  | (with_reducible refine r_and ?_)
  | (with_reducible refine r_or ?_)
  | (with_reducible refine r_not ?_)
  | (with_reducible refine r_andV ?_)
  | (with_reducible refine r_orV ?_)
  | (with_reducible refine r_notV ?_)
  | (with_reducible refine r_ifE ?_)
  | (with_reducible refine r_gSub ?_)
  | (with_reducible refine r_sadd ?_)
  | (with_reducible refine s_lstRg ?_)
  | (with_reducible refine r_rg1 ?_)
  | (with_reducible refine r_min2 ?_)
  | (with_reducible refine r_par2 ?_)
  | (with_reducible refine r_partI ?_)
  | (with_reducible refine s_lc ?_)
  | (with_reducible refine s_dc ?_)
  | (with_reducible refine r_yes ?_)
  | (with_reducible refine r_iZipA ?_)
  | (with_reducible refine r_isN ?_)
  | (with_reducible refine r_for ?_)
  | (with_reducible refine r_iList ?_)
  | (with_reducible refine r_iTup ?_)
  | (with_reducible refine r_iRng1 ?_)
  | (with_reducible refine r_iRng2 ?_)
  | (with_reducible refine r_iEnum ?_)
  | (with_reducible refine r_iZip ?_)
  | (with_reducible refine r_gName ?_)
  | (with_reducible refine r_isNV ?_)
  | (with_reducible refine r_notNV ?_)
  | (with_reducible refine r_bm ?_)
  | (with_reducible refine r_bm0 ?_)
  | (with_reducible refine r_sl ?_)
  | (with_reducible refine r_noPart ?_)
  | (with_reducible refine r_part ?_)
  | (with_reducible refine r_chain ?_)
  | (with_reducible refine r_iKeys ?_)
  | (with_reducible refine r_iItems ?_)
  | (with_reducible refine r_frz ?_)
  | (with_reducible refine r_dput ?_)
  | (with_reducible refine r_dget ?_)
  | (with_reducible refine r_din ?_)
  | (with_reducible refine r_dnotin ?_)
  | (with_reducible refine r_break ?_)
  | ((with_reducible refine' r_sIn ?h ?_); (case h => walk_at "hs"))
  | ((with_reducible refine' r_sNotIn ?h ?_); (case h => walk_at "hs"))
  | ((with_reducible refine' r_inI ?h ?_); (case h => walk_at "hl"))
  | ((with_reducible refine' r_notInI ?h ?_); (case h => walk_at "hl"))
  | ((with_reducible refine' r_eqNil ?h ?g ?_); (case h => walk_at "hl"); (case g => walk_at "hl"))
  | ((with_reducible refine' r_neNil ?h ?g ?_); (case h => walk_at "hl"); (case g => walk_at "hl"))
  | ((with_reducible refine' iteRT ?hh ?_); (case hh => exact rfl))
  | ((with_reducible refine' iteRF ?hh ?_); (case hh => exact rfl))
  | ((with_reducible refine' r_isiT ?ty ?hk ?_); (case ty => (first | assumption | exact tyx_L (by assumption) | exact tyx_T (by assumption) | exact .base (.non) | exact .base (.bl _) | exact .base (.int _) | exact .base (.str _) | exact tyx_L (by walk_at "hl") | exact tyx_T (by walk_at "hl"))); (case hk => decide +kernel))
  | ((with_reducible refine' r_isiF ?ty ?hk ?_); (case ty => (first | assumption | exact tyx_L (by assumption) | exact tyx_T (by assumption) | exact .base (.non) | exact .base (.bl _) | exact .base (.int _) | exact .base (.str _) | exact tyx_L (by walk_at "hl") | exact tyx_T (by walk_at "hl"))); (case hk => decide +kernel))
  | ((with_reducible refine' r_gTup2 ?hn ?hs ?_); (case hn => exact rfl); (case hs => walk_at "hl"))
  | ((with_reducible refine' s_list ?hl ?_); (case hl => first | exact Or.inl (by walk_at "hl") | exact Or.inr (by walk_at "hl")))
  | ((with_reducible refine' s_tupN ?hl ?_); (case hl => walk_at "hl"))
  | ((with_reducible refine' s_sortN ?hl ?_); (case hl => walk_at "hl"))
  | ((refine' ⟨_, _, rfl, ?hl, ?_⟩); (case hl => first | exact Or.inl (by walk_at "hl") | exact Or.inr (by walk_at "hl")))
  | ((with_reducible refine' r_ixL ?hl ?ha ?_); (case hl => walk_at "hl"); (case ha => first | exact rfl | assumption))
  | ((with_reducible refine' r_ixT ?hl ?ha ?_); (case hl => walk_at "hl"); (case ha => first | exact rfl | assumption))))
local macro_rules | `(tactic| walk_at "rd") => `(tactic| repeat (walk_at "rd1"))

section
variable {w : World} {K : PySem.W.Frag} {mg : Str → Option Value} {base : Heap}

def A_nums (K : PySem.W.Frag) : List Int → List V → Hp → Prop := fun ns vs F => ∃ a, vs = [.ref a] ∧ SqL K F a (ns.map V.int) ∧ (∀ n ∈ ns, Num60 n) ∧ ns.length ≤ 4000
def B_numsS : List Int → V → List (Addr × Cel) → Hp → Prop := fun ns v N _ => N = [] ∧ v = .str (numsS ns)
theorem ok_show_numbers (T : Env K mg) : FnOk P w K mg base CX0 1 T.a_show_numbers T.fd_show_numbers ["numbers"] (SpF (A_nums K) B_numsS) := by
  have nd := sc_show_numbers.nd
  refine T.F_show_numbers.ok sc_show_numbers (fun vs H Q E h => ?_) (fun cdv A outer s H vs Q E hr h => ?_)
  · obtain ⟨_, F, _, ⟨a, rfl, _⟩, _⟩ := h
    rfl
  · obtain ⟨ns, F, fr, ⟨a, rfl, hs, hn, few⟩, k⟩ := h
    have S := Sep.start0 fr
    refine ⟨_, (pss_one (ps_ret (pe_join pe_str (pe_lc (own := [("number", 1)]) (g := gName 1) (tt := tYes) (te := (tCB rStrI (tCons (tVar 1) tNil))) rfl nd (pi_list (pv 0)) (blkOk_by (N := ["numbers", "number"]) (sc := defScope s_show_numbers) (by decide +kernel)) (fun _ _ _ _ _ => (pg_name (i := 1) nd rfl (.inl rfl))) (fun _ _ _ _ _ => pts_nil) (fun _ _ _ _ _ => (pe_callTy call_str_int (by rfl) T.n_str (by decide +kernel) (pa_cons (pv 1) pa_nil))))))), ?_⟩
    walk_at "rd"
    refine r_m1s ?_
    walk_at "rd"
    refine ⟨a, rfl, ⟨_, by walk_at "hl"⟩, ?_⟩
    refine s_lcV (srcI hs) (fun _ => true) (fun n => .str (intS n)) S (by omega) (fun m hm => by cases hm) ?_ ?_
    · rintro j n x acc D F2 H2 vt S e2 rfl
      have mn := hn n (List.mem_of_getElem? vt.at')
      walk_at "rd"
      refine ⟨rfl, ?_⟩
      walk_at "rd"
      refine r_strI mn ?_
      exact vt.put S (by walk_at "ex") rfl rfl
    · intro D F2 H2 S e2
      rw [List.filter_eq_self.mpr (fun _ _ => rfl)] at S
      obtain ⟨F3, S, e3, c3⟩ := S.frz 0 rfl
      have fit := join_fit (ps := ns.map intS) (k := 60) fun p m => by
        obtain ⟨n, h1, rfl⟩ := List.mem_map.mp m
        exact (len_intS (hn n h1)).2
      rw [List.length_map] at fit
      refine ⟨blank, D, ns.map intS, rfl, rfl, .inl (by rw [List.map_map]; exact SqL.of (S.fr _ _ c3)), by rw [List.length_map]; omega, ?_⟩
      exact k _ [] _ _ S ⟨rfl, rfl⟩
def A_ties (K : PySem.W.Frag) : List (Int × Int) → List V → Hp → Prop := fun ts vs F => ∃ b ws, vs = [.ref b] ∧ SqT K F b ws ∧ DpAll K F ws (ts.map tieD) ∧ (∀ t ∈ ts, Num60 t.1 ∧ Num60 t.2) ∧ ts.length ≤ 4000
def B_tiesS : List (Int × Int) → V → List (Addr × Cel) → Hp → Prop := fun ts v N _ => N = [] ∧ v = .str (Txt.join blank (ts.map tieS))
theorem fit_ties {ts : List (Int × Int)} (hn : ∀ t ∈ ts, Num60 t.1 ∧ Num60 t.2) (few : ts.length ≤ 4000) : ((ts.map tieS).map (·.length)).sum + (ts.map tieS).length * blank.length ≤ 1000000 := by
  have fit := join_fit (ps := ts.map tieS) (k := 121) fun p m => by
    obtain ⟨t, h1, rfl⟩ := List.mem_map.mp m
    exact len_tie (hn t h1).1 (hn t h1).2
  rw [List.length_map] at *
  omega
theorem ok_show_ties (T : Env K mg) : FnOk P w K mg base CX0 1 T.a_show_ties T.fd_show_ties ["ties"] (SpF (A_ties K) B_tiesS) := by
  have nd := sc_show_ties.nd
  refine T.F_show_ties.ok sc_show_ties (fun vs H Q E h => ?_) (fun cdv A outer s H vs Q E hr h => ?_)
  · obtain ⟨_, F, _, ⟨a, _, rfl, _⟩, _⟩ := h
    rfl
  · obtain ⟨ts, F, fr, ⟨a, ws, rfl, hs, hd, hn, few⟩, k⟩ := h
    have S := Sep.start0 fr
    refine ⟨_, (pss_one (ps_ret (pe_join pe_str (pe_lc (own := [("one", 1), ("other", 2)]) (g := (gTup K 2 (gCons (gName 1) (gCons (gName 2) gNil)))) (tt := tYes) (te := (tJS [(tFmt (tVar 1)), (tC (.str "-")), (tFmt (tVar 2))])) rfl nd (pi_tup (pv 0)) (blkOk_by (N := ["ties", "one", "other"]) (sc := defScope s_show_ties) (by decide +kernel)) (fun _ _ _ _ _ => (pg_tup rfl (pgs_cons (pg_name (i := 1) nd rfl (.inl rfl)) (pgs_cons (pg_name (i := 2) nd rfl (.inl rfl)) pgs_nil)))) (fun _ _ _ _ _ => pts_nil) (fun _ _ _ _ _ => (pe_joined (PJ.cons (pe_fmt (pv 1)) (PJ.cons pe_str (PJ.cons (pe_fmt (pv 2)) PJ.nil))))))))), ?_⟩
    walk_at "rd"
    refine r_m1s ?_
    walk_at "rd"
    refine ⟨a, rfl, ⟨_, by walk_at "hl"⟩, ?_⟩
    refine s_lcV (srcDT (as := ts) (da := tieD) hs hd) (fun _ => true) (fun t => .str (tieS t)) S (by omega) (fun m hm => by cases hm) ?_ ?_
    · rintro j t x acc D F2 H2 vt S e2 hx
      have mn := hn t (List.mem_of_getElem? vt.at')
      obtain ⟨q, rfl, st⟩ := tieD_at hx
      have st' := Evl.ex_t S.fr st
      walk_at "rd"
      refine ⟨rfl, ?_⟩
      walk_at "rd"
      refine r_fsT (i := t.1) (j := t.2) rfl rfl (by decide +kernel) mn.1 mn.2 ?_
      exact vt.put S (by walk_at "ex") rfl rfl
    · intro D F2 H2 S e2
      rw [List.filter_eq_self.mpr (fun _ _ => rfl)] at S
      obtain ⟨F3, S, e3, c3⟩ := S.frz 0 rfl
      have fit := fit_ties hn few
      refine ⟨blank, D, ts.map tieS, rfl, rfl, .inl (by rw [List.map_map]; exact SqL.of (S.fr _ _ c3)), by omega, ?_⟩
      exact k _ [] _ _ S ⟨rfl, rfl⟩
def A_webS (K : PySem.W.Frag) : (Int × List (Int × Int)) → List V → Hp → Prop := fun | (many, ts), vs, F => ∃ v, vs = [v] ∧ Dp K F v (webD many ts) ∧ Num60 many ∧ (∀ t ∈ ts, Num60 t.1 ∧ Num60 t.2) ∧ ts.length ≤ 4000
def B_webS : (Int × List (Int × Int)) → V → List (Addr × Cel) → Hp → Prop := fun | (many, ts), v, N, _ => N = [] ∧ v = .str (webS many ts)
theorem ok_show_web (T : Env K mg) : FnOk P w K mg base CX0 2 T.a_show_web T.fd_show_web ["web"] (SpF (A_webS K) B_webS) := by
  have nd := sc_show_web.nd
  have G_show_ties : FnOk P w K mg base CX0 1 T.a_show_ties T.fd_show_ties ["ties"] (SpF (A_ties K) B_tiesS) := ok_show_ties T
  refine T.F_show_web.ok sc_show_web (fun vs H Q E h => ?_) (fun cdv A outer s H vs Q E hr h => ?_)
  · obtain ⟨⟨_, _⟩, F, _, ⟨v, rfl, _⟩, _⟩ := h
    rfl
  · obtain ⟨⟨many, ts⟩, F, fr, ⟨v, rfl, hv, hm, hn, few⟩, k⟩ := h
    have S := Sep.start0 fr
    obtain ⟨wa, wb, ws, rfl, s1, s2, s3⟩ := webD_at hv
    have wl := (dpAll_get s3).1
    rw [List.length_map] at wl
    have s1' := Evl.ex_t fr s1
    refine ⟨_, (pss_cons (ps_asg (pv 0) (pg_tup rfl (pgs_cons (pg_name (i := 1) nd rfl (.inl rfl)) (pgs_cons (pg_name (i := 2) nd rfl (.inl rfl)) pgs_nil))))
      (pss_cons (ps_if (pt_not (pt_truth (pv 2) (by intro _; rfl))) (pss_one (ps_ret (pe_callTy call_str_int (by rfl) T.n_str (by decide +kernel) (pa_cons (pv 1) pa_nil)))) pss_nil)
      (pss_one (ps_ret (pe_joined (PJ.cons (pe_fmt (pv 1)) (PJ.cons pe_str (PJ.cons (pe_fmt (pe_call G_show_ties (hr.mono (by decide)) (by rfl) T.g_show_ties T.F_show_ties.kp T.b_show_ties .nil pass0 (pa_cons (pv 2) pa_nil))) PJ.nil)))))))), ?_⟩
    walk_at "rd"
    refine ⟨_, .inr (.inl ⟨ws, Evl.ex_t S.fr s2, rfl⟩), ?_⟩
    by_cases e : ts = []
    · have e2 : ws = [] := List.eq_nil_of_length_eq_zero (by rw [wl, e]; rfl)
      rw [e2]
      walk_at "rd"
      refine r_strI hm ?_
      exact k _ [] _ _ S ⟨rfl, by unfold webS; rw [if_pos e]⟩
    · have e2 : ws ≠ [] := fun z => e (List.eq_nil_of_length_eq_zero (by rw [← wl, z]; rfl))
      rw [show ws.isEmpty = false by cases ws with | nil => exact absurd rfl e2 | cons _ _ => rfl]
      walk_at "rd"
      refine r_fsC (i := many) rfl (by decide +kernel) hm ?_
      refine r_js (r_fmt ?_)
      walk_at "rd"
      refine r_callF S ts ⟨wb, ws, rfl, s2, s3, hn, few⟩ ?_
      rintro v N F1 H1 S e1 ⟨rfl, rfl⟩
      have h1 := len_join (ps := ts.map tieS) (k := 121) (n := 4000) (fun p m => by
        obtain ⟨t, h1, rfl⟩ := List.mem_map.mp m
        exact len_tie (hn t h1).1 (hn t h1).2) (by rw [List.length_map]; exact few)
      have h2 := len_intS hm
      have hb : blank.length = 1 := rfl
      refine .inl ⟨_, rfl, by rw [sizeL]; omega, _, rfl, ?_, ?_⟩
      · rw [len_app, sizeL, show (Str.ofString " ") = blank from rfl, len_app]
        omega
      · exact k _ [] _ _ S ⟨rfl, by unfold webS; rw [if_neg e]; rfl⟩
def B_setS : List Int → V → List (Addr × Cel) → Hp → Prop := fun ns v N _ => N = [] ∧ v = .str (setS ns)
theorem ok_show_set (T : Env K mg) : FnOk P w K mg base CX0 2 T.a_show_set T.fd_show_set ["some"] (SpF (A_nums K) B_setS) := by
  have nd := sc_show_set.nd
  have G_show_numbers : FnOk P w K mg base CX0 1 T.a_show_numbers T.fd_show_numbers ["numbers"] (SpF (A_nums K) B_numsS) := ok_show_numbers T
  refine T.F_show_set.ok sc_show_set (fun vs H Q E h => ?_) (fun cdv A outer s H vs Q E hr h => ?_)
  · obtain ⟨_, F, _, ⟨a, rfl, _⟩, _⟩ := h
    rfl
  · obtain ⟨ns, F, fr, ⟨a, rfl, hs, hn, few⟩, k⟩ := h
    have S := Sep.start0 fr
    refine ⟨_, (pss_cons (ps_if (pt_not (pt_truth (pv 0) (by intro _; rfl))) (pss_one (ps_ret pe_str)) pss_nil)
      (pss_one (ps_ret (pe_call G_show_numbers (hr.mono (by decide)) (by rfl) T.g_show_numbers T.F_show_numbers.kp T.b_show_numbers .nil pass0 (pa_cons (pv 0) pa_nil))))), ?_⟩
    walk_at "rd"
    refine ⟨_, .inl ⟨_, Evl.ex_l S.fr hs, rfl⟩, ?_⟩
    cases ns with
    | nil =>
      walk_at "rd"
      exact k _ [] _ _ S ⟨rfl, rfl⟩
    | cons n r =>
      walk_at "rd"
      refine r_callF S (n :: r) ⟨a, rfl, hs, hn, few⟩ ?_
      rintro v N F1 H1 S e1 ⟨rfl, rfl⟩
      exact k _ [] _ _ S ⟨rfl, by unfold setS; rw [if_neg (by simp)]⟩
def A_frac (K : PySem.W.Frag) : (Int × Int) → List V → Hp → Prop := fun f vs F => ∃ v, vs = [v] ∧ Dp K F v (tieD f) ∧ Num60 f.1 ∧ Num60 f.2
def B_fracS : (Int × Int) → V → List (Addr × Cel) → Hp → Prop := fun f v N _ => N = [] ∧ v = .str (fracS f)
theorem ok_show_fraction (T : Env K mg) : FnOk P w K mg base CX0 1 T.a_show_fraction T.fd_show_fraction ["one"] (SpF (A_frac K) B_fracS) := by
  have nd := sc_show_fraction.nd
  refine T.F_show_fraction.ok sc_show_fraction (fun vs H Q E h => ?_) (fun cdv A outer s H vs Q E hr h => ?_)
  · obtain ⟨_, F, _, ⟨a, rfl, _⟩, _⟩ := h
    rfl
  · obtain ⟨f, F, fr, ⟨v, rfl, hv, h1, h2⟩, k⟩ := h
    have S := Sep.start0 fr
    obtain ⟨q, rfl, st⟩ := tieD_at hv
    have st' := Evl.ex_t fr st
    refine ⟨_, (pss_cons (ps_asg (pv 0) (pg_tup rfl (pgs_cons (pg_name (i := 1) nd rfl (.inl rfl)) (pgs_cons (pg_name (i := 2) nd rfl (.inl rfl)) pgs_nil))))
      (pss_cons (ps_if (pt_cmpR op_eq (pv 2) pe_int (nomark _)) (pss_one (ps_ret (pe_callTy call_str_int (by rfl) T.n_str (by decide +kernel) (pa_cons (pv 1) pa_nil)))) pss_nil)
      (pss_one (ps_ret (pe_joined (PJ.cons (pe_fmt (pv 1)) (PJ.cons pe_str (PJ.cons (pe_fmt (pv 2)) PJ.nil)))))))), ?_⟩
    walk_at "rd"
    refine iteB (fun c => ?_) (fun c => ?_)
    · walk_at "rd"
      refine r_strI h1 ?_
      exact k _ [] _ _ S ⟨rfl, by unfold fracS; rw [if_pos (of_decide_eq_true c)]⟩
    · walk_at "rd"
      refine r_fsT (i := f.1) (j := f.2) rfl rfl (by decide +kernel) h1 h2 ?_
      exact k _ [] _ _ S ⟨rfl, by unfold fracS; rw [if_neg (of_decide_eq_false c)]⟩
theorem r_fs2 {m : Str} {σ : L2.St} {H : Hp} {Q : VK} {p : Addr} {a : Nat} {f : Int × Int} {K : PySem.W.Frag} (ha : σ[a]? = some (some (.ref p))) (hp : SqT K H p [.int f.1, .int f.2]) (hm : m.length ≤ 1) (hi : Num60 f.1) (hj : Num60 f.2) (h : Q (.str ((intS f.1 ++ m) ++ intS f.2)) H) : tJs [tFmt (tOp (rIxT K) (tVar a) (tC (.int 0))), tC (.str m), tFmt (tOp (rIxT K) (tVar a) (tC (.int 1)))] Str.empty σ H fun out H1 => Q (.str out) H1 := by
  have l1 := len_intS hi
  have e0 : Str.empty ++ intS f.1 = intS f.1 := empty_app _
  have l2 := len_intS hj
  refine r_js (r_fmt (r_op (r_var ha (r_c (r_ixT hp rfl (.inr ⟨f.1, rfl, log_num hi, intS f.1, rfl, ?_, ?_⟩))))))
  · rw [e0, sizeL]; omega
  refine ⟨m, rfl, ?_, ?_⟩
  · rw [e0, len_app, sizeL]; omega
  refine r_js (r_fmt (r_op (r_var ha (r_c (r_ixT hp rfl (.inr ⟨f.2, rfl, log_num hj, intS f.2, rfl, ?_, ?_⟩))))))
  · rw [e0, len_app, len_app, sizeL]; omega
  · show Q (.str (((Str.empty ++ intS f.1) ++ m) ++ intS f.2)) H
    rw [e0]
    exact h
end

end
section
local macro_rules | `(tactic| walk_at "ex") => `(tactic| first | exact Evl.Ex.refl _ | assumption | ((refine' Evl.Ex.trans ?x ?y); (case y => assumption); (case x => walk_at "ex")))
local macro_rules | `(tactic| walk_at "hc") => `(tactic| first
  | assumption
  | ((refine' Sep.rdM ?S 0 ?k); (case S => assumption); (case k => exact rfl)) | ((refine' Sep.rdM ?S 1 ?k); (case S => assumption); (case k => exact rfl)) | ((refine' Sep.rdM ?S 2 ?k); (case S => assumption); (case k => exact rfl)) | ((refine' Sep.rdM ?S 3 ?k); (case S => assumption); (case k => exact rfl)) | ((refine' Sep.rdM ?S 4 ?k); (case S => assumption); (case k => exact rfl))
  | ((refine' Sep.rdC ?S ?e ?h); (case S => assumption); (case h => assumption); (case e => walk_at "ex")))
local macro_rules | `(tactic| walk_at "hl") => `(tactic| first
  | assumption
  | ((refine' SqL.of (Sep.rdM ?S 0 ?k)); (case S => assumption); (case k => exact rfl)) | ((refine' SqL.of (Sep.rdM ?S 1 ?k)); (case S => assumption); (case k => exact rfl)) | ((refine' SqL.of (Sep.rdM ?S 2 ?k)); (case S => assumption); (case k => exact rfl)) | ((refine' SqL.of (Sep.rdM ?S 3 ?k)); (case S => assumption); (case k => exact rfl)) | ((refine' SqL.of (Sep.rdM ?S 4 ?k)); (case S => assumption); (case k => exact rfl))
  | ((refine' Sep.rdL ?S ?e ?h); (case S => assumption); (case h => assumption); (case e => walk_at "ex"))
  | ((refine' Sep.rdT ?S ?e ?h); (case S => assumption); (case h => assumption); (case e => walk_at "ex"))
  | ((refine' SqL.of (Sep.rdC ?S ?e ?h)); (case S => assumption); (case h => assumption); (case e => walk_at "ex"))
  | ((refine' SqT.of (Sep.rdC ?S ?e ?h)); (case S => assumption); (case h => assumption); (case e => walk_at "ex"))
  | ((refine' SqL.of ?h); (case h => assumption)) | ((refine' SqT.of ?h); (case h => assumption))
  | ((refine' Evl.ex_l ?e ?h); (case h => assumption); (case e => walk_at "ex")) | ((refine' Evl.ex_t ?e ?h); (case h => assumption); (case e => walk_at "ex"))
  | ((refine' SqL.of (?e _ _ ?h)); (case h => assumption); (case e => walk_at "ex")) | ((refine' SqT.of (?e _ _ ?h)); (case h => assumption); (case e => walk_at "ex")))
local macro_rules | `(tactic| walk_at "hs") => `(tactic| walk_at "hc")
local macro_rules | `(tactic| walk_at "dp") => `(tactic| first
  | assumption
  | ((refine' Sep.rdD ?S ?e ?h); (case S => assumption); (case h => assumption); (case e => walk_at "ex"))
  | ((refine' Dp.ex ?e _ _ ?h); (case h => assumption); (case e => walk_at "ex"))
  | ((refine' DpAll.ex ?e _ _ ?h); (case h => assumption); (case e => walk_at "ex"))
  | (refine' dp_intsD ?h; (case h => walk_at "hl")))
local macro_rules | `(tactic| walk_at "rd1") => `(tactic| (first
  | (with_reducible refine r_seq ?_)
  | (with_reducible refine r_asg ?_)
  | (with_reducible refine r_asgG ?_)
  | (with_reducible refine r_par ?_)
  | (with_reducible refine r_if ?_)
  | (with_reducible refine r_ret ?_)
  | (with_reducible refine r_drop ?_)
  | (with_reducible refine r_next ?_)
  | ((with_reducible refine' r_var ?hx ?_); (case hx => exact rfl))
  | (with_reducible refine r_c ?_)
  | (with_reducible refine r_op ?_)
  | (with_reducible refine r_un ?_)
  | (with_reducible refine r_I0 ?_)
  | ((with_reducible refine' r_I ?_ ?_); (· first | (show (0 : Int) < _; omega) | exact Or.inr ⟨by omega, by omega⟩ | exact Or.inl ⟨by omega, by omega⟩ | exact ⟨by omega, by omega, by decide⟩))
  | (with_reducible refine r_U ?_)
  | (with_reducible refine r_test ?_)
  | (with_reducible refine r_B ?_)
  | (with_reducible refine r_bl ?_)
  | (with_reducible refine r_eqI ?_)
  | (with_reducible refine r_neI ?_)
  | ((with_reducible refine' r_eq ?_ ?_); (· exact rfl))
  | ((with_reducible refine' r_ne ?_ ?_); (· exact rfl))
  | (with_reducible refine r_nil ?_)
  | (with_reducible refine r_cons ?_)
  | (with_reducible refine s_tup ?_)
  | (with_reducible refine s_lst ?_)
  | (with_reducible refine r_call ?_)
  | (with_reducible refine r_cb ?_)
  | (with_reducible refine r_and ?_)
  | (with_reducible refine r_or ?_)
  | (with_reducible refine r_not ?_)
  | (with_reducible refine r_andV ?_)
  | (with_reducible refine r_orV ?_)
  | (with_reducible refine r_notV ?_)
  | (with_reducible refine r_ifE ?_)
  | (with_reducible refine r_gSub ?_)
  | (with_reducible refine r_sadd ?_)
  | (with_reducible refine s_lstRg ?_)
  | (with_reducible refine r_rg1 ?_)
  | (with_reducible refine r_min2 ?_)
  | (with_reducible refine r_par2 ?_)
  | (with_reducible refine r_partI ?_)
  | (with_reducible refine s_lc ?_)
  | (with_reducible refine s_dc ?_)
  | (with_reducible refine r_yes ?_)
  | (with_reducible refine r_iZipA ?_)
  | (with_reducible refine r_isN ?_)
  | (with_reducible refine r_for ?_)
  | (with_reducible refine r_iList ?_)
  | (with_reducible refine r_iTup ?_)
  | (with_reducible refine r_iRng1 ?_)
  | (with_reducible refine r_iRng2 ?_)
  | (with_reducible refine r_iEnum ?_)
  | (with_reducible refine r_iZip ?_)
  | (with_reducible refine r_gName ?_)
  | (with_reducible refine r_isNV ?_)
  | (with_reducible refine r_notNV ?_)
  | (with_reducible refine r_bm ?_)
  | (with_reducible refine r_bm0 ?_)
  | (with_reducible refine r_sl ?_)
  | (with_reducible refine r_noPart ?_)
  | (with_reducible refine r_part ?_)
  | (with_reducible refine r_chain ?_)
  | (with_reducible refine r_iKeys ?_)
  | (with_reducible refine r_iItems ?_)
  | (with_reducible refine r_frz ?_)
  | (with_reducible refine r_dput ?_)
  | (with_reducible refine r_dget ?_)
  | (with_reducible refine r_din ?_)
  | (with_reducible refine r_dnotin ?_)
  | (with_reducible refine r_break ?_)
  | ((with_reducible refine' r_sIn ?h ?_); (case h => walk_at "hs"))
  | ((with_reducible refine' r_sNotIn ?h ?_); (case h => walk_at "hs"))
  | ((with_reducible refine' r_inI ?h ?_); (case h => walk_at "hl"))
  | ((with_reducible refine' r_notInI ?h ?_); (case h => walk_at "hl"))
  | ((with_reducible refine' r_eqNil ?h ?g ?_); (case h => walk_at "hl"); (case g => walk_at "hl"))
  | ((with_reducible refine' r_neNil ?h ?g ?_); (case h => walk_at "hl"); (case g => walk_at "hl"))
  | ((with_reducible refine' iteRT ?hh ?_); (case hh => exact rfl))
  | ((with_reducible refine' iteRF ?hh ?_); (case hh => exact rfl))
  | ((with_reducible refine' r_isiT ?ty ?hk ?_); (case ty => (first | assumption | exact tyx_L (by assumption) | exact tyx_T (by assumption) | exact .base (.non) | exact .base (.bl _) | exact .base (.int _) | exact .base (.str _) | exact tyx_L (by walk_at "hl") | exact tyx_T (by walk_at "hl"))); (case hk => decide +kernel))
  | ((with_reducible refine' r_isiF ?ty ?hk ?_); (case ty => (first | assumption | exact tyx_L (by assumption) | exact tyx_T (by assumption) | exact .base (.non) | exact .base (.bl _) | exact .base (.int _) | exact .base (.str _) | exact tyx_L (by walk_at "hl") | exact tyx_T (by walk_at "hl"))); (case hk => decide +kernel))
  | ((with_reducible refine' r_gTup2 ?hn ?hs ?_); (case hn => exact rfl); (case hs => walk_at "hl"))
  | ((with_reducible refine' s_list ?hl ?_); (case hl => first | exact Or.inl (by walk_at "hl") | exact Or.inr (by walk_at "hl")))
  | ((with_reducible refine' s_tupN ?hl ?_); (case hl => walk_at "hl"))
  | ((with_reducible refine' s_sortN ?hl ?_); (case hl => walk_at "hl"))
  | ((refine' ⟨_, _, rfl, ?hl, ?_⟩); (case hl => first | exact Or.inl (by walk_at "hl") | exact Or.inr (by walk_at "hl")))
  | ((with_reducible refine' r_ixL ?hl ?ha ?_); (case hl => walk_at "hl"); (case ha => first | exact rfl | assumption))
  | ((with_reducible refine' r_ixT ?hl ?ha ?_); (case hl => walk_at "hl"); (case ha => first | exact rfl | assumption))))
local macro_rules | `(tactic| walk_at "rd") => `(tactic| repeat (walk_at "rd1"))

section
variable {w : World} {K : PySem.W.Frag} {mg : Str → Option Value} {base : Heap}

theorem ok_web {way m : Int} {ts : List (Int × Int)} (h : ThOk way (.web m ts)) : way = 0 ∧ WebOk m ts := by
  unfold ThOk at h
  split at h
  · rename_i e; cases e; exact ⟨rfl, h⟩
  · rename_i e; cases e
  · rename_i e; cases e
  · exact h.elim
theorem ok_set {way : Int} {ns : List Int} (h : ThOk way (.set ns)) : way = 1 ∧ NsOk ns := by
  unfold ThOk at h
  split at h
  · rename_i e; cases e
  · rename_i e; cases e; exact ⟨rfl, h⟩
  · rename_i e; cases e
  · exact h.elim
theorem ok_frac {way : Int} {f : Int × Int} (h : ThOk way (.frac f)) : way = 2 ∧ FrOk f := by
  unfold ThOk at h
  split at h
  · rename_i e; cases e
  · rename_i e; cases e
  · rename_i e; cases e; exact ⟨rfl, h⟩
  · exact h.elim
def A_th (K : PySem.W.Frag) : (Int × Thing) → List V → Hp → Prop := fun x vs F => ∃ v, vs = [.int x.1, v] ∧ Dp K F v (thD x.2) ∧ ThOk x.1 x.2
def B_thS : (Int × Thing) → V → List (Addr × Cel) → Hp → Prop := fun x v N _ => N = [] ∧ v = .str (thS x.2)
theorem ok_l_shown (T : Env K mg) : FnOk P w K mg base CX0 3 T.a__law_shown T.fd__law_shown ["way", "thing"] (SpF (A_th K) B_thS) := by
  have nd := sc__law_shown.nd
  have G_show_web : FnOk P w K mg base CX0 2 T.a_show_web T.fd_show_web ["web"] (SpF (A_webS K) B_webS) := ok_show_web T
  have G_show_set : FnOk P w K mg base CX0 2 T.a_show_set T.fd_show_set ["some"] (SpF (A_nums K) B_setS) := ok_show_set T
  have G_show_fraction : FnOk P w K mg base CX0 1 T.a_show_fraction T.fd_show_fraction ["one"] (SpF (A_frac K) B_fracS) := ok_show_fraction T
  refine T.F__law_shown.ok sc__law_shown (fun vs H Q E h => ?_) (fun cdv A outer s H vs Q E hr h => ?_)
  · obtain ⟨_, F, _, ⟨v, rfl, _⟩, _⟩ := h
    rfl
  · obtain ⟨⟨way, th⟩, F, fr, ⟨v, rfl, hv, ok⟩, k⟩ := h
    have S := Sep.start0 fr
    refine ⟨_, (pss_cons (ps_if (pt_cmpR op_eq (pv 0) pe_int (nomark _)) (pss_one (ps_ret (pe_call G_show_web (hr.mono (by decide)) (by rfl) T.g_show_web T.F_show_web.kp T.b_show_web .nil pass0 (pa_cons (pv 1) pa_nil)))) pss_nil)
      (pss_one (ps_ret (pe_ifExp (pt_cmpR op_eq (pv 0) pe_int (nomark _)) (pe_call G_show_set (hr.mono (by decide)) (by rfl) T.g_show_set T.F_show_set.kp T.b_show_set .nil pass0 (pa_cons (pv 1) pa_nil)) (pe_call G_show_fraction (hr.mono (by decide)) (by rfl) T.g_show_fraction T.F_show_fraction.kp T.b_show_fraction .nil pass0 (pa_cons (pv 1) pa_nil)))))), ?_⟩
    cases th with
    | web m ts =>
      obtain ⟨e, W⟩ := ok_web ok
      have e : way = 0 := e
      subst e
      obtain ⟨m60, t60⟩ := num_web W
      walk_at "rd"
      refine r_callF S (m, ts) ⟨v, rfl, hv, m60, t60, W.few⟩ ?_
      rintro v N F1 H1 S e1 ⟨rfl, rfl⟩
      exact k _ [] _ _ S ⟨rfl, rfl⟩
    | set ns =>
      obtain ⟨e, W⟩ := ok_set ok
      have e : way = 1 := e
      subst e
      obtain ⟨a, rfl, hs⟩ := intsD_at hv
      walk_at "rd"
      refine r_callF S ns ⟨a, rfl, hs, W.num, W.few⟩ ?_
      rintro v N F1 H1 S e1 ⟨rfl, rfl⟩
      exact k _ [] _ _ S ⟨rfl, rfl⟩
    | frac f =>
      obtain ⟨e, W⟩ := ok_frac ok
      have e : way = 2 := e
      subst e
      walk_at "rd"
      refine r_callF S f ⟨v, rfl, hv, W.one, W.two⟩ ?_
      rintro v N F1 H1 S e1 ⟨rfl, rfl⟩
      exact k _ [] _ _ S ⟨rfl, rfl⟩
def ReadAs (way : Int) (text : Str) (o : Option Thing) : Prop := (∀ T, o = some T → ThOk way T ∧ thS T = text) ∧ (o = none → ∀ T, ThOk way T → thS T ≠ text)
def oT : Option Thing → PyData
  | none => .none
  | some T => thD T
def A_lrd : (Int × Str) → List V → Hp → Prop := fun x vs _ => vs = [.int x.1, .str x.2] ∧ 0 ≤ x.1 ∧ x.1 ≤ 2 ∧ x.2.length ≤ 1000000 ∧ (x.1 = 0 → (wordsOf x.2).length ≤ 4001) ∧ (x.1 = 1 → (wordsOf x.2).length ≤ 4000)
def B_lrd (K : PySem.W.Frag) : (Int × Str) → V → List (Addr × Cel) → Hp → Prop := fun x v N F => N = [] ∧ ∃ o, ReadAs x.1 x.2 o ∧ Dp K F v (oT o)
theorem ok_l_read (T : Env K mg) : FnOk P w K mg base CX0 5 T.a__law_read T.fd__law_read ["way", "text"] (SpF A_lrd (B_lrd K)) := by
  have nd := sc__law_read.nd
  have G_read_web : FnOk P w K mg base (L2.CX P w) 4 T.a_read_web T.fd_read_web ["text"] (SpX (A_rd 4001) (B_rw K) (R_cls T.c_NoText fun text => webB (rawWeb text) = false)) := ok_read_web T
  have G_read_set : FnOk P w K mg base (L2.CX P w) 3 T.a_read_set T.fd_read_set ["text"] (SpX (A_rd 4000) (B_rs K) (R_cls T.c_NoText fun text => ∀ ns, NsOk ns → setS ns ≠ text)) := ok_read_set T
  have G_read_fraction : FnOk P w K mg base (L2.CX P w) 3 T.a_read_fraction T.fd_read_fraction ["text"] (SpX A_rt (B_rf K) (R_cls T.c_NoText fun text => ∀ f, FrOk f → fracS f ≠ text)) := ok_read_fraction T
  refine T.F__law_read.ok sc__law_read (fun vs H Q E h => ?_) (fun cdv A outer s H vs Q E hr h => ?_)
  · obtain ⟨_, F, _, ⟨rfl, _⟩, _⟩ := h
    rfl
  · obtain ⟨⟨way, text⟩, F, fr, ⟨rfl, w0, w2, lt, l0, l1⟩, k⟩ := h
    have S := Sep.start0 fr
    have w0 : 0 ≤ way := w0
    have w2 : way ≤ 2 := w2
    refine ⟨_, (pss_cons (ps_set (i := 2) nd rfl (.inl rfl) pe_non)
      (pss_cons (ps_try_only (Wout := fun _ _ _ _ => False) rfl rfl ⟨by rfl, by decide, .inl T.g_NoText⟩ takes0 (fun W pn xe tk _ => (pss_one (ps_if (pt_cmpR op_eq (pv 0) pe_int (nomark _)) (pss_one (ps_set (i := 2) nd rfl (.inl rfl) (pe_callS (E := WE W) G_read_web (hr.mono (by decide)) (by rfl) T.g_read_web T.F_read_web.kp T.b_read_web (passAt tk) (pa_cons (pv 1) pa_nil)))) (pss_one (ps_if (pt_cmpR op_eq (pv 0) pe_int (nomark _)) (pss_one (ps_set (i := 2) nd rfl (.inl rfl) (pe_callS (E := WE W) G_read_set (hr.mono (by decide)) (by rfl) T.g_read_set T.F_read_set.kp T.b_read_set (passAt tk) (pa_cons (pv 1) pa_nil)))) (pss_one (ps_set (i := 2) nd rfl (.inl rfl) (pe_callS (E := WE W) G_read_fraction (hr.mono (by decide)) (by rfl) T.g_read_fraction T.F_read_fraction.kp T.b_read_fraction (passAt tk) (pa_cons (pv 1) pa_nil))))))))) (fun a oe cls d pn _ _ => (pss_one (ps_set (i := 2) nd rfl (.inl rfl) pe_non))))
      (pss_one (ps_ret (pv 2))))), ?_⟩
    rcases (show way = 0 ∨ way = 1 ∨ way = 2 by omega) with e | e | e
    · subst e
      walk_at "rd"
      refine r_callS ?_
      walk_at "rd"
      refine r_callX S text ⟨rfl, lt, l0 rfl⟩ ?_ ?_
      · rintro v N F1 H1 S e1 ⟨rfl, b, hv⟩
        obtain ⟨m, ts, e, W⟩ := webB_ok b
        rw [e] at hv
        walk_at "rd"
        exact k _ [] _ _ S ⟨rfl, some (.web m ts), ⟨fun T q => by cases q; exact ⟨W, (rawWeb_web e).symm⟩, fun q => by cases q⟩, hv⟩
      · rintro c d F1 H1 S e1 ⟨rfl, rfl, b⟩
        refine ⟨true, T.es_NoText, fun _ a ha => ?_, fun z => by cases z⟩
        walk_at "rd"
        refine k _ [] _ _ S ⟨rfl, none, ⟨fun T q => (by cases q), fun _ T ok e => ?_⟩, .non⟩
        cases T with
        | web m ts =>
          have W := (ok_web ok).2
          have e : webS m ts = text := e
          have b : webB (rawWeb text) = false := b
          rw [← e, rawWeb_webS W, webB_web W] at b
          cases b
        | set ns => exact absurd (ok_set ok).1 (by show ¬ (0 : Int) = 1; omega)
        | frac f => exact absurd (ok_frac ok).1 (by show ¬ (0 : Int) = 2; omega)
    · subst e
      walk_at "rd"
      refine r_callS ?_
      walk_at "rd"
      refine r_callX S text ⟨rfl, lt, l1 rfl⟩ ?_ ?_
      · rintro v N F1 H1 S e1 ⟨rfl, ns, a, ok, e, rfl, hv⟩
        walk_at "rd"
        exact k _ [] _ _ S ⟨rfl, some (.set ns), ⟨fun T q => by cases q; exact ⟨ok, e⟩, fun q => by cases q⟩, dp_intsD hv⟩
      · rintro c d F1 H1 S e1 ⟨rfl, rfl, b⟩
        refine ⟨true, T.es_NoText, fun _ a ha => ?_, fun z => by cases z⟩
        walk_at "rd"
        refine k _ [] _ _ S ⟨rfl, none, ⟨fun T q => (by cases q), fun _ T ok e => ?_⟩, .non⟩
        cases T with
        | web m ts => exact absurd (ok_web ok).1 (by show ¬ (1 : Int) = 0; omega)
        | set ns => exact b ns (ok_set ok).2 e
        | frac f => exact absurd (ok_frac ok).1 (by show ¬ (1 : Int) = 2; omega)
    · subst e
      walk_at "rd"
      refine r_callS ?_
      walk_at "rd"
      refine r_callX S text ⟨rfl, lt⟩ ?_ ?_
      · rintro v N F1 H1 S e1 ⟨rfl, f, ok, e, hv⟩
        walk_at "rd"
        exact k _ [] _ _ S ⟨rfl, some (.frac f), ⟨fun T q => by cases q; exact ⟨ok, e⟩, fun q => by cases q⟩, hv⟩
      · rintro c d F1 H1 S e1 ⟨rfl, rfl, b⟩
        refine ⟨true, T.es_NoText, fun _ a ha => ?_, fun z => by cases z⟩
        walk_at "rd"
        refine k _ [] _ _ S ⟨rfl, none, ⟨fun T q => (by cases q), fun _ T ok e => ?_⟩, .non⟩
        cases T with
        | web m ts => exact absurd (ok_web ok).1 (by show ¬ (2 : Int) = 0; omega)
        | set ns => exact absurd (ok_set ok).1 (by show ¬ (2 : Int) = 1; omega)
        | frac f => exact b f (ok_frac ok).2 e
def small : Thing → Prop
  | .set ns => ns.length ≤ 60
  | _ => True
def A_isit (K : PySem.W.Frag) : (Int × Thing) → List V → Hp → Prop := fun x vs F => A_th K x vs F ∧ small x.2
def B_yes {α : Type} : α → V → List (Addr × Cel) → Hp → Prop := fun _ v N _ => N = [] ∧ v = .bl true
theorem up_uniq : ∀ {a b : List Int}, a.Pairwise (· < ·) → b.Pairwise (· < ·) → (∀ x, x ∈ a ↔ x ∈ b) → a = b
  | [], [], _, _, _ => rfl
  | [], y :: b, _, _, h => absurd ((h y).2 List.mem_cons_self) (by simp)
  | x :: a, [], _, _, h => absurd ((h x).1 List.mem_cons_self) (by simp)
  | x :: a, y :: b, ha, hb, h => by
    have pa := List.pairwise_cons.mp ha
    have pb := List.pairwise_cons.mp hb
    have e : x = y := by
      rcases List.mem_cons.mp ((h x).1 List.mem_cons_self) with e | m
      · exact e
      · rcases List.mem_cons.mp ((h y).2 List.mem_cons_self) with e | m2
        · exact e.symm
        · have := pb.1 x m; have := pa.1 y m2; omega
    subst e
    have hr : ∀ z, z ∈ a ↔ z ∈ b := fun z => by
      constructor
      · intro m
        rcases List.mem_cons.mp ((h z).1 (List.mem_cons_of_mem _ m)) with e | q
        · subst e; have := pa.1 z m; omega
        · exact q
      · intro m
        rcases List.mem_cons.mp ((h z).2 (List.mem_cons_of_mem _ m)) with e | q
        · subst e; have := pb.1 z m; omega
        · exact q
    rw [up_uniq pa.2 pb.2 hr]
theorem ok_l_is_it (T : Env K mg) : FnOk P w K mg base CX0 4 T.a__law_is_it T.fd__law_is_it ["way", "thing"] (SpF (A_isit K) B_yes) := by
  have nd := sc__law_is_it.nd
  have G_is_web : FnOk P w K mg base CX0 3 T.a_is_web T.fd_is_web ["thing"] (SpF (A_isweb K) B_isweb) := ok_is_web T
  have G__law_common : FnOk P w K mg base CX0 1 T.a__law_common T.fd__law_common ["one", "other"] (SpF A_com B_com) := ok_l_common T
  refine T.F__law_is_it.ok sc__law_is_it (fun vs H Q E h => ?_) (fun cdv A outer s H vs Q E hr h => ?_)
  · obtain ⟨_, F, _, ⟨⟨v, rfl, _⟩, _⟩, _⟩ := h
    rfl
  · obtain ⟨⟨way, th⟩, F, fr, ⟨⟨v, rfl, hv, ok⟩, sm⟩, k⟩ := h
    have S := Sep.start0 fr
    refine ⟨_, (pss_cons (ps_if (pt_cmpR op_eq (pv 0) pe_int (nomark _)) (pss_one (ps_ret (pe_call G_is_web (hr.mono (by decide)) (by rfl) T.g_is_web T.F_is_web.kp T.b_is_web .nil pass0 (pa_cons (pv 1) pa_nil)))) pss_nil)
      (pss_cons (ps_if (pt_cmpR op_eq (pv 0) pe_int (nomark _)) (pss_one (ps_ret (pe_cmpR (op_eqD hr.units) (pv 1) (pe_callB (cr_sortedSet rfl) (by rfl) T.n_sorted (by decide +kernel) (pa_cons (pe_callTy (cr_setN4 rfl) (by rfl) T.n_set (by decide +kernel) (pa_cons (pv 1) pa_nil)) pa_nil)) (nomark _)))) pss_nil)
      (pss_one (ps_ret (pe_and (pe_cmpR op_gt (pe_ix ix_tup (pv 1) pe_int (fun _ _ => rfl)) pe_int (nomark _)) (pe_and (pe_cmpR op_ge (pe_ix ix_tup (pv 1) pe_int (fun _ _ => rfl)) pe_int (nomark _)) (pe_one (pe_cmpR op_eq (pe_call G__law_common (hr.mono (by decide)) (by rfl) T.g__law_common T.F__law_common.kp T.b__law_common .nil pass0 (pa_cons (pe_ix ix_tup (pv 1) pe_int (fun _ _ => rfl)) (pa_cons (pe_ix ix_tup (pv 1) pe_int (fun _ _ => rfl)) pa_nil))) pe_int (nomark _))))))))), ?_⟩
    cases th with
    | web m ts =>
      obtain ⟨e, W⟩ := ok_web ok
      have e : way = 0 := e
      subst e
      walk_at "rd"
      refine r_callF S (webD m ts) ⟨v, rfl, hv, by show (ts.map tieD).length ≤ 4000; rw [List.length_map]; exact W.few⟩ ?_
      rintro v N F1 H1 S e1 ⟨rfl, rfl⟩
      exact k _ [] _ _ S ⟨rfl, by rw [webB_web W]⟩
    | set ns =>
      obtain ⟨e, W⟩ := ok_set ok
      have e : way = 1 := e
      subst e
      obtain ⟨a, rfl, hs⟩ := intsD_at hv
      have sm : ns.length ≤ 60 := sm
      walk_at "rd"
      refine s_setN4 S (Evl.ex_l S.fr hs) W.few fun q n F1 H1 hn S e1 c1 => ?_
      walk_at "rd"
      refine ⟨q, _, n, rfl, S.fr _ _ c1, by omega, fun ns' p up mem ln hp => ?_⟩
      obtain ⟨F2, S, e2, c2⟩ := s_push (o := .lst (ns'.map V.int)) S hp
      have en : ns' = ns := up_uniq up W.up fun x => by rw [mem x]; exact decide_eq_true_iff
      rw [en] at c2
      refine r_eqInts (a := ns) (b := ns) (Evl.ex_l S.fr (Evl.ex_l (e1.trans e2) hs)) (SqL.of (S.fr _ _ c2)) ?_
      exact k _ [] _ _ S ⟨rfl, by rw [decide_eq_true rfl]⟩
    | frac f =>
      obtain ⟨e, W⟩ := ok_frac ok
      have e : way = 2 := e
      subst e
      obtain ⟨q, rfl, st⟩ := tieD_at hv
      have st' := Evl.ex_t fr st
      have p1 := W.one.1
      have p2 := W.pos
      walk_at "rd"
      rw [show decide (0 < f.2) = true from decide_eq_true p2]
      walk_at "rd"
      rw [show decide (0 ≤ f.1) = true from decide_eq_true p1]
      walk_at "rd"
      refine r_callF S f ⟨rfl, p1, by omega⟩ ?_
      rintro v N F1 H1 S e1 ⟨rfl, rfl⟩
      rw [W.cop]
      walk_at "rd"
      exact k _ [] _ _ S ⟨rfl, rfl⟩

end

end
section
local macro_rules | `(tactic| walk_at "ex") => `(tactic| first | exact Evl.Ex.refl _ | assumption | ((refine' Evl.Ex.trans ?x ?y); (case y => assumption); (case x => walk_at "ex")))
local macro_rules | `(tactic| walk_at "hc") => `(tactic| first
  | assumption
  | ((refine' Sep.rdM ?S 0 ?k); (case S => assumption); (case k => exact rfl)) | ((refine' Sep.rdM ?S 1 ?k); (case S => assumption); (case k => exact rfl)) | ((refine' Sep.rdM ?S 2 ?k); (case S => assumption); (case k => exact rfl)) | ((refine' Sep.rdM ?S 3 ?k); (case S => assumption); (case k => exact rfl)) | ((refine' Sep.rdM ?S 4 ?k); (case S => assumption); (case k => exact rfl))
  | ((refine' Sep.rdC ?S ?e ?h); (case S => assumption); (case h => assumption); (case e => walk_at "ex")))
local macro_rules | `(tactic| walk_at "hl") => `(tactic| first
  | assumption
  | ((refine' SqL.of (Sep.rdM ?S 0 ?k)); (case S => assumption); (case k => exact rfl)) | ((refine' SqL.of (Sep.rdM ?S 1 ?k)); (case S => assumption); (case k => exact rfl)) | ((refine' SqL.of (Sep.rdM ?S 2 ?k)); (case S => assumption); (case k => exact rfl)) | ((refine' SqL.of (Sep.rdM ?S 3 ?k)); (case S => assumption); (case k => exact rfl)) | ((refine' SqL.of (Sep.rdM ?S 4 ?k)); (case S => assumption); (case k => exact rfl))
  | ((refine' Sep.rdL ?S ?e ?h); (case S => assumption); (case h => assumption); (case e => walk_at "ex"))
  | ((refine' Sep.rdT ?S ?e ?h); (case S => assumption); (case h => assumption); (case e => walk_at "ex"))
  | ((refine' SqL.of (Sep.rdC ?S ?e ?h)); (case S => assumption); (case h => assumption); (case e => walk_at "ex"))
  | ((refine' SqT.of (Sep.rdC ?S ?e ?h)); (case S => assumption); (case h => assumption); (case e => walk_at "ex"))
  | ((refine' SqL.of ?h); (case h => assumption)) | ((refine' SqT.of ?h); (case h => assumption))
  | ((refine' Evl.ex_l ?e ?h); (case h => assumption); (case e => walk_at "ex")) | ((refine' Evl.ex_t ?e ?h); (case h => assumption); (case e => walk_at "ex"))
  | ((refine' SqL.of (?e _ _ ?h)); (case h => assumption); (case e => walk_at "ex")) | ((refine' SqT.of (?e _ _ ?h)); (case h => assumption); (case e => walk_at "ex")))
local macro_rules | `(tactic| walk_at "hs") => `(tactic| walk_at "hc")
local macro_rules | `(tactic| walk_at "dp") => `(tactic| first
  | assumption
  | ((refine' Sep.rdD ?S ?e ?h); (case S => assumption); (case h => assumption); (case e => walk_at "ex"))
  | ((refine' Dp.ex ?e _ _ ?h); (case h => assumption); (case e => walk_at "ex"))
  | ((refine' DpAll.ex ?e _ _ ?h); (case h => assumption); (case e => walk_at "ex"))
  | (refine' dp_intsD ?h; (case h => walk_at "hl")))
local macro_rules | `(tactic| walk_at "rd1") => `(tactic| (first
  | (with_reducible refine r_seq ?_)
  | (with_reducible refine r_asg ?_)
  | (with_reducible refine r_asgG ?_)
  | (with_reducible refine r_par ?_)
  | (with_reducible refine r_if ?_)
  | (with_reducible refine r_ret ?_)
  | (with_reducible refine r_drop ?_)
  | (with_reducible refine r_next ?_)
  | ((with_reducible refine' r_var ?hx ?_); (case hx => exact rfl))
  | (with_reducible refine r_c ?_)
  | (with_reducible refine r_op ?_)
  | (with_reducible refine r_un ?_)
  | (with_reducible refine r_I0 ?_)
  | ((with_reducible refine' r_I ?_ ?_); (· first | (show (0 : Int) < _; omega) | exact Or.inr ⟨by omega, by omega⟩ | exact Or.inl ⟨by omega, by omega⟩ | exact ⟨by omega, by omega, by decide⟩))
  | (with_reducible refine r_U ?_)
  | (with_reducible refine r_test ?_)
  | (with_reducible refine r_B ?_)
  | (with_reducible refine r_bl ?_)
  | (with_reducible refine r_eqI ?_)
  | (with_reducible refine r_neI ?_)
  | ((with_reducible refine' r_eq ?_ ?_); (· exact rfl))
  | ((with_reducible refine' r_ne ?_ ?_); (· exact rfl))
  | (with_reducible refine r_nil ?_)
  | (with_reducible refine r_cons ?_)
  | (with_reducible refine s_tup ?_)
  | (with_reducible refine s_lst ?_)
  | (with_reducible refine r_call ?_)
  | (with_reducible refine r_cb ?_)
  | (with_reducible refine r_and ?_)
  | (with_reducible refine r_or ?_)
  | (with_reducible refine r_not ?_)
  | (with_reducible refine r_andV ?_)
  | (with_reducible refine r_orV ?_)
  | (with_reducible refine r_notV ?_)
  | (with_reducible refine r_ifE ?_)
  | (with_reducible refine r_gSub ?_)
  | (with_reducible refine r_sadd ?_)
  | (with_reducible refine s_lstRg ?_)
  | (with_reducible refine r_rg1 ?_)
  | (with_reducible refine r_min2 ?_)
  | (with_reducible refine r_par2 ?_)
  | (with_reducible refine r_partI ?_)
  | (with_reducible refine s_lc ?_)
  | (with_reducible refine s_dc ?_)
  | (with_reducible refine r_yes ?_)
  | (with_reducible refine r_iZipA ?_)
  | (with_reducible refine r_isN ?_)
  | (with_reducible refine r_for ?_)
  | (with_reducible refine r_iList ?_)
  | (with_reducible refine r_iTup ?_)
  | (with_reducible refine r_iRng1 ?_)
  | (with_reducible refine r_iRng2 ?_)
  | (with_reducible refine r_iEnum ?_)
  | (with_reducible refine r_iZip ?_)
  | (with_reducible refine r_gName ?_)
  | (with_reducible refine r_isNV ?_)
  | (with_reducible refine r_notNV ?_)
  | (with_reducible refine r_bm ?_)
  | (with_reducible refine r_bm0 ?_)
  | (with_reducible refine r_sl ?_)
  | (with_reducible refine r_noPart ?_)
  | (with_reducible refine r_part ?_)
  | (with_reducible refine r_chain ?_)
  | (with_reducible refine r_iKeys ?_)
  | (with_reducible refine r_iItems ?_)
  | (with_reducible refine r_frz ?_)
  | (with_reducible refine r_dput ?_)
  | (with_reducible refine r_dget ?_)
  | (with_reducible refine r_din ?_)
  | (with_reducible refine r_dnotin ?_)
  | (with_reducible refine r_break ?_)
  | ((with_reducible refine' r_sIn ?h ?_); (case h => walk_at "hs"))
  | ((with_reducible refine' r_sNotIn ?h ?_); (case h => walk_at "hs"))
  | ((with_reducible refine' r_inI ?h ?_); (case h => walk_at "hl"))
  | ((with_reducible refine' r_notInI ?h ?_); (case h => walk_at "hl"))
  | ((with_reducible refine' r_eqNil ?h ?g ?_); (case h => walk_at "hl"); (case g => walk_at "hl"))
  | ((with_reducible refine' r_neNil ?h ?g ?_); (case h => walk_at "hl"); (case g => walk_at "hl"))
  | ((with_reducible refine' iteRT ?hh ?_); (case hh => exact rfl))
  | ((with_reducible refine' iteRF ?hh ?_); (case hh => exact rfl))
  | ((with_reducible refine' r_isiT ?ty ?hk ?_); (case ty => (first | assumption | exact tyx_L (by assumption) | exact tyx_T (by assumption) | exact .base (.non) | exact .base (.bl _) | exact .base (.int _) | exact .base (.str _) | exact tyx_L (by walk_at "hl") | exact tyx_T (by walk_at "hl"))); (case hk => decide +kernel))
  | ((with_reducible refine' r_isiF ?ty ?hk ?_); (case ty => (first | assumption | exact tyx_L (by assumption) | exact tyx_T (by assumption) | exact .base (.non) | exact .base (.bl _) | exact .base (.int _) | exact .base (.str _) | exact tyx_L (by walk_at "hl") | exact tyx_T (by walk_at "hl"))); (case hk => decide +kernel))
  | ((with_reducible refine' r_gTup2 ?hn ?hs ?_); (case hn => exact rfl); (case hs => walk_at "hl"))
  | ((with_reducible refine' s_list ?hl ?_); (case hl => first | exact Or.inl (by walk_at "hl") | exact Or.inr (by walk_at "hl")))
  | ((with_reducible refine' s_tupN ?hl ?_); (case hl => walk_at "hl"))
  | ((with_reducible refine' s_sortN ?hl ?_); (case hl => walk_at "hl"))
  | ((refine' ⟨_, _, rfl, ?hl, ?_⟩); (case hl => first | exact Or.inl (by walk_at "hl") | exact Or.inr (by walk_at "hl")))
  | ((with_reducible refine' r_ixL ?hl ?ha ?_); (case hl => walk_at "hl"); (case ha => first | exact rfl | assumption))
  | ((with_reducible refine' r_ixT ?hl ?ha ?_); (case hl => walk_at "hl"); (case ha => first | exact rfl | assumption))))
local macro_rules | `(tactic| walk_at "rd") => `(tactic| repeat (walk_at "rd1"))

section
variable {w : World} {K : PySem.W.Frag} {mg : Str → Option Value} {base : Heap}

theorem wcut2 {α : Type} (l : List α) (n : Nat) : (l.take n ++ l.drop (n + 1)).Sublist l := by
  have := List.Sublist.append (List.Sublist.refl (l.take n)) (show (l.drop (n + 1)).Sublist (l.drop n) by
    rw [show l.drop (n + 1) = (l.drop n).drop 1 by rw [List.drop_drop]]
    exact List.drop_sublist _ _)
  rw [List.take_append_drop] at this
  exact this
theorem web_cutk {many : Int} {ties : List (Int × Int)} (W : WebOk many ties) (n : Nat) (kk : Int) (h : kk = 0 ∨ (kk = 1 ∧ many < 60)) : WebOk (many + kk) (ties.take n ++ ties.drop (n + 1)) := by
  have lo := W.lo
  have hi := W.hi
  exact ⟨by omega, by omega, fun t ht => by have := W.ok t ((wcut2 ties n).subset ht); omega, W.up.sublist (wcut2 ties n)⟩
theorem ns_cut {ns : List Int} (W : NsOk ns) (n : Nat) : NsOk (ns.take n ++ ns.drop (n + 1)) :=
  ⟨fun x m => W.num x ((wcut2 ns n).subset m), W.up.sublist (wcut2 ns n), Nat.le_trans (wcut2 ns n).length_le W.few⟩
def A_lot (K : PySem.W.Frag) : (Int × Thing) → List V → Hp → Prop := fun x vs F => A_isit K x vs F
def B_lot (K : PySem.W.Frag) : (Int × Thing) → V → List (Addr × Cel) → Hp → Prop := fun x v N F => N = [] ∧ ∃ T, ThOk x.1 T ∧ Dp K F v (thD T)
theorem ok_l_other (T : Env K mg) : FnOk P w K mg base CX0 5 T.a__law_other T.fd__law_other ["pot", "way", "thing"] (SpP (A_lot K) (B_lot K)) := by
  have nd := sc__law_other.nd
  have G__law_pick : FnOk P w K mg base CX0 2 T.a__law_pick T.fd__law_pick ["pot", "many"] (SpP A_pick B_pick) := ok_l_pick T
  have G__law_fraction : FnOk P w K mg base CX0 3 T.a__law_fraction T.fd__law_fraction ["pot"] (SpP A_lfr (B_lfr K)) := ok_l_fraction T
  refine T.F__law_other.ok sc__law_other (fun vs H Q E h => ?_) (fun cdv A outer s H vs Q E hr h => ?_)
  · obtain ⟨x, F, p, r, rfl, _, _, _, ⟨⟨v, rfl, _⟩, _⟩, _⟩ := h
    rfl
  · obtain ⟨⟨way, th⟩, F, p, r, rfl, fr, hF, hP, ⟨⟨v, rfl, hv, ok⟩, sm⟩, k⟩ := h
    have S := Sep.startP fr hF hP
    refine ⟨_, (pss_cons (ps_if (pt_cmpR op_eq (pv 1) pe_int (nomark _)) (pss_one (ps_ret (pe_call G__law_fraction (hr.mono (by decide)) (by rfl) T.g__law_fraction T.F__law_fraction.kp T.b__law_fraction .nil pass0 (pa_cons (pv 0) pa_nil)))) pss_nil)
      (pss_cons (ps_if (pt_cmpR op_eq (pv 1) pe_int (nomark _)) (pss_cons (ps_set (i := 3) nd rfl (.inl rfl) (pe_call G__law_pick (hr.mono (by decide)) (by rfl) T.g__law_pick T.F__law_pick.kp T.b__law_pick .nil pass0 (pa_cons (pv 0) (pa_cons (pe_op op_add (pe_callB call_len_seq (by rfl) T.n_len PySem.boot_len (pa_cons (pv 2) pa_nil)) pe_int) pa_nil))))
      (pss_one (ps_ret (pe_op op_cat (pe_slice sl_list (pv 2) po_none (po_some (pv 3))) (pe_slice sl_list (pv 2) (po_some (pe_op op_add (pv 3) pe_int)) po_none))))) pss_nil)
      (pss_cons (ps_set (i := 3) nd rfl (.inl rfl) (pe_call G__law_pick (hr.mono (by decide)) (by rfl) T.g__law_pick T.F__law_pick.kp T.b__law_pick .nil pass0 (pa_cons (pv 0) (pa_cons (pe_op op_add (pe_callB call_len_seq (by rfl) T.n_len PySem.boot_len (pa_cons (pe_ix ix_tup (pv 2) pe_int (fun _ _ => rfl)) pa_nil)) pe_int) pa_nil))))
      (pss_one (ps_ret (pe_tup (pa_cons (pe_op op_add (pe_ix ix_tup (pv 2) pe_int (fun _ _ => rfl)) (pe_callTy call_int1 (by rfl) T.n_int (by decide +kernel) (pa_cons (pe_and (pe_cmpR op_eq (pv 3) (pe_callB call_len_seq (by rfl) T.n_len PySem.boot_len (pa_cons (pe_ix ix_tup (pv 2) pe_int (fun _ _ => rfl)) pa_nil)) (nomark _)) (pe_one (pe_cmpR op_lt (pe_ix ix_tup (pv 2) pe_int (fun _ _ => rfl)) pe_int (nomark _)))) pa_nil))) (pa_cons (pe_op op_catTG (pe_slice sl_tupA (pe_ix ix_tup (pv 2) pe_int (fun _ _ => rfl)) po_none (po_some (pv 3))) (pe_slice sl_tupA (pe_ix ix_tup (pv 2) pe_int (fun _ _ => rfl)) (po_some (pe_op op_add (pv 3) pe_int)) po_none)) pa_nil)))))))), ?_⟩
    cases th with
    | frac f =>
      obtain ⟨e, W⟩ := ok_frac ok
      have e : way = 2 := e
      subst e
      walk_at "rd"
      refine r_callP S 0 rfl () rfl ?_
      rintro v' N F1 H1 S e1 ⟨rfl, f', fo, hf⟩
      exact k _ [] _ _ S ⟨rfl, .frac f', fo, hf⟩
    | set ns =>
      obtain ⟨e, W⟩ := ok_set ok
      have e : way = 1 := e
      subst e
      obtain ⟨a, rfl, hs⟩ := intsD_at hv
      have sm : ns.length ≤ 60 := sm
      walk_at "rd"
      refine r_callP S 0 rfl _ ⟨rfl, by rw [List.length_map]; omega, small_up (by rw [List.length_map]; omega) (by rw [List.length_map]; omega)⟩ fun v N F1 H1 S e1 ⟨z, at', ev, a0, a1⟩ => ?_
      subst z ev
      have hs1 := Evl.ex_l e1 hs
      walk_at "rd"
      refine s_slL (Evl.ex_l S.fr hs1) ?_
      rw [cutV_to a0]
      refine s_new S fun y1 F2 H2 S e2 c2 => ?_
      walk_at "rd"
      refine s_slL (Evl.ex_l S.fr (Evl.ex_l e2 hs1)) ?_
      rw [cutV_from (by omega)]
      refine s_new S fun y2 F3 H3 S e3 c3 => ?_
      refine s_cat (S.fr _ _ (e3 _ _ c2)) (S.fr _ _ c3) (by rw [List.length_take, List.length_drop, List.length_map]; omega) (s_new S fun y3 F4 H4 S e4 c4 => ?_)
      rw [show (at' + 1).toNat = at'.toNat + 1 by omega, ← List.map_take, ← List.map_drop, ← List.map_append] at c4
      exact k _ [] _ _ S ⟨rfl, .set _, ns_cut W at'.toNat, dp_intsD (SqL.of c4)⟩
    | web m ts =>
      obtain ⟨e, W⟩ := ok_web ok
      have e : way = 0 := e
      subst e
      have few := W.few
      obtain ⟨wa, wb, ws, rfl, s1, s2, s3⟩ := webD_at hv
      have wl := (dpAll_get s3).1
      rw [List.length_map] at wl
      walk_at "rd"
      refine r_callP S 0 rfl _ ⟨rfl, by omega, small_up (by omega) (by omega)⟩ fun v N F1 H1 S e1 ⟨z, at', ev, a0, a1⟩ => ?_
      subst z ev
      have s1 := Evl.ex_t e1 s1
      have s2 := Evl.ex_t e1 s2
      have s3 := DpAll.ex e1 _ _ s3
      walk_at "rd"
      refine iteB (fun c1 => ?_) (fun c1 => ?_)
      · walk_at "rd"
        refine .inr ⟨_, rfl, ?_⟩
        walk_at "rd"
        refine s_cutT S s2 fun u1 F9 H9 S e9 hu1 => ?_
        rw [cutV_to a0] at hu1
        have s2' := Evl.ex_t e9 s2
        have s1' := Evl.ex_t e9 s1
        walk_at "rd"
        refine s_cutT S s2' fun u2 F10 H10 S e10 hu2 => ?_
        rw [cutV_from (by omega)] at hu2
        have hu1' := Evl.ex_t e10 hu1
        rw [show (at' + 1).toNat = at'.toNat + 1 by omega] at hu2
        refine s_catA S hu1' hu2 (by rw [List.length_take, List.length_drop]; omega) fun f F11 H11 S e11 hf => ?_
        have E11 := e9.trans (e10.trans e11)
        have dp : DpAll K F11 (ws.take at'.toNat ++ ws.drop (at'.toNat + 1)) ((ts.take at'.toNat ++ ts.drop (at'.toNat + 1)).map tieD) := by
          rw [List.map_append, List.map_take, List.map_drop]
          exact dpAll_app (dpAll_take _ (DpAll.ex E11 _ _ s3)) (dpAll_drop _ (DpAll.ex E11 _ _ s3))
        walk_at "rd"
        refine ⟨(by show 2 ≤ sizeLine; decide), s_new S fun fw F12 H12 S e12 c12 => ?_⟩
        exact k _ [] _ _ S ⟨rfl, .web _ _, web_cutk W at'.toNat _ (by by_cases q : m < 60 <;> simp [q]), .tup (SqT.of c12) (.cons (.int _) (.cons (.tup (Evl.ex_t e12 hf) (DpAll.ex e12 _ _ dp)) .nil))⟩
      · walk_at "rd"
        refine .inr ⟨_, rfl, ?_⟩
        walk_at "rd"
        refine s_cutT S s2 fun u1 F9 H9 S e9 hu1 => ?_
        rw [cutV_to a0] at hu1
        have s2' := Evl.ex_t e9 s2
        have s1' := Evl.ex_t e9 s1
        walk_at "rd"
        refine s_cutT S s2' fun u2 F10 H10 S e10 hu2 => ?_
        rw [cutV_from (by omega)] at hu2
        have hu1' := Evl.ex_t e10 hu1
        rw [show (at' + 1).toNat = at'.toNat + 1 by omega] at hu2
        refine s_catA S hu1' hu2 (by rw [List.length_take, List.length_drop]; omega) fun f F11 H11 S e11 hf => ?_
        have E11 := e9.trans (e10.trans e11)
        have dp : DpAll K F11 (ws.take at'.toNat ++ ws.drop (at'.toNat + 1)) ((ts.take at'.toNat ++ ts.drop (at'.toNat + 1)).map tieD) := by
          rw [List.map_append, List.map_take, List.map_drop]
          exact dpAll_app (dpAll_take _ (DpAll.ex E11 _ _ s3)) (dpAll_drop _ (DpAll.ex E11 _ _ s3))
        walk_at "rd"
        refine ⟨(by show 2 ≤ sizeLine; decide), s_new S fun fw F12 H12 S e12 c12 => ?_⟩
        exact k _ [] _ _ S ⟨rfl, .web _ _, web_cutk W at'.toNat _ (by simp), .tup (SqT.of c12) (.cons (.int _) (.cons (.tup (Evl.ex_t e12 hf) (DpAll.ex e12 _ _ dp)) .nil))⟩
theorem eqvAll_tiesB : ∀ a b : List (Int × Int), PyData.eqvAll (a.map tieD) (b.map tieD) = decide (a = b)
  | [], [] => by simp [PyData.eqvAll]
  | [], _ :: _ => by simp [PyData.eqvAll]
  | _ :: _, [] => by simp [PyData.eqvAll]
  | x :: a, y :: b => by
    rw [List.map_cons, List.map_cons, PyData.eqvAll, eqvAll_tiesB a b, eqv_tie]
    by_cases h1 : x = y <;> by_cases h2 : a = b <;> simp [h1, h2]
theorem eqv_webD (m1 m2 : Int) (t1 t2 : List (Int × Int)) : PyData.eqv (webD m1 t1) (webD m2 t2) = (decide (m1 = m2) && decide (t1 = t2)) := by
  unfold webD
  rw [PyData.eqv, PyData.eqvAll, PyData.eqvAll, PyData.eqv, PyData.eqv, eqvAll_tiesB, PyData.eqvAll, Bool.and_true]
  congr 1
theorem shaped_web (m : Int) (t : List (Int × Int)) : SeqAt.shaped (webD m t) = true := by
  have h1 : PyData.canLayAll0 (t.map tieD) = true := by
    induction t with
    | nil => rfl
    | cons x r ih => simp [PyData.canLayAll0, PyData.canLay0, tieD, ih]
  have h2 : PyData.depthAll (t.map tieD) ≤ 1 := by
    clear h1
    induction t with
    | nil => simp [PyData.depthAll]
    | cons x r ih =>
      rw [List.map_cons, PyData.depthAll, tieD_depth]
      omega
  unfold SeqAt.shaped webD
  simp [PyData.canLay0, PyData.canLayAll0, PyData.depth, PyData.depthAll, h1]
  omega
theorem shaped_th : ∀ T : Thing, SeqAt.shaped (thD T) = true
  | .web m ts => shaped_web m ts
  | .set ns => shaped_ints ns
  | .frac f => shaped_tie f
theorem eqv_th {way : Int} {a b : Thing} (ha : ThOk way a) (hb : ThOk way b) : PyData.eqv (thD a) (thD b) = decide (thS a = thS b) := by
  by_cases h : thS a = thS b
  · rw [decide_eq_true h, th_inj ha hb h, SeqAt.eqv_refl _ (SeqAt.canLay_of_shaped (shaped_th b))]
  · rw [decide_eq_false h, Bool.eq_false_iff]
    intro z
    refine h ?_
    cases a with
    | web m ts =>
      have e := (ok_web ha).1
      cases b with
      | web m2 ts2 =>
        have z : PyData.eqv (webD m ts) (webD m2 ts2) = true := z
        rw [eqv_webD, Bool.and_eq_true, decide_eq_true_eq, decide_eq_true_eq] at z
        rw [z.1, z.2]
      | set ns => have := (ok_set hb).1; omega
      | frac f => have := (ok_frac hb).1; omega
    | set ns =>
      have e := (ok_set ha).1
      cases b with
      | web m2 ts2 => have := (ok_web hb).1; omega
      | set ns2 =>
        have z : PyData.eqv (intsD ns) (intsD ns2) = true := z
        rw [eqv_ints, decide_eq_true_eq] at z
        rw [z]
      | frac f => have := (ok_frac hb).1; omega
    | frac f =>
      have e := (ok_frac ha).1
      cases b with
      | web m2 ts2 => have := (ok_web hb).1; omega
      | set ns => have := (ok_set hb).1; omega
      | frac f2 =>
        have z : PyData.eqv (tieD f) (tieD f2) = true := z
        rw [eqv_tie, decide_eq_true_eq] at z
        rw [z]
theorem th_ref {F : Hp} {v : V} {T : Thing} (h : Dp K F v (thD T)) : decide (v = V.non) = false := by
  refine decide_eq_false fun e => ?_
  subst e
  cases T with
  | web m ts => cases h
  | set ns => cases h
  | frac f => cases h
theorem txt_ok {way : Int} {T : Thing} (h : ThOk way T) : 0 ≤ way ∧ way ≤ 2 ∧ (thS T).length ≤ 1000000 ∧ (way = 0 → (wordsOf (thS T)).length ≤ 4001) ∧ (way = 1 → (wordsOf (thS T)).length ≤ 4000) := by
  cases T with
  | web m ts =>
    obtain ⟨e, W⟩ := ok_web h
    obtain ⟨hm, hn⟩ := num_web W
    have l := len_web hm hn W.few
    have few := W.few
    refine ⟨by omega, by omega, Nat.le_trans l (by decide), fun _ => ?_, fun z => by omega⟩
    show (Txt.split (webS m ts) blank).length ≤ 4001
    rw [split_web hm.1 fun t q => ⟨(hn t q).1.1, (hn t q).2.1⟩, List.length_cons, List.length_map]
    omega
  | set ns =>
    obtain ⟨e, W⟩ := ok_set h
    have l := len_set W.num W.few
    refine ⟨by omega, by omega, Nat.le_trans l (by decide), fun z => by omega, fun _ => ?_⟩
    show (Txt.split (setS ns) blank).length ≤ 4000
    by_cases z : ns = []
    · subst z
      have := PyProof.Rows.split_le (setS []) blank
      have e : (setS []).length = 4 := by decide +kernel
      omega
    · unfold setS
      rw [if_neg z, split_nums (fun n q => (W.num n q).1) z, List.length_map]
      exact W.few
  | frac f =>
    obtain ⟨e, W⟩ := ok_frac h
    have l := len_frac W.one W.two
    exact ⟨by omega, by omega, by show (fracS f).length ≤ 1000000; omega, fun z => by omega, fun z => by omega⟩
theorem set_small {ns : List Int} (W : NsOk ns) (h : (setS ns).length ≤ 8) : ns.length ≤ 60 := by
  by_cases z : ns = []
  · rw [z]; decide
  · unfold setS at h
    rw [if_neg z] at h
    have s := PyProof.Rows.split_le (numsS ns) blank
    rw [split_nums (fun n q => (W.num n q).1) z, List.length_map] at s
    omega
theorem len_glue {ws : List Str} (h : ∀ w ∈ ws, w.length = 1) (l : ws.length ≤ 8) : (Txt.join ("" : Str) ws).length ≤ 8 := by
  rw [TL.len_tl, TL.join_eq, TL.tl_join]
  refine Nat.le_trans (len_joinL _ _) ?_
  have e : TL.tl ("" : Str) = [] := rfl
  have := sum_le List.length 1 (ws.map TL.tl) fun x m => by
    obtain ⟨p, h1, rfl⟩ := List.mem_map.mp m
    rw [← TL.len_tl, h p h1]
    exact Nat.le_refl _
  rw [List.length_map] at this ⊢
  rw [e, List.length_nil]
  omega
def sp_law (K : PySem.W.Frag) : Sp := fun vs H Q _ => ∃ (a : Addr) (ns : List Int), vs = [.ref a] ∧ SqL K H a (ns.map V.int) ∧ ns.length ≤ 63 ∧ ∀ H', Q (.bl true) H'
theorem ok_law {f : Addr} {fd : FuncData} (T : Env K mg) (F : Fun K "law" "law" s_law f fd) : FnOk P w K mg base CX0 10 f fd ["script"] (sp_law K) := by
  have nd := sc_law.nd
  have G__law_pot : FnOk P w K mg base CX0 1 T.a__law_pot T.fd__law_pot ["script"] (SpF (A_pot K) B_pot) := ok_l_pot T
  have G__law_drawn_web : FnOk P w K mg base CX0 5 T.a__law_drawn_web T.fd__law_drawn_web ["pot", "most"] (SpP A_web (B_web K)) := ok_l_drawn_web T
  have G__law_houses : FnOk P w K mg base CX0 3 T.a__law_houses T.fd__law_houses ["pot", "many"] (SpP A_lho B_lho) := ok_l_houses T
  have G__law_fraction : FnOk P w K mg base CX0 3 T.a__law_fraction T.fd__law_fraction ["pot"] (SpP A_lfr (B_lfr K)) := ok_l_fraction T
  have G__law_shown : FnOk P w K mg base CX0 3 T.a__law_shown T.fd__law_shown ["way", "thing"] (SpF (A_th K) B_thS) := ok_l_shown T
  have G__law_other : FnOk P w K mg base CX0 5 T.a__law_other T.fd__law_other ["pot", "way", "thing"] (SpP (A_lot K) (B_lot K)) := ok_l_other T
  have G__law_read : FnOk P w K mg base CX0 5 T.a__law_read T.fd__law_read ["way", "text"] (SpF A_lrd (B_lrd K)) := ok_l_read T
  have G__law_is_it : FnOk P w K mg base CX0 4 T.a__law_is_it T.fd__law_is_it ["way", "thing"] (SpF (A_isit K) B_yes) := ok_l_is_it T
  have G__law_pick : FnOk P w K mg base CX0 2 T.a__law_pick T.fd__law_pick ["pot", "many"] (SpP A_pick B_pick) := ok_l_pick T
  refine F.ok sc_law (fun vs H Q E h => ?_) (fun cdv A outer s H vs Q E hr h => ?_)
  · obtain ⟨a, ns, rfl, _⟩ := h
    rfl
  · obtain ⟨a, ns, rfl, hS, hn, k⟩ := h
    have S := Sep.start0 (Evl.Ex.refl H)
    refine ⟨_, (pss_cons (ps_set (i := 1) nd rfl (.inr rfl) (pe_call G__law_pot (hr.mono (by decide)) (by rfl) T.g__law_pot T.F__law_pot.kp T.b__law_pot .nil pass0 (pa_cons (pv 0) pa_nil)))
      (pss_cons (ps_for PassesOwn.never rfl (pi_range1 (by rfl) T.n_range (pa_cons pe_int pa_nil)) (pg_name (i := 2) nd rfl (.inl rfl)) (pss_cons (ps_set (i := 3) nd rfl (.inl rfl) (pe_lst (pa_cons (pe_call G__law_drawn_web (hr.mono (by decide)) (by rfl) T.g__law_drawn_web T.F__law_drawn_web.kp T.b__law_drawn_web .nil pass0 (pa_cons (pv 1) (pa_cons (pe_ix ix_list (pe_lst (pa_cons pe_int (pa_cons pe_int (pa_cons pe_int (pa_cons pe_int pa_nil))))) (pv 2) (fun _ _ => rfl)) pa_nil))) (pa_cons (pe_call G__law_houses (hr.mono (by decide)) (by rfl) T.g__law_houses T.F__law_houses.kp T.b__law_houses .nil pass0 (pa_cons (pv 1) (pa_cons pe_int pa_nil))) (pa_cons (pe_call G__law_fraction (hr.mono (by decide)) (by rfl) T.g__law_fraction T.F__law_fraction.kp T.b__law_fraction .nil pass0 (pa_cons (pv 1) pa_nil)) pa_nil)))))
      (pss_cons (ps_for PassesOwn.never rfl (pi_enum (by rfl) T.n_enumerate (pa_cons (pv 3) pa_nil)) (pg_tup rfl (pgs_cons (pg_name (i := 4) nd rfl (.inl rfl)) (pgs_cons (pg_name (i := 5) nd rfl (.inl rfl)) pgs_nil))) (pss_cons (ps_set (i := 6) nd rfl (.inl rfl) (pe_call G__law_shown (hr.mono (by decide)) (by rfl) T.g__law_shown T.F__law_shown.kp T.b__law_shown .nil pass0 (pa_cons (pv 4) (pa_cons (pv 5) pa_nil))))
      (pss_cons (ps_if (PW.pt (pw_or (pt_cmpR (op_neD hr.units) (pe_call G__law_read (hr.mono (by decide)) (by rfl) T.g__law_read T.F__law_read.kp T.b__law_read .nil pass0 (pa_cons (pv 4) (pa_cons (pv 6) pa_nil))) (pv 5) (nomark _)) (pw_or1 (pt_not (pt_val (pe_call G__law_is_it (hr.mono (by decide)) (by rfl) T.g__law_is_it T.F__law_is_it.kp T.b__law_is_it .nil pass0 (pa_cons (pv 4) (pa_cons (pe_call G__law_read (hr.mono (by decide)) (by rfl) T.g__law_read T.F__law_read.kp T.b__law_read .nil pass0 (pa_cons (pv 4) (pa_cons (pv 6) pa_nil))) pa_nil)))))))) (pss_one (ps_ret pe_bl)) pss_nil)
      (pss_cons (ps_set (i := 7) nd rfl (.inl rfl) (pe_call G__law_other (hr.mono (by decide)) (by rfl) T.g__law_other T.F__law_other.kp T.b__law_other .nil pass0 (pa_cons (pv 1) (pa_cons (pv 4) (pa_cons (pv 5) pa_nil)))))
      (pss_one (ps_if (pt_cmpR op_ne (pe_cmpR op_eq (pe_call G__law_shown (hr.mono (by decide)) (by rfl) T.g__law_shown T.F__law_shown.kp T.b__law_shown .nil pass0 (pa_cons (pv 4) (pa_cons (pv 7) pa_nil))) (pv 6) (nomark _)) (pe_cmpR (op_eqD hr.units) (pv 7) (pv 5) (nomark _)) (nomark _)) (pss_one (ps_ret pe_bl)) pss_nil))))))
      (pss_cons (ps_set (i := 6) nd rfl (.inl rfl) (pe_join pe_str (pe_lc (own := [("k", 9)]) (g := gName 9) (tt := tYes) (te := (tOp rIxS (tC (.str "0123456789--// ")) (tCall (SpP A_pick B_pick) [] E0 (tCons (tVar 1) (tCons (tC (.int 15)) tNil))))) rfl nd (pi_range1 (by rfl) T.n_range (pa_cons (pe_op op_add pe_int (pe_call G__law_pick (hr.mono (by decide)) (by rfl) T.g__law_pick T.F__law_pick.kp T.b__law_pick .nil pass0 (pa_cons (pv 1) (pa_cons pe_int pa_nil)))) pa_nil)) (blkOk_by (N := ["script", "pot", "turn", "things", "way", "thing", "text", "other", "found", "k"]) (sc := defScope s_law) (by decide +kernel)) (fun _ _ _ _ _ => (pg_name (i := 9) nd rfl (.inl rfl))) (fun _ _ _ _ _ => pts_nil) (fun _ _ _ _ _ => (pe_ix ix_str pe_str (pe_call G__law_pick (hr.mono (by decide)) (by rfl) T.g__law_pick T.F__law_pick.kp T.b__law_pick .nil pass0 (pa_cons (pv 1) (pa_cons pe_int pa_nil))) (fun _ _ => rfl))))))
      (pss_one (ps_for PassesOwn.never rfl (pi_range1 (by rfl) T.n_range (pa_cons pe_int pa_nil)) (pg_name (i := 4) nd rfl (.inl rfl)) (pss_cons (ps_set (i := 8) nd rfl (.inl rfl) (pe_call G__law_read (hr.mono (by decide)) (by rfl) T.g__law_read T.F__law_read.kp T.b__law_read .nil pass0 (pa_cons (pv 4) (pa_cons (pv 6) pa_nil))))
      (pss_one (ps_if (PW.pt (pw_and (pt_cmpR op_notN (pv 8) pe_non (nomark _)) (pw_and1 (PW.pt (pw_or (pt_cmpR op_ne (pe_call G__law_shown (hr.mono (by decide)) (by rfl) T.g__law_shown T.F__law_shown.kp T.b__law_shown .nil pass0 (pa_cons (pv 4) (pa_cons (pv 8) pa_nil))) (pv 6) (nomark _)) (pw_or1 (pt_not (pt_val (pe_call G__law_is_it (hr.mono (by decide)) (by rfl) T.g__law_is_it T.F__law_is_it.kp T.b__law_is_it .nil pass0 (pa_cons (pv 4) (pa_cons (pv 8) pa_nil))))))))))) (pss_one (ps_ret pe_bl)) pss_nil)))))))))
      (pss_one (ps_ret pe_bl)))), ?_⟩
    walk_at "rd"
    refine r_callF S ns ⟨a, rfl, hS, hn⟩ ?_
    rintro v N F1 H1 S e1 ⟨p, rfl, rfl⟩
    walk_at "rd"
    refine ⟨4, rfl, by omega, by omega, ?_⟩
    refine s_forR (fun i σ' F' M' => ∃ x2 x3 x4 x5 x6 x7 x8 x9 : Option V, σ' = [some (.ref a), some (.ref p), x2, x3, x4, x5, x6, x7, x8, x9] ∧ M' = [(p, .pot)]) S ⟨none, none, none, none, none, none, none, none, rfl, rfl⟩ ?_ ?_
    · rintro i σ' F2 H2 M' hi S e2 ⟨x2, x3, x4, x5, x6, x7, x8, x9, rfl, rfl⟩
      obtain ⟨u, hu, hu1, hu2⟩ : ∃ u : Int, atI [V.int 60, V.int 12, V.int 6, V.int 6] (0 + (i : Int)) = some (.int u) ∧ 1 ≤ u ∧ u ≤ 60 := by
        have hi : i < 4 := hi
        rcases (show i = 0 ∨ i = 1 ∨ i = 2 ∨ i = 3 by omega) with e | e | e | e <;> subst e
        · exact ⟨60, rfl, by omega, by omega⟩
        · exact ⟨12, rfl, by omega, by omega⟩
        · exact ⟨6, rfl, by omega, by omega⟩
        · exact ⟨6, rfl, by omega, by omega⟩
      walk_at "rd"
      refine ⟨(by show 4 ≤ sizeLine; decide), s_new S fun l1 F3 H3 S e3 c1 => ?_⟩
      walk_at "rd"
      refine r_callP S 0 rfl u ⟨rfl, hu1, hu2⟩ ?_
      rintro v N F4 H4 S e4 ⟨rfl, many, ts, hm, W, hw⟩
      have E4 := e2.trans (e3.trans e4)
      clear e2 e3 e4 c1
      walk_at "rd"
      refine r_callP S 0 rfl 9 ⟨rfl, by omega, by omega⟩ ?_
      rintro v6 N F6 H6 S e6 ⟨sq, ss, rfl, rfl, s60, sup, sl⟩
      obtain ⟨F7, S, e7, c7⟩ := S.frz 0 rfl
      walk_at "rd"
      refine r_callP S 0 rfl () rfl ?_
      rintro v' N F8 H8 S e8 ⟨rfl, f, fo, hf⟩
      walk_at "rd"
      refine ⟨(by show 3 ≤ sizeLine; decide), s_new S fun tl F9 H9 S e9 c9 => ?_⟩
      have hw := Dp.ex (e6.trans (e7.trans (e8.trans e9))) _ _ hw
      have hs := SqL.of (K := K) ((e8.trans e9) _ _ c7)
      have hf := Dp.ex e9 _ _ hf
      have E9 := E4.trans (e6.trans (e7.trans (e8.trans e9)))
      have cell : ∀ (n : Nat) (x : V), ([v, .ref sq, v'] : List V)[n]? = some x → ∃ T, ThOk (n : Int) T ∧ small T ∧ Dp K F9 x (thD T) := fun n x hx => by
        match n, hx with
        | 0, hx => cases hx; exact ⟨.web many ts, W, trivial, hw⟩
        | 1, hx => cases hx; exact ⟨.set ss, ⟨s60, sup, by omega⟩, sl, dp_intsD hs⟩
        | 2, hx => cases hx; exact ⟨.frac f, fo, trivial, hf⟩
        | n + 3, hx => cases hx
      have ctl := SqL.of (K := K) c9
      clear e6 e7 e8 e9 c7 c9 hw hs hf E4
      walk_at "rd"
      refine ⟨tl, _, rfl, Evl.ex_l S.fr ctl, ?_⟩
      refine s_for (fun j σ' F' M' => ∃ y4 y5 y6 y7 : Option V, σ' = [some (.ref a), some (.ref p), some (.int (0 + (i : Int))), some (.ref tl), y4, y5, y6, y7, x8, x9] ∧ M' = [(p, .pot)]) (srcE (K := K) ctl) S ⟨x4, x5, x6, x7, rfl, rfl⟩ (fun _ _ _ _ _ m hm => by cases hm) ?_ ?_
      · rintro j pr x σ' F10 F11 H10 M' hj S e10 e11 ⟨tq, rfl, ct⟩ ⟨y4, y5, y6, y7, rfl, rfl⟩
        obtain ⟨px, pn⟩ := pr
        rw [List.getElem?_zipIdx] at hj
        obtain ⟨hx, rfl⟩ : ([v, .ref sq, v'] : List V)[j]? = some px ∧ pn = j := by
          cases q : ([v, .ref sq, v'] : List V)[j]? with
          | none => rw [q] at hj; cases hj
          | some z => rw [q] at hj; cases hj; exact ⟨rfl, by omega⟩
        obtain ⟨T, ok, sm, hT⟩ := cell _ _ hx
        have ct' := SqT.of (K := K) (S.fr _ _ ct)
        have hT := Dp.ex (e10.trans e11) _ _ hT
        obtain ⟨t0, t2, tlen, tw0, tw1⟩ := txt_ok ok
        walk_at "rd"
        refine r_callF S ((pn : Int), T) ⟨_, rfl, hT, ok⟩ ?_
        rintro _ N G1 H11 S g1 ⟨rfl, rfl⟩
        have hT := Dp.ex g1 _ _ hT
        walk_at "rd"
        refine r_callF S ((pn : Int), thS T) ⟨rfl, t0, t2, tlen, tw0, tw1⟩ ?_
        rintro rv N G2 H12 S g2 ⟨rfl, o, ro, hr⟩
        obtain ⟨T', rfl⟩ : ∃ T', o = some T' := by
          cases o with
          | none => exact absurd rfl (ro.2 rfl T ok)
          | some T' => exact ⟨T', rfl⟩
        obtain ⟨ok', sh'⟩ := ro.1 T' rfl
        have eT := th_inj ok' ok sh'
        subst eT
        have hT := Dp.ex g2 _ _ hT
        walk_at "rd"
        refine ⟨thD T', thD T', Dp.ex S.fr _ _ hr, Dp.ex S.fr _ _ hT, shaped_th T', shaped_th T', ?_⟩
        rw [SeqAt.eqv_refl _ (SeqAt.canLay_of_shaped (shaped_th T'))]
        walk_at "rd"
        refine r_callF S ((pn : Int), thS T') ⟨rfl, t0, t2, tlen, tw0, tw1⟩ ?_
        rintro rv2 N G3 H13 S g3 ⟨rfl, o2, ro2, hr2⟩
        obtain ⟨T2, rfl⟩ : ∃ T', o2 = some T' := by
          cases o2 with
          | none => exact absurd rfl (ro2.2 rfl T' ok)
          | some T' => exact ⟨T', rfl⟩
        obtain ⟨ok2, sh2⟩ := ro2.1 T2 rfl
        have eT2 := th_inj ok2 ok sh2
        subst eT2
        have hT := Dp.ex g3 _ _ hT
        walk_at "rd"
        refine r_callF S ((pn : Int), T2) ⟨⟨_, rfl, hr2, ok⟩, sm⟩ ?_
        rintro _ N G4 H14 S g4 ⟨rfl, rfl⟩
        have hT := Dp.ex g4 _ _ hT
        walk_at "rd"
        refine r_callP S 0 rfl ((pn : Int), T2) ⟨⟨_, rfl, hT, ok⟩, sm⟩ ?_
        rintro ov N G5 H15 S g5 ⟨rfl, T3, ok3, hO⟩
        have hT := Dp.ex g5 _ _ hT
        walk_at "rd"
        refine r_callF S ((pn : Int), T3) ⟨_, rfl, hO, ok3⟩ ?_
        rintro _ N G6 H16 S g6 ⟨rfl, rfl⟩
        have hT := Dp.ex g6 _ _ hT
        have hO := Dp.ex g6 _ _ hO
        walk_at "rd"
        refine ⟨thD T3, thD T2, Dp.ex S.fr _ _ hO, Dp.ex S.fr _ _ hT, shaped_th T3, shaped_th T2, ?_⟩
        rw [eqv_th ok3 ok]
        walk_at "rd"
        rw [show (decide (V.bl (decide (V.str (thS ((pn : Int), T3).2) = V.str (thS ((pn : Int), T2).2))) = V.bl (decide (thS T3 = thS T2)))) = true from decide_eq_true (congrArg V.bl (decide_eq_decide.mpr ⟨V.str.inj, fun e => congrArg V.str e⟩))]
        walk_at "rd"
        exact ⟨_, _, S, (e10.trans e11).trans (g1.trans (g2.trans (g3.trans (g4.trans (g5.trans g6))))), _, _, _, _, rfl, rfl⟩
      · rintro σ' F10 H10 M' S e10 ⟨y4, y5, y6, y7, rfl, rfl⟩
        have E10 := E9.trans e10
        clear cell ctl
        walk_at "rd"
        refine r_m1s ?_
        walk_at "rd"
        refine r_callP S 0 rfl 8 ⟨rfl, by omega, small_up (by omega) (by omega)⟩ fun v N F11 H11 S e11 ⟨z, nn, ev, n0, n1⟩ => ?_
        subst z ev
        walk_at "rd"
        refine ⟨_, rfl, by omega, by omega, ?_⟩
        refine s_lcI srcR (fun i acc F' M' => M' = [(p, .pot)] ∧ ∃ ws : List Str, acc = ws.map V.str ∧ ws.length = i ∧ ∀ w' ∈ ws, w'.length = 1) S ⟨rfl, [], rfl, rfl, fun _ m => (by cases m)⟩ (fun _ _ _ _ _ m hm => by cases hm) ?_ ?_
        · rintro m x' x acc D F12 F13 H12 M' hm S e12 e13 rfl ⟨rfl, ws, rfl, wl, w1⟩
          have g1 := (List.getElem?_eq_some_iff.mp hm).1
          rw [List.length_map, List.length_range] at g1
          walk_at "rd"
          refine ⟨rfl, ?_⟩
          walk_at "rd"
          refine r_callP S 1 rfl 15 ⟨rfl, by omega, small_up (by omega) (by omega)⟩ fun v N F14 H14 S e14 ⟨z, ch, ev, hc0, hc1⟩ => ?_
          subst z ev
          have l15 : (TL.tl ("0123456789--// " : Str)).length = 15 := by decide +kernel
          obtain ⟨u, hu⟩ : ∃ u, (TL.tl ("0123456789--// " : Str))[ch.toNat]? = some u := ⟨_, List.getElem?_eq_getElem (by omega)⟩
          have hu' : atI (("0123456789--// " : Str)).cps.toList ch = some u := by
            have := atI_nat hu
            rw [Int.toNat_of_nonneg hc0] at this
            exact this
          refine ⟨_, _, u, rfl, rfl, by decide +kernel, hu', ?_⟩
          refine CI.put S (e12.trans (e13.trans e14)) (by rw [List.length_map]; omega) ⟨rfl, ws ++ [{ cps := #[u] }], by rw [List.map_append]; rfl, by rw [List.length_append, wl]; rfl, fun w' m => ?_⟩
          rcases List.mem_append.mp m with m | m
          · exact w1 w' m
          · rw [List.mem_singleton.mp m]; rfl
        · rintro D acc F12 H12 M' S e12 ⟨rfl, ws, rfl, wl, w1⟩
          rw [List.length_map, List.length_range] at wl
          obtain ⟨F13, S, e13, c13⟩ := S.frz 0 rfl
          have ls := sum_le (·.length) 1 ws fun x m => by rw [w1 x m]; exact Nat.le_refl _
          have lz : ("" : Str).length = 0 := rfl
          refine ⟨("" : Str), D, ws, rfl, rfl, .inl (SqL.of (S.fr _ _ c13)), by rw [lz]; omega, ?_⟩
          have tl8 := len_glue (ws := ws) w1 (by omega)
          generalize Txt.join ("" : Str) ws = text at *
          have words : (wordsOf text).length ≤ 10 := by
            have := PyProof.Rows.split_le text blank
            show (Txt.split text blank).length ≤ 10
            omega
          have E13 := E10.trans (e11.trans (e12.trans e13))
          clear e11 e12 e13 c13
          walk_at "rd"
          refine ⟨3, rfl, by omega, by omega, ?_⟩
          refine s_forR (fun j σ' F' M' => ∃ y4 y8 : Option V, σ' = [some (.ref a), some (.ref p), some (.int (0 + (i : Int))), some (.ref tl), y4, y5, some (.str text), y7, y8, x9] ∧ M' = [(p, .pot)]) S ⟨y4, x8, rfl, rfl⟩ ?_ ?_
          · rintro j σ' F14 H14 M' hj S e14 ⟨z4, z8, rfl, rfl⟩
            walk_at "rd"
            refine r_callF S (0 + (j : Int), text) ⟨rfl, by show 0 ≤ 0 + (j : Int); omega, by show 0 + (j : Int) ≤ 2; omega, by show text.length ≤ 1000000; omega, fun _ => by show (wordsOf text).length ≤ 4001; omega, fun _ => by show (wordsOf text).length ≤ 4000; omega⟩ ?_
            rintro rv N F15 H15 S e15 ⟨rfl, o, ro, hr⟩
            cases o with
            | none =>
              cases hr
              walk_at "rd"
              exact ⟨_, _, S, e14.trans e15, _, _, rfl, rfl⟩
            | some T =>
              obtain ⟨ok, sh⟩ := ro.1 T rfl
              have nz := th_ref hr
              walk_at "rd"
              rw [nz]
              walk_at "rd"
              refine r_callF S (0 + (j : Int), T) ⟨_, rfl, hr, ok⟩ ?_
              rintro _ N F16 H16 S e16 ⟨rfl, rfl⟩
              have hr := Dp.ex e16 _ _ hr
              walk_at "rd"
              rw [show decide (V.str (thS (0 + (j : Int), T).2) = V.str text) = true from decide_eq_true (congrArg V.str sh)]
              walk_at "rd"
              refine r_callF S (0 + (j : Int), T) ⟨⟨_, rfl, hr, ok⟩, ?_⟩ ?_
              · cases T with
                | web _ _ => trivial
                | frac _ => trivial
                | set ns =>
                  have sh : setS ns = text := sh
                  exact set_small (ok_set ok).2 (by rw [sh]; exact tl8)
              rintro _ N F17 H17 S e17 ⟨rfl, rfl⟩
              walk_at "rd"
              exact ⟨_, _, S, e14.trans (e15.trans (e16.trans e17)), _, _, rfl, rfl⟩
          · rintro σ' F14 H14 M' S e14 ⟨z4, z8, rfl, rfl⟩
            walk_at "rd"
            exact ⟨_, _, S, E13.trans e14, _, _, _, _, _, _, _, _, rfl, rfl⟩
    · rintro σ' F2 H2 M' S e2 ⟨x2, x3, x4, x5, x6, x7, x8, x9, rfl, rfl⟩
      walk_at "rd"
      exact k _

end

end
theorem all_mk {w : World} {K : PySem.W.Frag} {h : Heap} {mg : Str → Option Value} {fa : Addr} (X : K.In h) (G : h.Ns mainGlobals mg) (hfa : mg "law" = some (.ref fa))
    {f0 : Addr} {od0 an0 : Option Addr} {sl0 : Array (Option Value)} {oc0 kV0 dc0 pm0 cd0 ct0 : Value}
    (a0 : PySem.W.nsIn K mainGlobals "fraction_of" = some (some (.ref f0))) (l0 : K.lookup f0 = some ⟨oc0, od0, .func (PySem.W.fnOf "fraction_of" "fraction_of" (defArgs s_fraction_of) (defBody s_fraction_of) (defScope s_fraction_of) .none kV0 dc0 pm0 an0 cd0 ct0), sl0⟩) (c0 : PySem.W.codeIn K cd0 "fraction_of" = true) (k0 : PySem.W.keepIn K (.ref f0) = true)
    {f1 : Addr} {od1 an1 : Option Addr} {sl1 : Array (Option Value)} {oc1 kV1 dc1 pm1 cd1 ct1 : Value}
    (a1 : PySem.W.nsIn K mainGlobals "is_whole" = some (some (.ref f1))) (l1 : K.lookup f1 = some ⟨oc1, od1, .func (PySem.W.fnOf "is_whole" "is_whole" (defArgs s_is_whole) (defBody s_is_whole) (defScope s_is_whole) .none kV1 dc1 pm1 an1 cd1 ct1), sl1⟩) (c1 : PySem.W.codeIn K cd1 "is_whole" = true) (k1 : PySem.W.keepIn K (.ref f1) = true)
    {f2 : Addr} {od2 an2 : Option Addr} {sl2 : Array (Option Value)} {oc2 kV2 dc2 pm2 cd2 ct2 : Value}
    (a2 : PySem.W.nsIn K mainGlobals "is_tie" = some (some (.ref f2))) (l2 : K.lookup f2 = some ⟨oc2, od2, .func (PySem.W.fnOf "is_tie" "is_tie" (defArgs s_is_tie) (defBody s_is_tie) (defScope s_is_tie) .none kV2 dc2 pm2 an2 cd2 ct2), sl2⟩) (c2 : PySem.W.codeIn K cd2 "is_tie" = true) (k2 : PySem.W.keepIn K (.ref f2) = true)
    {f3 : Addr} {od3 an3 : Option Addr} {sl3 : Array (Option Value)} {oc3 kV3 dc3 pm3 cd3 ct3 : Value}
    (a3 : PySem.W.nsIn K mainGlobals "is_rising" = some (some (.ref f3))) (l3 : K.lookup f3 = some ⟨oc3, od3, .func (PySem.W.fnOf "is_rising" "is_rising" (defArgs s_is_rising) (defBody s_is_rising) (defScope s_is_rising) .none kV3 dc3 pm3 an3 cd3 ct3), sl3⟩) (c3 : PySem.W.codeIn K cd3 "is_rising" = true) (k3 : PySem.W.keepIn K (.ref f3) = true)
    {f4 : Addr} {od4 an4 : Option Addr} {sl4 : Array (Option Value)} {oc4 kV4 dc4 pm4 cd4 ct4 : Value}
    (a4 : PySem.W.nsIn K mainGlobals "is_web" = some (some (.ref f4))) (l4 : K.lookup f4 = some ⟨oc4, od4, .func (PySem.W.fnOf "is_web" "is_web" (defArgs s_is_web) (defBody s_is_web) (defScope s_is_web) .none kV4 dc4 pm4 an4 cd4 ct4), sl4⟩) (c4 : PySem.W.codeIn K cd4 "is_web" = true) (k4 : PySem.W.keepIn K (.ref f4) = true)
    {f5 : Addr} {od5 an5 : Option Addr} {sl5 : Array (Option Value)} {oc5 kV5 dc5 pm5 cd5 ct5 : Value}
    (a5 : PySem.W.nsIn K mainGlobals "show_numbers" = some (some (.ref f5))) (l5 : K.lookup f5 = some ⟨oc5, od5, .func (PySem.W.fnOf "show_numbers" "show_numbers" (defArgs s_show_numbers) (defBody s_show_numbers) (defScope s_show_numbers) .none kV5 dc5 pm5 an5 cd5 ct5), sl5⟩) (c5 : PySem.W.codeIn K cd5 "show_numbers" = true) (k5 : PySem.W.keepIn K (.ref f5) = true)
    {f6 : Addr} {od6 an6 : Option Addr} {sl6 : Array (Option Value)} {oc6 kV6 dc6 pm6 cd6 ct6 : Value}
    (a6 : PySem.W.nsIn K mainGlobals "show_ties" = some (some (.ref f6))) (l6 : K.lookup f6 = some ⟨oc6, od6, .func (PySem.W.fnOf "show_ties" "show_ties" (defArgs s_show_ties) (defBody s_show_ties) (defScope s_show_ties) .none kV6 dc6 pm6 an6 cd6 ct6), sl6⟩) (c6 : PySem.W.codeIn K cd6 "show_ties" = true) (k6 : PySem.W.keepIn K (.ref f6) = true)
    {f7 : Addr} {od7 an7 : Option Addr} {sl7 : Array (Option Value)} {oc7 kV7 dc7 pm7 cd7 ct7 : Value}
    (a7 : PySem.W.nsIn K mainGlobals "show_web" = some (some (.ref f7))) (l7 : K.lookup f7 = some ⟨oc7, od7, .func (PySem.W.fnOf "show_web" "show_web" (defArgs s_show_web) (defBody s_show_web) (defScope s_show_web) .none kV7 dc7 pm7 an7 cd7 ct7), sl7⟩) (c7 : PySem.W.codeIn K cd7 "show_web" = true) (k7 : PySem.W.keepIn K (.ref f7) = true)
    {f8 : Addr} {od8 an8 : Option Addr} {sl8 : Array (Option Value)} {oc8 kV8 dc8 pm8 cd8 ct8 : Value}
    (a8 : PySem.W.nsIn K mainGlobals "show_set" = some (some (.ref f8))) (l8 : K.lookup f8 = some ⟨oc8, od8, .func (PySem.W.fnOf "show_set" "show_set" (defArgs s_show_set) (defBody s_show_set) (defScope s_show_set) .none kV8 dc8 pm8 an8 cd8 ct8), sl8⟩) (c8 : PySem.W.codeIn K cd8 "show_set" = true) (k8 : PySem.W.keepIn K (.ref f8) = true)
    {f9 : Addr} {od9 an9 : Option Addr} {sl9 : Array (Option Value)} {oc9 kV9 dc9 pm9 cd9 ct9 : Value}
    (a9 : PySem.W.nsIn K mainGlobals "show_fraction" = some (some (.ref f9))) (l9 : K.lookup f9 = some ⟨oc9, od9, .func (PySem.W.fnOf "show_fraction" "show_fraction" (defArgs s_show_fraction) (defBody s_show_fraction) (defScope s_show_fraction) .none kV9 dc9 pm9 an9 cd9 ct9), sl9⟩) (c9 : PySem.W.codeIn K cd9 "show_fraction" = true) (k9 : PySem.W.keepIn K (.ref f9) = true)
    {f10 : Addr} {od10 an10 : Option Addr} {sl10 : Array (Option Value)} {oc10 kV10 dc10 pm10 cd10 ct10 : Value}
    (a10 : PySem.W.nsIn K mainGlobals "number_in" = some (some (.ref f10))) (l10 : K.lookup f10 = some ⟨oc10, od10, .func (PySem.W.fnOf "number_in" "number_in" (defArgs s_number_in) (defBody s_number_in) (defScope s_number_in) .none kV10 dc10 pm10 an10 cd10 ct10), sl10⟩) (c10 : PySem.W.codeIn K cd10 "number_in" = true) (k10 : PySem.W.keepIn K (.ref f10) = true)
    {f11 : Addr} {od11 an11 : Option Addr} {sl11 : Array (Option Value)} {oc11 kV11 dc11 pm11 cd11 ct11 : Value}
    (a11 : PySem.W.nsIn K mainGlobals "tie_in" = some (some (.ref f11))) (l11 : K.lookup f11 = some ⟨oc11, od11, .func (PySem.W.fnOf "tie_in" "tie_in" (defArgs s_tie_in) (defBody s_tie_in) (defScope s_tie_in) .none kV11 dc11 pm11 an11 cd11 ct11), sl11⟩) (c11 : PySem.W.codeIn K cd11 "tie_in" = true) (k11 : PySem.W.keepIn K (.ref f11) = true)
    {f12 : Addr} {od12 an12 : Option Addr} {sl12 : Array (Option Value)} {oc12 kV12 dc12 pm12 cd12 ct12 : Value}
    (a12 : PySem.W.nsIn K mainGlobals "read_web" = some (some (.ref f12))) (l12 : K.lookup f12 = some ⟨oc12, od12, .func (PySem.W.fnOf "read_web" "read_web" (defArgs s_read_web) (defBody s_read_web) (defScope s_read_web) .none kV12 dc12 pm12 an12 cd12 ct12), sl12⟩) (c12 : PySem.W.codeIn K cd12 "read_web" = true) (k12 : PySem.W.keepIn K (.ref f12) = true)
    {f13 : Addr} {od13 an13 : Option Addr} {sl13 : Array (Option Value)} {oc13 kV13 dc13 pm13 cd13 ct13 : Value}
    (a13 : PySem.W.nsIn K mainGlobals "read_set" = some (some (.ref f13))) (l13 : K.lookup f13 = some ⟨oc13, od13, .func (PySem.W.fnOf "read_set" "read_set" (defArgs s_read_set) (defBody s_read_set) (defScope s_read_set) .none kV13 dc13 pm13 an13 cd13 ct13), sl13⟩) (c13 : PySem.W.codeIn K cd13 "read_set" = true) (k13 : PySem.W.keepIn K (.ref f13) = true)
    {f14 : Addr} {od14 an14 : Option Addr} {sl14 : Array (Option Value)} {oc14 kV14 dc14 pm14 cd14 ct14 : Value}
    (a14 : PySem.W.nsIn K mainGlobals "is_fraction" = some (some (.ref f14))) (l14 : K.lookup f14 = some ⟨oc14, od14, .func (PySem.W.fnOf "is_fraction" "is_fraction" (defArgs s_is_fraction) (defBody s_is_fraction) (defScope s_is_fraction) .none kV14 dc14 pm14 an14 cd14 ct14), sl14⟩) (c14 : PySem.W.codeIn K cd14 "is_fraction" = true) (k14 : PySem.W.keepIn K (.ref f14) = true)
    {f15 : Addr} {od15 an15 : Option Addr} {sl15 : Array (Option Value)} {oc15 kV15 dc15 pm15 cd15 ct15 : Value}
    (a15 : PySem.W.nsIn K mainGlobals "read_fraction" = some (some (.ref f15))) (l15 : K.lookup f15 = some ⟨oc15, od15, .func (PySem.W.fnOf "read_fraction" "read_fraction" (defArgs s_read_fraction) (defBody s_read_fraction) (defScope s_read_fraction) .none kV15 dc15 pm15 an15 cd15 ct15), sl15⟩) (c15 : PySem.W.codeIn K cd15 "read_fraction" = true) (k15 : PySem.W.keepIn K (.ref f15) = true)
    {f16 : Addr} {od16 an16 : Option Addr} {sl16 : Array (Option Value)} {oc16 kV16 dc16 pm16 cd16 ct16 : Value}
    (a16 : PySem.W.nsIn K mainGlobals "_law_blend" = some (some (.ref f16))) (l16 : K.lookup f16 = some ⟨oc16, od16, .func (PySem.W.fnOf "_law_blend" "_law_blend" (defArgs s__law_blend) (defBody s__law_blend) (defScope s__law_blend) .none kV16 dc16 pm16 an16 cd16 ct16), sl16⟩) (c16 : PySem.W.codeIn K cd16 "_law_blend" = true) (k16 : PySem.W.keepIn K (.ref f16) = true)
    {f17 : Addr} {od17 an17 : Option Addr} {sl17 : Array (Option Value)} {oc17 kV17 dc17 pm17 cd17 ct17 : Value}
    (a17 : PySem.W.nsIn K mainGlobals "_law_pot" = some (some (.ref f17))) (l17 : K.lookup f17 = some ⟨oc17, od17, .func (PySem.W.fnOf "_law_pot" "_law_pot" (defArgs s__law_pot) (defBody s__law_pot) (defScope s__law_pot) .none kV17 dc17 pm17 an17 cd17 ct17), sl17⟩) (c17 : PySem.W.codeIn K cd17 "_law_pot" = true) (k17 : PySem.W.keepIn K (.ref f17) = true)
    {f18 : Addr} {od18 an18 : Option Addr} {sl18 : Array (Option Value)} {oc18 kV18 dc18 pm18 cd18 ct18 : Value}
    (a18 : PySem.W.nsIn K mainGlobals "_law_pick" = some (some (.ref f18))) (l18 : K.lookup f18 = some ⟨oc18, od18, .func (PySem.W.fnOf "_law_pick" "_law_pick" (defArgs s__law_pick) (defBody s__law_pick) (defScope s__law_pick) .none kV18 dc18 pm18 an18 cd18 ct18), sl18⟩) (c18 : PySem.W.codeIn K cd18 "_law_pick" = true) (k18 : PySem.W.keepIn K (.ref f18) = true)
    {f19 : Addr} {od19 an19 : Option Addr} {sl19 : Array (Option Value)} {oc19 kV19 dc19 pm19 cd19 ct19 : Value}
    (a19 : PySem.W.nsIn K mainGlobals "_law_order" = some (some (.ref f19))) (l19 : K.lookup f19 = some ⟨oc19, od19, .func (PySem.W.fnOf "_law_order" "_law_order" (defArgs s__law_order) (defBody s__law_order) (defScope s__law_order) .none kV19 dc19 pm19 an19 cd19 ct19), sl19⟩) (c19 : PySem.W.codeIn K cd19 "_law_order" = true) (k19 : PySem.W.keepIn K (.ref f19) = true)
    {f20 : Addr} {od20 an20 : Option Addr} {sl20 : Array (Option Value)} {oc20 kV20 dc20 pm20 cd20 ct20 : Value}
    (a20 : PySem.W.nsIn K mainGlobals "_law_web" = some (some (.ref f20))) (l20 : K.lookup f20 = some ⟨oc20, od20, .func (PySem.W.fnOf "_law_web" "_law_web" (defArgs s__law_web) (defBody s__law_web) (defScope s__law_web) .none kV20 dc20 pm20 an20 cd20 ct20), sl20⟩) (c20 : PySem.W.codeIn K cd20 "_law_web" = true) (k20 : PySem.W.keepIn K (.ref f20) = true)
    {f21 : Addr} {od21 an21 : Option Addr} {sl21 : Array (Option Value)} {oc21 kV21 dc21 pm21 cd21 ct21 : Value}
    (a21 : PySem.W.nsIn K mainGlobals "_law_any_ties" = some (some (.ref f21))) (l21 : K.lookup f21 = some ⟨oc21, od21, .func (PySem.W.fnOf "_law_any_ties" "_law_any_ties" (defArgs s__law_any_ties) (defBody s__law_any_ties) (defScope s__law_any_ties) .none kV21 dc21 pm21 an21 cd21 ct21), sl21⟩) (c21 : PySem.W.codeIn K cd21 "_law_any_ties" = true) (k21 : PySem.W.keepIn K (.ref f21) = true)
    {f22 : Addr} {od22 an22 : Option Addr} {sl22 : Array (Option Value)} {oc22 kV22 dc22 pm22 cd22 ct22 : Value}
    (a22 : PySem.W.nsIn K mainGlobals "_law_drawn_web" = some (some (.ref f22))) (l22 : K.lookup f22 = some ⟨oc22, od22, .func (PySem.W.fnOf "_law_drawn_web" "_law_drawn_web" (defArgs s__law_drawn_web) (defBody s__law_drawn_web) (defScope s__law_drawn_web) .none kV22 dc22 pm22 an22 cd22 ct22), sl22⟩) (c22 : PySem.W.codeIn K cd22 "_law_drawn_web" = true) (k22 : PySem.W.keepIn K (.ref f22) = true)
    {f23 : Addr} {od23 an23 : Option Addr} {sl23 : Array (Option Value)} {oc23 kV23 dc23 pm23 cd23 ct23 : Value}
    (a23 : PySem.W.nsIn K mainGlobals "_law_common" = some (some (.ref f23))) (l23 : K.lookup f23 = some ⟨oc23, od23, .func (PySem.W.fnOf "_law_common" "_law_common" (defArgs s__law_common) (defBody s__law_common) (defScope s__law_common) .none kV23 dc23 pm23 an23 cd23 ct23), sl23⟩) (c23 : PySem.W.codeIn K cd23 "_law_common" = true) (k23 : PySem.W.keepIn K (.ref f23) = true)
    {f24 : Addr} {od24 an24 : Option Addr} {sl24 : Array (Option Value)} {oc24 kV24 dc24 pm24 cd24 ct24 : Value}
    (a24 : PySem.W.nsIn K mainGlobals "_law_fraction" = some (some (.ref f24))) (l24 : K.lookup f24 = some ⟨oc24, od24, .func (PySem.W.fnOf "_law_fraction" "_law_fraction" (defArgs s__law_fraction) (defBody s__law_fraction) (defScope s__law_fraction) .none kV24 dc24 pm24 an24 cd24 ct24), sl24⟩) (c24 : PySem.W.codeIn K cd24 "_law_fraction" = true) (k24 : PySem.W.keepIn K (.ref f24) = true)
    {f25 : Addr} {od25 an25 : Option Addr} {sl25 : Array (Option Value)} {oc25 kV25 dc25 pm25 cd25 ct25 : Value}
    (a25 : PySem.W.nsIn K mainGlobals "_law_houses" = some (some (.ref f25))) (l25 : K.lookup f25 = some ⟨oc25, od25, .func (PySem.W.fnOf "_law_houses" "_law_houses" (defArgs s__law_houses) (defBody s__law_houses) (defScope s__law_houses) .none kV25 dc25 pm25 an25 cd25 ct25), sl25⟩) (c25 : PySem.W.codeIn K cd25 "_law_houses" = true) (k25 : PySem.W.keepIn K (.ref f25) = true)
    {f26 : Addr} {od26 an26 : Option Addr} {sl26 : Array (Option Value)} {oc26 kV26 dc26 pm26 cd26 ct26 : Value}
    (a26 : PySem.W.nsIn K mainGlobals "_law_read" = some (some (.ref f26))) (l26 : K.lookup f26 = some ⟨oc26, od26, .func (PySem.W.fnOf "_law_read" "_law_read" (defArgs s__law_read) (defBody s__law_read) (defScope s__law_read) .none kV26 dc26 pm26 an26 cd26 ct26), sl26⟩) (c26 : PySem.W.codeIn K cd26 "_law_read" = true) (k26 : PySem.W.keepIn K (.ref f26) = true)
    {f27 : Addr} {od27 an27 : Option Addr} {sl27 : Array (Option Value)} {oc27 kV27 dc27 pm27 cd27 ct27 : Value}
    (a27 : PySem.W.nsIn K mainGlobals "_law_shown" = some (some (.ref f27))) (l27 : K.lookup f27 = some ⟨oc27, od27, .func (PySem.W.fnOf "_law_shown" "_law_shown" (defArgs s__law_shown) (defBody s__law_shown) (defScope s__law_shown) .none kV27 dc27 pm27 an27 cd27 ct27), sl27⟩) (c27 : PySem.W.codeIn K cd27 "_law_shown" = true) (k27 : PySem.W.keepIn K (.ref f27) = true)
    {f28 : Addr} {od28 an28 : Option Addr} {sl28 : Array (Option Value)} {oc28 kV28 dc28 pm28 cd28 ct28 : Value}
    (a28 : PySem.W.nsIn K mainGlobals "_law_is_it" = some (some (.ref f28))) (l28 : K.lookup f28 = some ⟨oc28, od28, .func (PySem.W.fnOf "_law_is_it" "_law_is_it" (defArgs s__law_is_it) (defBody s__law_is_it) (defScope s__law_is_it) .none kV28 dc28 pm28 an28 cd28 ct28), sl28⟩) (c28 : PySem.W.codeIn K cd28 "_law_is_it" = true) (k28 : PySem.W.keepIn K (.ref f28) = true)
    {f29 : Addr} {od29 an29 : Option Addr} {sl29 : Array (Option Value)} {oc29 kV29 dc29 pm29 cd29 ct29 : Value}
    (a29 : PySem.W.nsIn K mainGlobals "_law_other" = some (some (.ref f29))) (l29 : K.lookup f29 = some ⟨oc29, od29, .func (PySem.W.fnOf "_law_other" "_law_other" (defArgs s__law_other) (defBody s__law_other) (defScope s__law_other) .none kV29 dc29 pm29 an29 cd29 ct29), sl29⟩) (c29 : PySem.W.codeIn K cd29 "_law_other" = true) (k29 : PySem.W.keepIn K (.ref f29) = true)
    {f30 : Addr} {od30 an30 : Option Addr} {sl30 : Array (Option Value)} {oc30 kV30 dc30 pm30 cd30 ct30 : Value}
    (a30 : PySem.W.nsIn K mainGlobals "law" = some (some (.ref f30))) (l30 : K.lookup f30 = some ⟨oc30, od30, .func (PySem.W.fnOf "law" "law" (defArgs s_law) (defBody s_law) (defScope s_law) .none kV30 dc30 pm30 an30 cd30 ct30), sl30⟩) (c30 : PySem.W.codeIn K cd30 "law" = true) (k30 : PySem.W.keepIn K (.ref f30) = true)
    {C_ApartError C_NoText : Addr}
    (gc_ApartError : PySem.W.nsIn K mainGlobals "ApartError" = some (some (.ref C_ApartError))) (kc_ApartError : PySem.W.keepIn K (.ref C_ApartError) = true) (yc_ApartError : ExcC K C_ApartError) (tc_ApartError : PySem.W.typeIn K (.ref C_ApartError) = some (.type "type"))
    (xc_ApartError : PySem.W.excIn K C_ApartError [.type "ValueError", .type "Exception", .type "BaseException", .type "object"] "ValueError.__new__" = true)
    (w_ApartError_ApartError : PySem.W.kitOne K (.ref C_ApartError) (.ref C_ApartError) = some true)
    (w_ApartError_NoText : PySem.W.kitOne K (.ref C_ApartError) (.ref C_NoText) = some false)
    (wv_ApartError : PySem.W.kitOne K (.ref C_ApartError) (.type "ValueError") = some true) (we_ApartError : PySem.W.exmOne K (.ref C_ApartError) (.ref C_ApartError) = some true)
    (gc_NoText : PySem.W.nsIn K mainGlobals "NoText" = some (some (.ref C_NoText))) (kc_NoText : PySem.W.keepIn K (.ref C_NoText) = true) (yc_NoText : ExcC K C_NoText) (tc_NoText : PySem.W.typeIn K (.ref C_NoText) = some (.type "type"))
    (xc_NoText : PySem.W.excIn K C_NoText [.type "ValueError", .type "Exception", .type "BaseException", .type "object"] "ValueError.__new__" = true)
    (w_NoText_ApartError : PySem.W.kitOne K (.ref C_NoText) (.ref C_ApartError) = some true)
    (w_NoText_NoText : PySem.W.kitOne K (.ref C_NoText) (.ref C_NoText) = some true)
    (wes_NoText : PySem.W.exmOne K (.ref C_NoText) (.ref C_NoText) = some true)
    (wv_NoText : PySem.W.kitOne K (.ref C_NoText) (.type "ValueError") = some true) (we_NoText : PySem.W.exmOne K (.ref C_NoText) (.ref C_ApartError) = some true)
    (gt_gcd : PySem.W.nsIn K mainGlobals "gcd" = some (some (.builtin "math.gcd")))
    {tk_MOST_HOUSES : Tok} (gi_MOST_HOUSES : PySem.W.nsIn K mainGlobals "MOST_HOUSES" = some (some (.int 60 tk_MOST_HOUSES)))
    {tk_FIGURES : Tok} (gi_FIGURES : PySem.W.nsIn K mainGlobals "FIGURES" = some (some (.str "0123456789" tk_FIGURES)))
    {tk_MOST_FIGURES : Tok} (gi_MOST_FIGURES : PySem.W.nsIn K mainGlobals "MOST_FIGURES" = some (some (.int 60 tk_MOST_FIGURES)))
    (z_ValueError : PySem.W.nsIn K mainGlobals "ValueError" = some none)
    (z_all : PySem.W.nsIn K mainGlobals "all" = some none)
    (z_int : PySem.W.nsIn K mainGlobals "int" = some none)
    (z_tuple : PySem.W.nsIn K mainGlobals "tuple" = some none)
    (z_list : PySem.W.nsIn K mainGlobals "list" = some none)
    (z_enumerate : PySem.W.nsIn K mainGlobals "enumerate" = some none)
    (z_range : PySem.W.nsIn K mainGlobals "range" = some none)
    (z_isinstance : PySem.W.nsIn K mainGlobals "isinstance" = some none)
    (z_str : PySem.W.nsIn K mainGlobals "str" = some none)
    (z_bool : PySem.W.nsIn K mainGlobals "bool" = some none)
    (z_len : PySem.W.nsIn K mainGlobals "len" = some none)
    (z_min : PySem.W.nsIn K mainGlobals "min" = some none)
    (z_max : PySem.W.nsIn K mainGlobals "max" = some none)
    (z_sorted : PySem.W.nsIn K mainGlobals "sorted" = some none)
    (z_zip : PySem.W.nsIn K mainGlobals "zip" = some none)
    (z_set : PySem.W.nsIn K mainGlobals "set" = some none)
    : ∃ fd : FuncData, (∀ (s : Shared) (v : Value), BindsTo s fd ⟨[v], []⟩ [("script", v)]) ∧ ∀ base : Heap, K.In base → base.Ns mainGlobals mg → FnOk P w K mg base CX0 10 fa fd ["script"] (sp_law K) := by
  have e := hfa.symm.trans (PySem.W.mg_of X G a30)
  cases e
  have F0 := fun_mk (st := s_fraction_of) l0 c0 k0
  have F1 := fun_mk (st := s_is_whole) l1 c1 k1
  have F2 := fun_mk (st := s_is_tie) l2 c2 k2
  have F3 := fun_mk (st := s_is_rising) l3 c3 k3
  have F4 := fun_mk (st := s_is_web) l4 c4 k4
  have F5 := fun_mk (st := s_show_numbers) l5 c5 k5
  have F6 := fun_mk (st := s_show_ties) l6 c6 k6
  have F7 := fun_mk (st := s_show_web) l7 c7 k7
  have F8 := fun_mk (st := s_show_set) l8 c8 k8
  have F9 := fun_mk (st := s_show_fraction) l9 c9 k9
  have F10 := fun_mk (st := s_number_in) l10 c10 k10
  have F11 := fun_mk (st := s_tie_in) l11 c11 k11
  have F12 := fun_mk (st := s_read_web) l12 c12 k12
  have F13 := fun_mk (st := s_read_set) l13 c13 k13
  have F14 := fun_mk (st := s_is_fraction) l14 c14 k14
  have F15 := fun_mk (st := s_read_fraction) l15 c15 k15
  have F16 := fun_mk (st := s__law_blend) l16 c16 k16
  have F17 := fun_mk (st := s__law_pot) l17 c17 k17
  have F18 := fun_mk (st := s__law_pick) l18 c18 k18
  have F19 := fun_mk (st := s__law_order) l19 c19 k19
  have F20 := fun_mk (st := s__law_web) l20 c20 k20
  have F21 := fun_mk (st := s__law_any_ties) l21 c21 k21
  have F22 := fun_mk (st := s__law_drawn_web) l22 c22 k22
  have F23 := fun_mk (st := s__law_common) l23 c23 k23
  have F24 := fun_mk (st := s__law_fraction) l24 c24 k24
  have F25 := fun_mk (st := s__law_houses) l25 c25 k25
  have F26 := fun_mk (st := s__law_read) l26 c26 k26
  have F27 := fun_mk (st := s__law_shown) l27 c27 k27
  have F28 := fun_mk (st := s__law_is_it) l28 c28 k28
  have F29 := fun_mk (st := s__law_other) l29 c29 k29
  have F30 := fun_mk (st := s_law) l30 c30 k30
  have b0 := F0.binds (ps := ["over", "under"]) fun _ _ _ _ _ _ us hl => match us, hl with | [_, _], _ => rfl
  have b1 := F1.binds (ps := ["thing"]) fun _ _ _ _ _ _ us hl => match us, hl with | [_], _ => rfl
  have b2 := F2.binds (ps := ["thing", "many"]) fun _ _ _ _ _ _ us hl => match us, hl with | [_, _], _ => rfl
  have b3 := F3.binds (ps := ["things"]) fun _ _ _ _ _ _ us hl => match us, hl with | [_], _ => rfl
  have b4 := F4.binds (ps := ["thing"]) fun _ _ _ _ _ _ us hl => match us, hl with | [_], _ => rfl
  have b5 := F5.binds (ps := ["numbers"]) fun _ _ _ _ _ _ us hl => match us, hl with | [_], _ => rfl
  have b6 := F6.binds (ps := ["ties"]) fun _ _ _ _ _ _ us hl => match us, hl with | [_], _ => rfl
  have b7 := F7.binds (ps := ["web"]) fun _ _ _ _ _ _ us hl => match us, hl with | [_], _ => rfl
  have b8 := F8.binds (ps := ["some"]) fun _ _ _ _ _ _ us hl => match us, hl with | [_], _ => rfl
  have b9 := F9.binds (ps := ["one"]) fun _ _ _ _ _ _ us hl => match us, hl with | [_], _ => rfl
  have b10 := F10.binds (ps := ["word", "most"]) fun _ _ _ _ _ _ us hl => match us, hl with | [_, _], _ => rfl
  have b11 := F11.binds (ps := ["word"]) fun _ _ _ _ _ _ us hl => match us, hl with | [_], _ => rfl
  have b12 := F12.binds (ps := ["text"]) fun _ _ _ _ _ _ us hl => match us, hl with | [_], _ => rfl
  have b13 := F13.binds (ps := ["text"]) fun _ _ _ _ _ _ us hl => match us, hl with | [_], _ => rfl
  have b14 := F14.binds (ps := ["over", "under"]) fun _ _ _ _ _ _ us hl => match us, hl with | [_, _], _ => rfl
  have b15 := F15.binds (ps := ["text"]) fun _ _ _ _ _ _ us hl => match us, hl with | [_], _ => rfl
  have b16 := F16.binds (ps := ["cell", "at"]) fun _ _ _ _ _ _ us hl => match us, hl with | [_, _], _ => rfl
  have b17 := F17.binds (ps := ["script"]) fun _ _ _ _ _ _ us hl => match us, hl with | [_], _ => rfl
  have b18 := F18.binds (ps := ["pot", "many"]) fun _ _ _ _ _ _ us hl => match us, hl with | [_, _], _ => rfl
  have b19 := F19.binds (ps := ["pot", "many"]) fun _ _ _ _ _ _ us hl => match us, hl with | [_, _], _ => rfl
  have b20 := F20.binds (ps := ["pot", "most"]) fun _ _ _ _ _ _ us hl => match us, hl with | [_, _], _ => rfl
  have b21 := F21.binds (ps := ["pot", "most"]) fun _ _ _ _ _ _ us hl => match us, hl with | [_, _], _ => rfl
  have b22 := F22.binds (ps := ["pot", "most"]) fun _ _ _ _ _ _ us hl => match us, hl with | [_, _], _ => rfl
  have b23 := F23.binds (ps := ["one", "other"]) fun _ _ _ _ _ _ us hl => match us, hl with | [_, _], _ => rfl
  have b24 := F24.binds (ps := ["pot"]) fun _ _ _ _ _ _ us hl => match us, hl with | [_], _ => rfl
  have b25 := F25.binds (ps := ["pot", "many"]) fun _ _ _ _ _ _ us hl => match us, hl with | [_, _], _ => rfl
  have b26 := F26.binds (ps := ["way", "text"]) fun _ _ _ _ _ _ us hl => match us, hl with | [_, _], _ => rfl
  have b27 := F27.binds (ps := ["way", "thing"]) fun _ _ _ _ _ _ us hl => match us, hl with | [_, _], _ => rfl
  have b28 := F28.binds (ps := ["way", "thing"]) fun _ _ _ _ _ _ us hl => match us, hl with | [_, _], _ => rfl
  have b29 := F29.binds (ps := ["pot", "way", "thing"]) fun _ _ _ _ _ _ us hl => match us, hl with | [_, _, _], _ => rfl
  have T : Env K mg := { a_fraction_of := _, fd_fraction_of := _, F_fraction_of := F0, b_fraction_of := b0, g_fraction_of := PySem.W.mg_of X G a0, a_is_whole := _, fd_is_whole := _, F_is_whole := F1, b_is_whole := b1, g_is_whole := PySem.W.mg_of X G a1, a_is_tie := _, fd_is_tie := _, F_is_tie := F2, b_is_tie := b2, g_is_tie := PySem.W.mg_of X G a2, a_is_rising := _, fd_is_rising := _, F_is_rising := F3, b_is_rising := b3, g_is_rising := PySem.W.mg_of X G a3, a_is_web := _, fd_is_web := _, F_is_web := F4, b_is_web := b4, g_is_web := PySem.W.mg_of X G a4, a_show_numbers := _, fd_show_numbers := _, F_show_numbers := F5, b_show_numbers := b5, g_show_numbers := PySem.W.mg_of X G a5, a_show_ties := _, fd_show_ties := _, F_show_ties := F6, b_show_ties := b6, g_show_ties := PySem.W.mg_of X G a6, a_show_web := _, fd_show_web := _, F_show_web := F7, b_show_web := b7, g_show_web := PySem.W.mg_of X G a7, a_show_set := _, fd_show_set := _, F_show_set := F8, b_show_set := b8, g_show_set := PySem.W.mg_of X G a8, a_show_fraction := _, fd_show_fraction := _, F_show_fraction := F9, b_show_fraction := b9, g_show_fraction := PySem.W.mg_of X G a9, a_number_in := _, fd_number_in := _, F_number_in := F10, b_number_in := b10, g_number_in := PySem.W.mg_of X G a10, a_tie_in := _, fd_tie_in := _, F_tie_in := F11, b_tie_in := b11, g_tie_in := PySem.W.mg_of X G a11, a_read_web := _, fd_read_web := _, F_read_web := F12, b_read_web := b12, g_read_web := PySem.W.mg_of X G a12, a_read_set := _, fd_read_set := _, F_read_set := F13, b_read_set := b13, g_read_set := PySem.W.mg_of X G a13, a_is_fraction := _, fd_is_fraction := _, F_is_fraction := F14, b_is_fraction := b14, g_is_fraction := PySem.W.mg_of X G a14, a_read_fraction := _, fd_read_fraction := _, F_read_fraction := F15, b_read_fraction := b15, g_read_fraction := PySem.W.mg_of X G a15, a__law_blend := _, fd__law_blend := _, F__law_blend := F16, b__law_blend := b16, g__law_blend := PySem.W.mg_of X G a16, a__law_pot := _, fd__law_pot := _, F__law_pot := F17, b__law_pot := b17, g__law_pot := PySem.W.mg_of X G a17, a__law_pick := _, fd__law_pick := _, F__law_pick := F18, b__law_pick := b18, g__law_pick := PySem.W.mg_of X G a18, a__law_order := _, fd__law_order := _, F__law_order := F19, b__law_order := b19, g__law_order := PySem.W.mg_of X G a19, a__law_web := _, fd__law_web := _, F__law_web := F20, b__law_web := b20, g__law_web := PySem.W.mg_of X G a20, a__law_any_ties := _, fd__law_any_ties := _, F__law_any_ties := F21, b__law_any_ties := b21, g__law_any_ties := PySem.W.mg_of X G a21, a__law_drawn_web := _, fd__law_drawn_web := _, F__law_drawn_web := F22, b__law_drawn_web := b22, g__law_drawn_web := PySem.W.mg_of X G a22, a__law_common := _, fd__law_common := _, F__law_common := F23, b__law_common := b23, g__law_common := PySem.W.mg_of X G a23, a__law_fraction := _, fd__law_fraction := _, F__law_fraction := F24, b__law_fraction := b24, g__law_fraction := PySem.W.mg_of X G a24, a__law_houses := _, fd__law_houses := _, F__law_houses := F25, b__law_houses := b25, g__law_houses := PySem.W.mg_of X G a25, a__law_read := _, fd__law_read := _, F__law_read := F26, b__law_read := b26, g__law_read := PySem.W.mg_of X G a26, a__law_shown := _, fd__law_shown := _, F__law_shown := F27, b__law_shown := b27, g__law_shown := PySem.W.mg_of X G a27, a__law_is_it := _, fd__law_is_it := _, F__law_is_it := F28, b__law_is_it := b28, g__law_is_it := PySem.W.mg_of X G a28, a__law_other := _, fd__law_other := _, F__law_other := F29, b__law_other := b29, g__law_other := PySem.W.mg_of X G a29, c_ApartError := _, g_ApartError := PySem.W.mg_of X G gc_ApartError, kp_ApartError := kc_ApartError, y_ApartError := yc_ApartError, ty_ApartError := tc_ApartError, x_ApartError := xc_ApartError, k_ApartError_ApartError := w_ApartError_ApartError, k_ApartError_NoText := w_ApartError_NoText, kv_ApartError := wv_ApartError, e_ApartError := we_ApartError, c_NoText := _, g_NoText := PySem.W.mg_of X G gc_NoText, kp_NoText := kc_NoText, y_NoText := yc_NoText, ty_NoText := tc_NoText, x_NoText := xc_NoText, k_NoText_ApartError := w_NoText_ApartError, k_NoText_NoText := w_NoText_NoText, kv_NoText := wv_NoText, e_NoText := we_NoText, es_NoText := wes_NoText, g_gcd := PySem.W.mg_of X G gt_gcd, tk_MOST_HOUSES := _, g_MOST_HOUSES := PySem.W.mg_of X G gi_MOST_HOUSES, tk_FIGURES := _, g_FIGURES := PySem.W.mg_of X G gi_FIGURES, tk_MOST_FIGURES := _, g_MOST_FIGURES := PySem.W.mg_of X G gi_MOST_FIGURES, n_ValueError := PySem.W.mg_none_of X G z_ValueError, n_all := PySem.W.mg_none_of X G z_all, n_int := PySem.W.mg_none_of X G z_int, n_tuple := PySem.W.mg_none_of X G z_tuple, n_list := PySem.W.mg_none_of X G z_list, n_enumerate := PySem.W.mg_none_of X G z_enumerate, n_range := PySem.W.mg_none_of X G z_range, n_isinstance := PySem.W.mg_none_of X G z_isinstance, n_str := PySem.W.mg_none_of X G z_str, n_bool := PySem.W.mg_none_of X G z_bool, n_len := PySem.W.mg_none_of X G z_len, n_min := PySem.W.mg_none_of X G z_min, n_max := PySem.W.mg_none_of X G z_max, n_sorted := PySem.W.mg_none_of X G z_sorted, n_zip := PySem.W.mg_none_of X G z_zip, n_set := PySem.W.mg_none_of X G z_set }
  exact ⟨PySem.W.fnOf "law" "law" (defArgs s_law) (defBody s_law) (defScope s_law) .none kV30 dc30 pm30 an30 cd30 ct30, fun s v => .of_eq rfl, fun base _ _ => ok_law T F30⟩
end Fa
open PySem PySem.W PyProof.Rows
set_option maxHeartbeats 0 in
theorem PySem.Challenge.cw_fullapart_k72_whole_written_and_read_holds : PySem.Challenge.rw_fullapart_k72_whole_written_and_read.Holds := by
  w_on; o_law; k_head; (case hw => w_witness2)
  k_fill
  refine L2.walk_of (l := PySem.Challenge.rw_fullapart_k72_whole_written_and_read) (n := 63) (k := 10) (x := "script") (CX := fun _ => L2.CX0) (sp := fun w => Fa.sp_law _) rfl (by decide) rfl ⟨rfl, by decide, by decide⟩ (fun w h Y => PySem.W.kIn_of Y) ?F (fun _ _ a ns hl _ hS => ⟨a, ns, rfl, hS, hl, fun _ => rfl⟩) (fun _ _ _ _ _ h => h)
  case F =>
    intro w mg fa h KX G hmg
    refine' Fa.all_mk KX G hmg ?a0 ?l0 ?c0 ?k0 ?a1 ?l1 ?c1 ?k1 ?a2 ?l2 ?c2 ?k2 ?a3 ?l3 ?c3 ?k3 ?a4 ?l4 ?c4 ?k4 ?a5 ?l5 ?c5 ?k5 ?a6 ?l6 ?c6 ?k6 ?a7 ?l7 ?c7 ?k7 ?a8 ?l8 ?c8 ?k8 ?a9 ?l9 ?c9 ?k9 ?a10 ?l10 ?c10 ?k10 ?a11 ?l11 ?c11 ?k11 ?a12 ?l12 ?c12 ?k12 ?a13 ?l13 ?c13 ?k13 ?a14 ?l14 ?c14 ?k14 ?a15 ?l15 ?c15 ?k15 ?a16 ?l16 ?c16 ?k16 ?a17 ?l17 ?c17 ?k17 ?a18 ?l18 ?c18 ?k18 ?a19 ?l19 ?c19 ?k19 ?a20 ?l20 ?c20 ?k20 ?a21 ?l21 ?c21 ?k21 ?a22 ?l22 ?c22 ?k22 ?a23 ?l23 ?c23 ?k23 ?a24 ?l24 ?c24 ?k24 ?a25 ?l25 ?c25 ?k25 ?a26 ?l26 ?c26 ?k26 ?a27 ?l27 ?c27 ?k27 ?a28 ?l28 ?c28 ?k28 ?a29 ?l29 ?c29 ?k29 ?a30 ?l30 ?c30 ?k30 ?gc_ApartError ?kc_ApartError ?yc_ApartError ?tc_ApartError ?xc_ApartError ?w_ApartError_ApartError ?w_ApartError_NoText ?wv_ApartError ?we_ApartError ?gc_NoText ?kc_NoText ?yc_NoText ?tc_NoText ?xc_NoText ?w_NoText_ApartError ?w_NoText_NoText ?wes_NoText ?wv_NoText ?we_NoText ?gt_gcd ?gi_MOST_HOUSES ?gi_FIGURES ?gi_MOST_FIGURES ?z_ValueError ?z_all ?z_int ?z_tuple ?z_list ?z_enumerate ?z_range ?z_isinstance ?z_str ?z_bool ?z_len ?z_min ?z_max ?z_sorted ?z_zip ?z_set
    (case a0 => k_is); (case l0 => k_is); (case c0 => k_is); (case k0 => k_is); (case a1 => k_is); (case l1 => k_is); (case c1 => k_is); (case k1 => k_is); (case a2 => k_is); (case l2 => k_is); (case c2 => k_is); (case k2 => k_is); (case a3 => k_is); (case l3 => k_is); (case c3 => k_is); (case k3 => k_is); (case a4 => k_is); (case l4 => k_is); (case c4 => k_is); (case k4 => k_is); (case a5 => k_is); (case l5 => k_is); (case c5 => k_is); (case k5 => k_is); (case a6 => k_is); (case l6 => k_is); (case c6 => k_is); (case k6 => k_is); (case a7 => k_is); (case l7 => k_is); (case c7 => k_is); (case k7 => k_is); (case a8 => k_is); (case l8 => k_is); (case c8 => k_is); (case k8 => k_is); (case a9 => k_is); (case l9 => k_is); (case c9 => k_is); (case k9 => k_is); (case a10 => k_is); (case l10 => k_is); (case c10 => k_is); (case k10 => k_is); (case a11 => k_is); (case l11 => k_is); (case c11 => k_is); (case k11 => k_is); (case a12 => k_is); (case l12 => k_is); (case c12 => k_is); (case k12 => k_is); (case a13 => k_is); (case l13 => k_is); (case c13 => k_is); (case k13 => k_is); (case a14 => k_is); (case l14 => k_is); (case c14 => k_is); (case k14 => k_is); (case a15 => k_is); (case l15 => k_is); (case c15 => k_is); (case k15 => k_is); (case a16 => k_is); (case l16 => k_is); (case c16 => k_is); (case k16 => k_is); (case a17 => k_is); (case l17 => k_is); (case c17 => k_is); (case k17 => k_is); (case a18 => k_is); (case l18 => k_is); (case c18 => k_is); (case k18 => k_is); (case a19 => k_is); (case l19 => k_is); (case c19 => k_is); (case k19 => k_is); (case a20 => k_is); (case l20 => k_is); (case c20 => k_is); (case k20 => k_is); (case a21 => k_is); (case l21 => k_is); (case c21 => k_is); (case k21 => k_is); (case a22 => k_is); (case l22 => k_is); (case c22 => k_is); (case k22 => k_is); (case a23 => k_is); (case l23 => k_is); (case c23 => k_is); (case k23 => k_is); (case a24 => k_is); (case l24 => k_is); (case c24 => k_is); (case k24 => k_is); (case a25 => k_is); (case l25 => k_is); (case c25 => k_is); (case k25 => k_is); (case a26 => k_is); (case l26 => k_is); (case c26 => k_is); (case k26 => k_is); (case a27 => k_is); (case l27 => k_is); (case c27 => k_is); (case k27 => k_is); (case a28 => k_is); (case l28 => k_is); (case c28 => k_is); (case k28 => k_is); (case a29 => k_is); (case l29 => k_is); (case c29 => k_is); (case k29 => k_is); (case a30 => k_is); (case l30 => k_is); (case c30 => k_is); (case k30 => k_is); (case gc_ApartError => k_is); (case kc_ApartError => k_is); (case tc_ApartError => k_is); (case gc_NoText => k_is); (case kc_NoText => k_is); (case tc_NoText => k_is); (case gt_gcd => k_is); (case gi_MOST_HOUSES => k_is); (case gi_FIGURES => k_is); (case gi_MOST_FIGURES => k_is); (case z_ValueError => k_is); (case z_all => k_is); (case z_int => k_is); (case z_tuple => k_is); (case z_list => k_is); (case z_enumerate => k_is); (case z_range => k_is); (case z_isinstance => k_is); (case z_str => k_is); (case z_bool => k_is); (case z_len => k_is); (case z_min => k_is); (case z_max => k_is); (case z_sorted => k_is); (case z_zip => k_is); (case z_set => k_is); (case yc_ApartError => exact ⟨by k_is, by k_is, by k_is, by k_is, by k_is, by k_is, by k_is, by k_is⟩); (case xc_ApartError => kernel_rfl); (case w_ApartError_ApartError => exact Fa.kit_self); (case w_ApartError_NoText => exact Fa.kit_ne (by decide) (by k_is) (by k_is) (by k_is)); (case wv_ApartError => exact Fa.kit_type (by decide +kernel) (by k_is)); (case we_ApartError => exact PySem.W.exm_ref (by k_is) (by k_is) (by k_is) (by k_is)); (case yc_NoText => exact ⟨by k_is, by k_is, by k_is, by k_is, by k_is, by k_is, by k_is, by k_is⟩); (case xc_NoText => kernel_rfl); (case w_NoText_ApartError => exact Fa.kit_ne (by decide) (by k_is) (by k_is) (by k_is)); (case w_NoText_NoText => exact Fa.kit_self); (case wes_NoText => exact PySem.W.exm_ref (by k_is) (by k_is) (by k_is) (by k_is)); (case wv_NoText => exact Fa.kit_type (by decide +kernel) (by k_is)); (case we_NoText => exact PySem.W.exm_ref (by k_is) (by k_is) (by k_is) (by k_is))
