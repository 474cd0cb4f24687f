import PyProof.Rows.All
import Wide.All
import OpenK.AllK
import Wide.FinOn
import KE.RegKIsAll
import Lean
import PyProof.EqAt
import PyProof.EqKinds
import PyProof.TupleCall
import PyProof.Rows.SetFrom
import PyProof.StrWalks
import PyProof.SetRoads
import PyProof.DictKinds
import PyProof.DictStraight
import PyProof.MeetsSeq2
import PyProof.ZipIter
import PyProof.Draws
import PyProof.DictUpdate
import PyProof.AttrMissHeap
import PyProof.ListNew
import PyProof.FactsAll.dict_1
import PyProof.Rows.DictSet
import KE.KDictOf
import PyProof.NeKinds
import PyProof.WalksEnum
import PyProof.EnumMake
import PyProof.Rows.Range3
import PyProof.FactsAll.list_2
import KE.KDictSum
import PyProof.Rows.SortStr
import PyProof.FactsAll.set_1
import PyProof.CollectWalk
import PyProof.FactsAll.set_2
import PyProof.Rows.SortShell
import PyProof.WalksS
import PyProof.ListRange
import Wide.Txt
import PyProof.SetKind
import PyProof.Rows.StrStep
import PyProof.StrCalls6
import PyProof.Logic
import PySem.Challenge.RW_growrow_k06_answers_by_hand
set_option Elab.async false
set_option linter.all false
set_option maxRecDepth 100000
set_option maxHeartbeats 4000000
set_option genInjectivity false
set_option genSizeOf false
-- CHANGE: your row's module here, as the last of these rows
namespace L2
inductive Ex2 {α0 α1 : Type} (p : α0 → α1 → Prop) : Prop
  | mk (a0 : α0) (a1 : α1) (h : p a0 a1) : Ex2 p
inductive Ex3 {α0 α1 α2 : Type} (p : α0 → α1 → α2 → Prop) : Prop
  | mk (a0 : α0) (a1 : α1) (a2 : α2) (h : p a0 a1 a2) : Ex3 p
inductive Ex4 {α0 α1 α2 α3 : Type} (p : α0 → α1 → α2 → α3 → Prop) : Prop
  | mk (a0 : α0) (a1 : α1) (a2 : α2) (a3 : α3) (h : p a0 a1 a2 a3) : Ex4 p
inductive Ex5 {α0 α1 α2 α3 α4 : Type} (p : α0 → α1 → α2 → α3 → α4 → Prop) : Prop
  | mk (a0 : α0) (a1 : α1) (a2 : α2) (a3 : α3) (a4 : α4) (h : p a0 a1 a2 a3 a4) : Ex5 p
inductive Ex6 {α0 α1 α2 α3 α4 α5 : Type} (p : α0 → α1 → α2 → α3 → α4 → α5 → Prop) : Prop
  | mk (a0 : α0) (a1 : α1) (a2 : α2) (a3 : α3) (a4 : α4) (a5 : α5) (h : p a0 a1 a2 a3 a4 a5) : Ex6 p
inductive Ex7 {α0 α1 α2 α3 α4 α5 α6 : Type} (p : α0 → α1 → α2 → α3 → α4 → α5 → α6 → Prop) : Prop
  | mk (a0 : α0) (a1 : α1) (a2 : α2) (a3 : α3) (a4 : α4) (a5 : α5) (a6 : α6) (h : p a0 a1 a2 a3 a4 a5 a6) : Ex7 p
inductive Ex8 {α0 α1 α2 α3 α4 α5 α6 α7 : Type} (p : α0 → α1 → α2 → α3 → α4 → α5 → α6 → α7 → Prop) : Prop
  | mk (a0 : α0) (a1 : α1) (a2 : α2) (a3 : α3) (a4 : α4) (a5 : α5) (a6 : α6) (a7 : α7) (h : p a0 a1 a2 a3 a4 a5 a6 a7) : Ex8 p
inductive Ex9 {α0 α1 α2 α3 α4 α5 α6 α7 α8 : Type} (p : α0 → α1 → α2 → α3 → α4 → α5 → α6 → α7 → α8 → Prop) : Prop
  | mk (a0 : α0) (a1 : α1) (a2 : α2) (a3 : α3) (a4 : α4) (a5 : α5) (a6 : α6) (a7 : α7) (a8 : α8) (h : p a0 a1 a2 a3 a4 a5 a6 a7 a8) : Ex9 p
end L2
namespace L2
open PySem PySem.Spec PyProof.Rows

noncomputable abbrev Key := Sum Int Str
noncomputable def keyIs : Key → Value → Bool
  | .inl k, v => Value.isInt k v
  | .inr x, v => Value.isStrOf x v
noncomputable def keyH (w : World) : Key → Int
  | .inl k => hashInt k
  | .inr x => hashStr w x
theorem keyIs_shape : ∀ {k : Key} {v : Value}, keyIs k v = true → (∃ i t, k = Sum.inl i ∧ v = Value.int i t) ∨ (∃ x t, k = Sum.inr x ∧ v = Value.str x t)
  | .inl i, v, h => by
    obtain ⟨t, e⟩ := Value.isInt_shape (k := i) (v := v) h
    exact .inl ⟨i, t, rfl, e⟩
  | .inr x, v, h => by
    obtain ⟨t, e⟩ := Value.isStrOf_shape (x := x) (v := v) h
    exact .inr ⟨x, t, rfl, e⟩
theorem key_ll (a b : Int) : decide ((Sum.inl a : Key) = Sum.inl b) = (a == b) := by
  by_cases e : a = b
  · subst e; simp
  · have h : ¬ (Sum.inl a : Key) = Sum.inl b := fun q => e (Sum.inl.inj q)
    rw [decide_eq_false h]
    exact (beq_eq_false_iff_ne.mpr e).symm
theorem key_rr (a b : Str) : decide ((Sum.inr a : Key) = Sum.inr b) = decide (a = b) := by
  by_cases e : a = b
  · subst e; simp
  · have h : ¬ (Sum.inr a : Key) = Sum.inr b := fun q => e (Sum.inr.inj q)
    rw [decide_eq_false h, decide_eq_false e]
theorem key_lr (a : Int) (b : Str) : decide ((Sum.inl a : Key) = Sum.inr b) = false := decide_eq_false (fun q => nomatch q)
theorem key_rl (a : Str) (b : Int) : decide ((Sum.inr a : Key) = Sum.inl b) = false := decide_eq_false (fun q => nomatch q)

noncomputable def mixKind (prog : Program) (w : World) : PySem.KeyKind prog w Key where
  is := keyIs
  hash := keyH w
  inj := fun v a b ha hb => by
    rcases keyIs_shape ha with ⟨i, t, rfl, rfl⟩ | ⟨x, t, rfl, rfl⟩
    · rcases keyIs_shape hb with ⟨j, u, rfl, e⟩ | ⟨y, u, rfl, e⟩
      · injection e with e1 _; rw [e1]
      · exact nomatch e
    · rcases keyIs_shape hb with ⟨j, u, rfl, e⟩ | ⟨y, u, rfl, e⟩
      · exact nomatch e
      · injection e with e1 _; rw [e1]
  byValue := fun k v h => by
    rcases keyIs_shape h with ⟨i, t, rfl, rfl⟩ | ⟨x, t, rfl, rfl⟩ <;> rfl
  pyHash := fun hv h => by
    rcases keyIs_shape hv with ⟨i, t, rfl, rfl⟩ | ⟨x, t, rfl, rfl⟩
    · exact wpAny_pyHash_int h
    · exact wpAny_pyHash_str h
  eqBool := fun hu hv h => by
    rcases keyIs_shape hu with ⟨i, t, rfl, rfl⟩ | ⟨x, t, rfl, rfl⟩
    · rcases keyIs_shape hv with ⟨j, u, rfl, rfl⟩ | ⟨y, u, rfl, rfl⟩
      · rw [key_ll] at h; exact wpAny_eqBool_int h
      · rw [key_lr] at h; exact SeqAt.EqAt.int_str i t y u _ _ _ _ h
    · rcases keyIs_shape hv with ⟨j, u, rfl, rfl⟩ | ⟨y, u, rfl, rfl⟩
      · rw [key_rl] at h; exact SeqAt.EqAt.str_int x t j u _ _ _ _ h
      · rw [key_rr] at h; exact wpAny_eqBool_str h
  «strs» := fun k x t v h => by
    rcases keyIs_shape h with ⟨i, u, rfl, e⟩ | ⟨y, u, rfl, e⟩
    · exact nomatch e
    · injection e with e1 _
      subst e1
      cases v <;> rfl

end L2

namespace L2
open PySem PySem.Spec PyProof.Rows

set_option genInjectivity true in
inductive V where
  | non | bl (b : Bool) | int (i : Int) | str (x : Str) | byt (b : Array UInt8) | flt (b : UInt64) | ref (a : Addr) | ty (n : String)
  deriving DecidableEq

noncomputable def RelV : V → Value → Prop
  | .non, u => u = Value.none
  | .bl b, u => u = Value.bool b
  | .int i, u => ∃ t, u = Value.int i t
  | .str x, u => ∃ t, u = Value.str x t
  | .byt b, u => ∃ t, u = Value.bytes b t
  | .flt b, u => ∃ t, u = Value.float b t
  | .ref a, u => u = Value.ref a
  | .ty n, u => u = Value.type n

inductive IsBl (x : V) (q : Bool → Prop) : Prop
  | mk (k : Bool) (e : x = .bl k) (h : q k) : IsBl x q
inductive IsIn (x : V) (q : Int → Prop) : Prop
  | mk (k : Int) (e : x = .int k) (h : q k) : IsIn x q
inductive In2 (x y : V) (q : Int → Int → Prop) : Prop
  | mk (i j : Int) (e : x = .int i) (f : y = .int j) (h : q i j) : In2 x y q
noncomputable abbrev Vals : List V → List Value → Prop := Paired RelV
theorem Vals.length {xs : List V} {us : List Value} (r : Vals xs us) : xs.length = us.length := Paired.length r
theorem Vals.get : ∀ {xs : List V} {us : List Value} {i : Nat} {x : V}, Vals xs us → xs[i]? = some x → ∃ u, us[i]? = some u ∧ RelV x u
  | _, _, _, _, .nil, e => by simp at e
  | _, _, 0, _, .cons r _, e => by simp at e; subst e; exact ⟨_, rfl, r⟩
  | _, _, i + 1, x, .cons _ t, e => by
    obtain ⟨u, h1, h2⟩ := Vals.get (i := i) (x := x) t (by simpa using e)
    exact ⟨u, by simpa using h1, h2⟩
theorem Vals.set {x : V} {u : Value} (r : RelV x u) : ∀ {xs : List V} {us : List Value} (i : Nat), Vals xs us → Vals (xs.set i x) (us.set i u)
  | _, _, _, .nil => .nil
  | _, _, 0, .cons _ t => .cons r t
  | _, _, i + 1, .cons q t => .cons q (Vals.set r i t)
theorem Vals.append : ∀ {xs ys : List V} {us ws : List Value}, Vals xs us → Vals ys ws → Vals (xs ++ ys) (us ++ ws)
  | _, _, _, _, .nil, s => s
  | _, _, _, _, .cons r t, s => .cons r (Vals.append t s)
theorem Vals.take : ∀ {xs : List V} {us : List Value} (n : Nat), Vals xs us → Vals (xs.take n) (us.take n)
  | _, _, 0, _ => .nil
  | _, _, _ + 1, .nil => .nil
  | _, _, n + 1, .cons r t => .cons r (Vals.take n t)
theorem Vals.drop : ∀ {xs : List V} {us : List Value} (n : Nat), Vals xs us → Vals (xs.drop n) (us.drop n)
  | _, _, 0, r => r
  | _, _, _ + 1, .nil => .nil
  | _, _, n + 1, .cons _ t => Vals.drop n t
theorem Vals.none_of : ∀ {xs : List V} {us : List Value} {i : Nat}, Vals xs us → xs[i]? = none → us[i]? = none := fun {xs us i} r e => by
  have h1 := r.length
  have h2 : xs.length ≤ i := List.getElem?_eq_none_iff.mp e
  exact List.getElem?_eq_none_iff.mpr (by omega)

noncomputable def RelO : Option V → Option Value → Prop
  | some v, some u => RelV v u
  | none, none => True
  | _, _ => False
noncomputable def KV {κ : Type} : List (κ × V) → List (κ × Value) → Prop := Paired fun (p : κ × V) (q : κ × Value) => p.1 = q.1 ∧ RelV p.2 q.2

noncomputable def kV : Key → V
  | .inl i => .int i
  | .inr x => .str x

inductive HO where
  | lst (xs : List V)
  | tup (xs : List V)
  | dK (kvs : List (Key × V)) | dT (kvs : List (List Key × V))
  | set (S : Int → Bool) (n : Nat)
  | ins (C dx : Addr) (fs : List (Str × V))
  | own (x : Addr)
  | xd (fs : List (Str × V))
  | met (f x : Addr)
  | rng (lo hi : Int)
  | frz (o : Obj) (u : HO)
  | tbl (ps : Array Value)
  | ext (φ : Heap → Prop)

noncomputable abbrev Hp := Addr → Option HO
noncomputable def upd (H : Hp) (a : Addr) (o : HO) : Hp := fun b => if b = a then some o else H b
theorem upd_same {H : Hp} {a : Addr} {o : HO} : upd H a o a = some o := by unfold upd; rw [if_pos rfl]
theorem upd_ne {H : Hp} {a b : Addr} {o : HO} (h : b ≠ a) : upd H a o b = H b := by unfold upd; rw [if_neg h]
theorem ne_of_none {H : Hp} {a b : Addr} {o : HO} (h : H a = some o) (h' : H b = none) : a ≠ b := by
  intro e; subst e; rw [h] at h'; cases h'

section
variable (P : Program) (w : World)
noncomputable def ObjOk (H : Hp) (h : Heap) (a : Addr) : HO → Prop
  | .lst xs => xs.length ≤ sizeLine ∧ ∃ (its : List Value) (n : Nat), Vals xs its ∧ h.get? a = some { cls := .type "list", data := .seq its.toArray n }
  | .tup xs => xs.length ≤ sizeLine ∧ ∃ its : List Value, Vals xs its ∧ IsTup h a its.toArray
  | .dK kvs => kvs.length ≤ sizeLine ∧ (a == sysModules) = false ∧ ∃ vs, KV kvs vs ∧ h.DictOf (mixKind P w) a vs
  | .dT kvs => kvs.length ≤ sizeLine ∧ (a == sysModules) = false ∧ ∃ xs : List (List Key × Addr × Value),
      Paired (fun (p : List Key × V) (q : List Key × Addr × Value) => p.1 = q.1 ∧ H q.2.1 = some (.tup (p.1.map kV)) ∧ RelV p.2 q.2.2) kvs xs ∧
      ∃ o es ep, h.get? a = some o ∧ o.ExactDict ∧ o.data = .dict es ep ∧ es.toList = xs.map (entryOfKey (tupleKind (mixKind P w))) ∧ (xs.map (·.1)).Nodup
  | .set S n => h.SetOf (intKind P w) a S n
  | .ins C dx fs => H dx = some (.own a) ∧ fs.length ≤ 1000 ∧ dx ≠ a ∧ h.get? a = some (PySem.W.instObj C dx) ∧
      ∃ mA, h.Ns1 dx mA ∧ (∀ f, RelO (fs.lookup f) (mA f)) ∧ PySem.Within mA (fs.map (·.1))
  | .own _ => ∃ o, h.get? a = some o
  | .xd fs => ∃ mA, h.Ns1 a mA ∧ ∀ f, RelO (fs.lookup f) (mA f)
  | .rng lo hi => ∃ t u v, h.get? a = some { cls := .type "range", data := .fields #[.int lo t, .int hi u, .int 1 v] }
  | .frz o u => h.get? a = some o ∧ ObjOk H h a u
  | .tbl ps => h.get? a = some { cls := .none, data := .fields ps }
  | .met f x => h.get? a = some (PySem.W.methodObj (.ref f) (.ref x))
  | .ext φ => φ h ∧ (∃ o, h.get? a = some o) ∧ ∀ h1 h2 : Heap, φ h1 → (∀ o, h1.get? a = some o → h2.get? a = some o) → φ h2
noncomputable def HOk (H : Hp) (h : Heap) : Prop := ∀ a o, H a = some o → ObjOk P w H h a o
end

section
variable {P : Program} {w : World} {H H' : Hp} {h h' : Heap} {a : Addr} {o : HO}
theorem ObjOk.lt (x : ObjOk P w H h a o) : a < h.objs.size := by
  cases o with
  | lst xs => obtain ⟨_, _, _, _, e⟩ := x; exact Heap.lt_size e
  | tup xs => obtain ⟨_, _, _, p⟩ := x; exact p.lt
  | dK kvs => obtain ⟨_, _, _, _, o, _, _, e, _⟩ := x; exact Heap.lt_size e
  | dT kvs => obtain ⟨_, _, _, _, o, _, _, e, _⟩ := x; exact Heap.lt_size e
  | set S n => obtain ⟨o, _, _, _, e, _⟩ := x; exact Heap.lt_size e
  | ins C dx fs => obtain ⟨_, _, _, e, _⟩ := x; exact Heap.lt_size e
  | own y => obtain ⟨_, e⟩ := x; exact Heap.lt_size e
  | xd fs => obtain ⟨_, ⟨_, _, _, e, _⟩, _⟩ := x; exact Heap.lt_size e
  | rng lo hi => obtain ⟨_, _, _, e⟩ := x; exact Heap.lt_size e
  | frz ob u => obtain ⟨e, _⟩ := x; exact Heap.lt_size e
  | tbl ps => exact Heap.lt_size (show h.get? a = some _ from x)
  | met f y => exact Heap.lt_size (show h.get? a = some _ from x)
  | ext φ => obtain ⟨_, ⟨_, e⟩, _⟩ := x; exact Heap.lt_size e
theorem Paired.mapP {α β : Type} {F G : α → β → Prop} : ∀ {l₁ : List α} {l₂ : List β}, Paired F l₁ l₂ → (∀ a b, F a b → G a b) → Paired G l₁ l₂
  | _, _, .nil, _ => .nil
  | _, _, .cons r t, f => .cons (f _ _ r) (Paired.mapP t f)
theorem ObjOk.stay (x : ObjOk P w H h a o) (k : ∀ b u, (b = a ∨ H b = some (.own a)) → h.get? b = some u → h'.get? b = some u)
    (ho : ∀ b, H b = some (.own a) → H' b = some (.own a)) (ht : ∀ b xs, H b = some (.tup xs) → H' b = some (.tup xs)) : ObjOk P w H' h' a o := by
  induction o with
  | lst xs => obtain ⟨z, its, n, r, e⟩ := x; exact ⟨z, its, n, r, k _ _ (.inl rfl) e⟩
  | tup xs => obtain ⟨z, its, r, ob, e, c⟩ := x; exact ⟨z, its, r, ob, k _ _ (.inl rfl) e, c⟩
  | dK kvs => obtain ⟨z, y, vs, r, ob, es, ep, e, c⟩ := x; exact ⟨z, y, vs, r, ob, es, ep, k _ _ (.inl rfl) e, c⟩
  | dT kvs =>
    obtain ⟨z, y, xs, r, ob, es, ep, e, c⟩ := x
    exact ⟨z, y, xs, Paired.mapP r fun p q z => ⟨z.1, ht _ _ z.2.1, z.2.2⟩, ob, es, ep, k _ _ (.inl rfl) e, c⟩
  | set S n => obtain ⟨ob, es, ep, t, e, c⟩ := x; exact ⟨ob, es, ep, t, k _ _ (.inl rfl) e, c⟩
  | ins C dx fs =>
    obtain ⟨d, z, ne, e, mA, ⟨od, es, ep, e2, c⟩, r⟩ := x
    exact ⟨ho _ d, z, ne, k _ _ (.inl rfl) e, mA, ⟨od, es, ep, k _ _ (.inr d) e2, c⟩, r⟩
  | own y => obtain ⟨ob, e⟩ := x; exact ⟨ob, k _ _ (.inl rfl) e⟩
  | xd fs => obtain ⟨mA, ⟨od, es, ep, e, c⟩, r⟩ := x; exact ⟨mA, ⟨od, es, ep, k _ _ (.inl rfl) e, c⟩, r⟩
  | rng lo hi => obtain ⟨t, u, v, e⟩ := x; exact ⟨t, u, v, k _ _ (.inl rfl) e⟩
  | frz ob u ih => obtain ⟨e, q⟩ := x; exact ⟨k _ _ (.inl rfl) e, ih q⟩
  | tbl ps =>
    have e : h.get? a = some { cls := .none, data := .fields ps } := x
    show h'.get? a = some { cls := .none, data := .fields ps }
    exact k a _ (.inl rfl) e
  | met f y =>
    have e : h.get? a = some (PySem.W.methodObj (.ref f) (.ref y)) := x
    show h'.get? a = some (PySem.W.methodObj (.ref f) (.ref y))
    exact k a _ (.inl rfl) e
  | ext φ => obtain ⟨p, ⟨o, e⟩, st⟩ := x; exact ⟨st _ _ p fun o q => k _ _ (.inl rfl) q, ⟨o, k _ _ (.inl rfl) e⟩, st⟩
theorem HOk.lt (x : HOk P w H h) (e : H a = some o) : a < h.objs.size := (x a o e).lt
theorem HOk.fresh (x : HOk P w H h) (e : h.objs.size ≤ a) : H a = none := by
  cases q : H a with
  | none => rfl
  | some u => exact absurd (Nat.lt_of_lt_of_le (x.lt q) e) (Nat.lt_irrefl _)
theorem HOk.kept (x : HOk P w H h) (k : ∀ b u, h.get? b = some u → h'.get? b = some u) : HOk P w H h' := fun a o e =>
  (x a o e).stay (fun b u _ q => k b u q) (fun _ q => q) fun _ _ q => q
theorem HOk.laid (x : HOk P w H h) (k : ∀ b u, h.get? b = some u → h'.get? b = some u) (hp : h.objs.size ≤ a) (new : ObjOk P w (upd H a o) h' a o) : HOk P w (upd H a o) h' := fun b u e => by
  have hn := x.fresh hp
  by_cases hb : b = a
  · subst hb; rw [upd_same] at e; cases e; exact new
  · rw [upd_ne hb] at e
    exact (x b u e).stay (fun c v _ q => k c v q) (fun c q => by rw [upd_ne (ne_of_none q hn)]; exact q) fun c xs q => by rw [upd_ne (ne_of_none q hn)]; exact q
end

noncomputable def Rd (H : Hp) (a : Addr) (u : HO) : Prop := H a = some u ∨ ∃ o, H a = some (.frz o u)
theorem Rd.of {H : Hp} {a : Addr} {u : HO} (h : H a = some u) : Rd H a u := .inl h
theorem Rd.ok {P : Program} {w : World} {H : Hp} {h : Heap} {a : Addr} {u : HO} (r : Rd H a u) (x : HOk P w H h) : ObjOk P w H h a u := by
  rcases r with r | ⟨o, r⟩
  · exact x a u r
  · obtain ⟨_, q⟩ := x a _ r
    exact q
noncomputable def Mut : Option HO → Prop
  | some (.lst _) => True
  | some (.dK _) => True
  | some (.dT _) => True
  | some (.set _ _) => True
  | some (.ins _ _ _) => True
  | some (.ext _) => True
  | _ => False
section
variable {P : Program} {w : World} {H : Hp} {h h' : Heap} {x e : Addr} {o' : HO}
theorem HOk.write (ok : HOk P w H h) (mu : Mut (H x)) (he : e = x ∨ H e = some (.own x)) (k : ∀ b u, b ≠ e → h.get? b = some u → h'.get? b = some u) (heo : ∃ u, h'.get? e = some u)
    (new : ObjOk P w (upd H x o') h' x o') : HOk P w (upd H x o') h' := fun b u q => by
  have nown : ∀ c y, H c = some (.own y) → c ≠ x := fun c y r z => by subst z; rw [r] at mu; exact mu
  have ntup : ∀ c xs, H c = some (.tup xs) → c ≠ x := fun c xs r z => by subst z; rw [r] at mu; exact mu
  by_cases hb : b = x
  · subst hb; rw [upd_same] at q; cases q; exact new
  · rw [upd_ne hb] at q
    by_cases hbe : b = e
    · have q' : H b = some (.own x) := by
        rcases he with z | z
        · exact absurd (hbe.trans z) hb
        · rw [hbe]; exact z
      rw [q] at q'; cases q'
      obtain ⟨v, hv⟩ := heo
      exact ⟨v, by rw [hbe]; exact hv⟩
    · refine (ok b u q).stay (fun c v hc r => k c v ?_ r) (fun c r => by rw [upd_ne (nown c b r)]; exact r) fun c xs r => by rw [upd_ne (ntup c xs r)]; exact r
      rcases hc with rfl | hc
      · exact hbe
      · rintro rfl
        rcases he with z | z
        · exact nown c b hc z
        · rw [hc] at z; cases z; exact hb rfl
end

structure Un (fs ex : List Addr) (H H' : Hp) (h h' : Heap) : Prop where
  keep : ∀ b o, h.get? b = some o → H b = none → b ∉ fs → b ∉ ex → h'.get? b = some o
  slot : ∀ b o, h.get? b = some o → H b = none → b ∈ fs → b ∉ ex → ∃ sl, h'.get? b = some { o with slots := sl }
  free : ∀ b o, h.get? b = some o → H b = none → b ∉ ex → H' b = none
  there : ∀ b o, h.get? b = some o → b ∉ ex → ∃ o', h'.get? b = some o'
  tups : ∀ b xs, H b = some (.tup xs) → H' b = some (.tup xs)
  frzs : ∀ b o u, H b = some (.frz o u) → H' b = some (.frz o u)
  tbls : ∀ b ps, H b = some (.tbl ps) → ∃ more, H' b = some (.tbl (ps ++ more))
section
variable {fs fs' ex ex' : List Addr} {H H1 H2 : Hp} {h h1 h2 h' : Heap} {a x e : Addr} {o : HO}
theorem Un.any (u : Un fs ex H H1 h h1) {b : Addr} {ob : Obj} (q : h.get? b = some ob) (n : H b = none) (hx : b ∉ ex) : ∃ sl, h1.get? b = some { ob with slots := sl } := by
  by_cases hb : b ∈ fs
  · exact u.slot b ob q n hb hx
  · exact ⟨ob.slots, u.keep b ob q n hb hx⟩
theorem Un.trans (a : Un fs ex H H1 h h1) (b : Un fs ex H1 H2 h1 h2) : Un fs ex H H2 h h2 where
  keep := fun c ob q n hc hx => b.keep c ob (a.keep c ob q n hc hx) (a.free c ob q n hx) hc hx
  slot := fun c ob q n hc hx => by
    obtain ⟨sl, e1⟩ := a.slot c ob q n hc hx
    obtain ⟨sl', e2⟩ := b.slot c _ e1 (a.free c ob q n hx) hc hx
    exact ⟨sl', e2⟩
  free := fun c ob q n hx => by
    obtain ⟨o', e1⟩ := a.there c ob q hx
    exact b.free c o' e1 (a.free c ob q n hx) hx
  there := fun c ob q hx => by
    obtain ⟨o', e1⟩ := a.there c ob q hx
    exact b.there c o' e1 hx
  tups := fun c xs q => b.tups c xs (a.tups c xs q)
  frzs := fun c ob xs q => b.frzs c ob xs (a.frzs c ob xs q)
  tbls := fun c ps q => by
    obtain ⟨m1, e1⟩ := a.tbls c ps q
    obtain ⟨m2, e2⟩ := b.tbls c _ e1
    exact ⟨m1 ++ m2, by rw [e2, Array.append_assoc]⟩
theorem Un.kept (k : ∀ b u, h.get? b = some u → h'.get? b = some u) : Un fs ex H H h h' :=
  ⟨fun b ob q _ _ _ => k b ob q, fun b ob q _ _ _ => ⟨ob.slots, k b ob q⟩, fun _ _ _ n _ => n, fun b ob q _ => ⟨ob, k b ob q⟩, fun _ _ q => q, fun _ _ _ q => q, fun _ ps q => ⟨#[], by rw [q]; simp⟩⟩
theorem Un.refl : Un fs ex H H h h := Un.kept fun _ _ q => q
theorem Un.laid (k : ∀ b u, h.get? b = some u → h'.get? b = some u) (hp : h.objs.size ≤ a) (hn : H a = none) : Un fs ex H (upd H a o) h h' where
  keep := fun b u q _ _ _ => k b u q
  slot := fun b u q _ _ _ => ⟨u.slots, k b u q⟩
  free := fun b u q n _ => by rw [upd_ne (Nat.ne_of_lt (Nat.lt_of_lt_of_le (Heap.lt_size q) hp))]; exact n
  there := fun b u q _ => ⟨u, k b u q⟩
  tups := fun b xs q => by rw [upd_ne (ne_of_none q hn)]; exact q
  frzs := fun b u xs q => by rw [upd_ne (ne_of_none q hn)]; exact q
  tbls := fun b ps q => ⟨#[], by rw [upd_ne (ne_of_none q hn), q]; simp⟩
theorem Un.write (mu : Mut (H x)) (he : e = x ∨ H e = some (.own x)) (k : ∀ b u, b ≠ e → h.get? b = some u → h'.get? b = some u) (heo : ∃ u, h'.get? e = some u) : Un fs ex H (upd H x o) h h' := by
  have hx : ∀ b, H b = none → b ≠ x := fun b n z => by subst z; rw [n] at mu; exact mu
  have hb : ∀ b, H b = none → b ≠ e := fun b n z => by
    subst z
    rcases he with r | r
    · exact hx b n r
    · rw [n] at r; cases r
  have hm : ∀ b u, H b = some u → ¬ Mut (some u) → b ≠ x := fun b u q nm z => by subst z; rw [q] at mu; exact nm mu
  refine ⟨fun b u q n _ _ => k b u (hb b n) q, fun b u q n _ _ => ⟨u.slots, k b u (hb b n) q⟩, fun b u q n _ => by rw [upd_ne (hx b n)]; exact n, fun b u q _ => ?_,
    fun b xs q => by rw [upd_ne (hm b _ q fun z => z)]; exact q, fun b u xs q => by rw [upd_ne (hm b _ q fun z => z)]; exact q, fun b ps q => ⟨#[], by rw [upd_ne (hm b _ q fun z => z), q]; simp⟩⟩
  by_cases hbe : b = e
  · subst hbe; exact heo
  · exact ⟨u, k b u hbe q⟩
theorem Un.mono (u : Un fs ex H H1 h h1) (hs : ∀ b ∈ fs, b ∈ fs') (hx : ∀ b ∈ ex, b ∈ ex') : Un fs' ex' H H1 h h1 :=
  ⟨fun b ob q n hb he => u.keep b ob q n (fun z => hb (hs b z)) fun z => he (hx b z), fun _ _ q n _ he => u.any q n fun z => he (hx _ z), fun b ob q n he => u.free b ob q n fun z => he (hx b z), fun b ob q he => u.there b ob q fun z => he (hx b z), u.tups, u.frzs, u.tbls⟩
end

noncomputable def trk (h : Heap) (H : Hp) : List Addr := (List.range h.objs.size).filter fun a => (H a).isSome
noncomputable def hidT (h : Heap) (H : Hp) : Heap := PySem.W.hideAll h (trk h H)
theorem hidT_size (h : Heap) (H : Hp) : (hidT h H).objs.size = h.objs.size := PySem.W.hideAll_size _ _
theorem hidT_get {h : Heap} {H : Hp} {b : Addr} {o : Obj} (e : h.get? b = some o) (n : H b = none) : (hidT h H).get? b = some o :=
  PySem.W.hideAll_get _ e fun hm => by
    have q : (H b).isSome = true := (List.mem_filter.mp hm).2
    rw [n] at q; simp at q
theorem of_hidT {h : Heap} {H : Hp} {b : Addr} {o : Obj} (e : (hidT h H).get? b = some o) : h.get? b = some o ∧ H b = none := by
  have e' : h.get? b = some o := PySem.W.of_hideAll (trk h H) e
  refine ⟨e', ?_⟩
  cases q : H b with
  | none => rfl
  | some x =>
    have hm : b ∈ trk h H := List.mem_filter.mpr ⟨List.mem_range.mpr (Heap.lt_size e'), by simp [q]⟩
    have z : (hidT h H).get? b = none := PySem.W.hideAll_none (trk h H) hm
    rw [z] at e; cases e

noncomputable def allNews (g h : Heap) (L : Addr) : List (Addr × Obj) := (List.range h.objs.size).filterMap fun a => if a = L ∨ (g.get? a).isSome = true then none else (h.get? a).map fun o => (a, o)
noncomputable def rest (g h : Heap) (L d : Addr) : List (Addr × Obj) := (allNews g h L).filter fun p => decide (p.1 ≠ d)
end L2

namespace L2
open PySem PySem.Spec PyProof.Rows

structure Mod (K : PySem.W.Frag) (mg : Str → Option Value) (base : Heap) : Prop where
  kin : K.In base
  glob : base.Ns mainGlobals mg
  blt : ∃ mb, base.Ns builtinsNs mb ∧ ∀ x : Str, x ≠ "__name__" → mb x = bootBuiltins x
  nolimit : base.NoLimit

structure Cx where
  prog : Program
  w : World
  K : PySem.W.Frag
  mg : Str → Option Value
  base : Heap
  A : Around
  N : List Str
  s₀ : Shared
  H₀ : Hp
  env : Env
  outer : List Env
  stack : List Env
  ex : List Addr
  fn : Str → Bool
  calm : Bool
  pn : List (Addr × Obj)
  xe : Value → Shared → Prop
  nz : Str → Bool := fun _ => false
noncomputable def Nz (u : Value) : Prop := ∀ z t, u = .str z t → t ≠ 0
noncomputable def frs (l : List Env) : List Addr := l.filterMap (·.frame)
noncomputable abbrev Cx.fs (X : Cx) : List Addr := frs X.outer

noncomputable def Vis (sc : Scope) (x : Str) : Prop := sc.names.lookup x = some .local ∨ sc.names.lookup x = some .cell ∨ sc.names.lookup x = some .free
noncomputable def Loc (sc : Scope) (x : Str) : Prop := sc.names.lookup x = some .local ∨ sc.names.lookup x = some .cell
noncomputable def Look (env : Env) (h : Heap) (m : Str → Option Value) (x : Str) (u : Value) : Prop :=
  (env.kindOf x = some .local ∧ m x = some u) ∨ ((env.kindOf x = some .cell ∨ env.kindOf x = some .free) ∧ ∃ c, env.cells.lookup x = some c ∧ h.IsCell c (some u))

structure Cx.Ok (X : Cx) : Prop where
  mod : Mod X.K X.mg X.base
  kind : X.env.scope.kind = .function
  glob : X.env.globals = mainGlobals
  blt : X.env.builtins = builtinsNs
  above : X.s₀.heap.objs.size ≤ X.env.locals
  inj : ∀ x y c, X.env.cells.lookup x = some c → X.env.cells.lookup y = some c → x = y
  has : ∀ x, (X.env.kindOf x = some .cell ∨ X.env.kindOf x = some .free) → ∃ c, X.env.cells.lookup x = some c
  cab : ∀ x c, X.fn x = true → X.env.cells.lookup x = some c → X.s₀.heap.objs.size ≤ c
  hd : X.calm = true → X.A.handled = none
  frames : X.A.frames = some X.stack
  stk : X.stack = X.outer ∨ (X.stack = X.env :: X.outer ∧ X.env.frame = some X.env.locals)
  exf : ∀ b ∈ X.ex, b ≠ X.env.locals ∧ ∀ x c, X.env.cells.lookup x = some c → c ≠ b
  bs : ∀ b o, X.base.get? b = some o → X.s₀.heap.get? b = some o ∧ X.H₀ b = none
  bsz : X.base.objs.size ≤ X.s₀.heap.objs.size
  noex : ∀ b o, X.base.get? b = some o → b ∉ X.ex
  exfs : ∀ b ∈ X.ex, b ∉ X.fs
  funs : X.s₀.heap.FunFrames X.base X.outer
  frf : ∀ b ∈ X.fs, X.H₀ b = none

structure Inv (X : Cx) (pins : List (Addr × Obj)) (σ : List (Option V)) (H : Hp) (s : Shared) : Prop where
  ok : X.Ok
  os : s.os = X.s₀.os
  bare : AllBare s.gens
  base : Un X.fs X.ex X.H₀ H X.s₀.heap s.heap
  loc : ∃ m, s.heap.Ns X.env.locals m ∧ ∀ (i : Nat) (x : Str) (v : V), X.N[i]? = some x → σ[i]? = some (some v) → Vis X.env.scope x → ∃ u, (RelV v u ∧ (X.nz x = true → Nz u)) ∧ Look X.env s.heap m x u
  cell : ∀ x c, X.env.cells.lookup x = some c → ∃ v, s.heap.IsCell c v
  free : H X.env.locals = none
  freeC : ∀ x c, X.env.cells.lookup x = some c → H c = none
  pin : ∀ p ∈ X.pn ++ pins, s.heap.get? p.1 = some p.2 ∧ H p.1 = none ∧ p.1 ≠ X.env.locals ∧ p.1 ∉ X.fs ∧ ∀ v, p.2.data ≠ .cell v
  hok : HOk X.prog X.w H s.heap
  len : σ.length = X.N.length

section
variable {X : Cx} {pins : List (Addr × Obj)} {σ : List (Option V)} {H H' : Hp} {s : Shared} {h' : Heap}

theorem Cx.Ok.nofr (ok : X.Ok) {b : Addr} {o : Obj} (e : X.base.get? b = some o) : b ∉ X.fs := fun hb => by
  have := (ok.funs.mem hb).1
  rw [e] at this; cases this
theorem Inv.bs (I : Inv X pins σ H s) : ∀ b o, X.base.get? b = some o → s.heap.get? b = some o ∧ H b = none := fun b o e =>
  ⟨I.base.keep b o (I.ok.bs b o e).1 (I.ok.bs b o e).2 (I.ok.nofr e) (I.ok.noex b o e), I.base.free b o (I.ok.bs b o e).1 (I.ok.bs b o e).2 (I.ok.noex b o e)⟩
theorem Inv.bk (I : Inv X pins σ H s) : ∀ b o, X.base.get? b = some o → s.heap.get? b = some o := fun b o e => (I.bs b o e).1
theorem Inv.mod (I : Inv X pins σ H s) : Mod X.K X.mg X.base := I.ok.mod
theorem Inv.kIn (I : Inv X pins σ H s) : X.K.In s.heap := I.ok.mod.kin.keeps I.bk
theorem Inv.nolimit (I : Inv X pins σ H s) : s.heap.NoLimit := I.ok.mod.nolimit.keeps I.bk
theorem Inv.fr (I : Inv X pins σ H s) : ∃ m, Fr X.base X.env.locals s.heap m :=
  let ⟨m, hn, _⟩ := I.loc
  ⟨m, hn, I.bk, Nat.le_trans I.ok.bsz I.ok.above⟩
theorem Inv.lt (I : Inv X pins σ H s) : X.env.locals < s.heap.objs.size := let ⟨_, hn, _⟩ := I.loc; hn.lt
theorem Inv.sz (I : Inv X pins σ H s) : X.s₀.heap.objs.size ≤ s.heap.objs.size := Nat.le_trans I.ok.above (Nat.le_of_lt I.lt)
theorem Inv.nofs (I : Inv X pins σ H s) {a : Addr} (h : s.heap.objs.size ≤ a) : a ∉ X.fs := fun hb => by
  obtain ⟨_, o, ho, _⟩ := I.ok.funs.mem hb
  exact absurd (Nat.lt_of_lt_of_le (Heap.lt_size ho) (Nat.le_trans I.sz h)) (Nat.lt_irrefl _)
theorem Inv.cne (I : Inv X pins σ H s) : ∀ x c, X.env.cells.lookup x = some c → c ≠ X.env.locals := fun x c e z => by
  obtain ⟨v, o, ho, hd⟩ := I.cell x c e
  obtain ⟨m, ⟨o', es, ep, ho', hd', _⟩, _⟩ := I.loc
  rw [z, ho'] at ho; cases ho; rw [hd'] at hd; cases hd
theorem Inv.funs (I : Inv X pins σ H s) : s.heap.FunFrames X.base X.outer := by
  have all : ∀ (l : List Env), (∀ b ∈ frs l, b ∈ X.fs) → X.s₀.heap.FunFrames X.base l → s.heap.FunFrames X.base l := by
    intro l
    induction l with
    | nil => intro _ _; trivial
    | cons env r ih =>
      intro hs hl
      obtain ⟨hk, ⟨L, o, hf, hn, ho, hd⟩, hr⟩ := hl
      have hL : L ∈ X.fs := hs L (by unfold frs; rw [List.filterMap_cons, hf]; exact List.mem_cons_self)
      obtain ⟨sl, e⟩ := I.base.slot L o ho (I.ok.frf L hL) hL fun z => I.ok.exfs L z hL
      exact ⟨hk, ⟨L, _, hf, hn, e, hd⟩, ih (fun b hb => hs b (by unfold frs; rw [List.filterMap_cons, hf]; exact List.mem_cons_of_mem _ hb)) hr⟩
  exact all X.outer (fun _ hb => hb) I.ok.funs

theorem Inv.stack (I : Inv X pins σ H s) : s.heap.FunFrames X.base X.stack := by
  rcases I.ok.stk with e | ⟨e, hf⟩
  · rw [e]; exact I.funs
  · rw [e]
    obtain ⟨m, hn, _⟩ := I.loc
    refine .cons (by rw [I.ok.kind]; decide) hf hn ?_ I.funs
    exact Heap.get?_none_of_le (Nat.le_trans I.ok.bsz I.ok.above)
theorem Inv.stkSub (I : Inv X pins σ H s) : ∀ b ∈ frs X.stack, b ∈ X.env.locals :: X.fs := fun b hb => by
  rcases I.ok.stk with e | ⟨e, hf⟩
  · rw [e] at hb; exact List.mem_cons_of_mem _ hb
  · rw [e] at hb
    unfold frs at hb
    rw [List.filterMap_cons, hf] at hb
    exact hb
theorem Inv.stkFree (I : Inv X pins σ H s) : ∀ b ∈ frs X.stack, H b = none := fun b hb => by
  rcases List.mem_cons.mp (I.stkSub b hb) with e | hb
  · rw [e]; exact I.free
  · obtain ⟨_, o, ho, _⟩ := I.ok.funs.mem hb
    exact I.base.free b o ho (I.ok.frf b hb) fun z => I.ok.exfs b z hb

theorem Inv.step {g' : Array GenState} {t' : Nat} {d' : Drawn} {ch : List Addr} (I : Inv X pins σ H s)
    (hch : ∀ b ∈ ch, (b ∈ X.ex ∨ X.s₀.heap.objs.size ≤ b) ∧ b ≠ X.env.locals ∧ (∀ x c, X.env.cells.lookup x = some c → c ≠ b) ∧ ∀ p ∈ X.pn ++ pins, p.1 ≠ b)
    (keep : ∀ b o, b ≠ X.env.locals → b ∉ X.fs → b ∉ ch → s.heap.get? b = some o → H b = none → h'.get? b = some o)
    (slot : ∀ b o, b ≠ X.env.locals → b ∈ X.fs → b ∉ ch → s.heap.get? b = some o → H b = none → ∃ sl, h'.get? b = some { o with slots := sl }) (free : ∀ b o, b ∉ ch → s.heap.get? b = some o → H b = none → H' b = none)
    (there : ∀ b o, b ∉ ch → s.heap.get? b = some o → ∃ o', h'.get? b = some o')
    (tups : ∀ b xs, H b = some (.tup xs) → H' b = some (.tup xs)) (frzs : ∀ b o u, H b = some (.frz o u) → H' b = some (.frz o u)) (tbls : ∀ b ps, H b = some (.tbl ps) → ∃ more, H' b = some (.tbl (ps ++ more)))
    (ns : ∀ m, s.heap.Ns X.env.locals m → h'.Ns X.env.locals m) (hok : HOk X.prog X.w H' h') (hg : AllBare g') :
    Inv X pins σ H' { s with heap := h', gens := g', drawn := d', toks := t' } := by
  have neL : ∀ b o, X.s₀.heap.get? b = some o → b ≠ X.env.locals := fun b o e => Nat.ne_of_lt (Nat.lt_of_lt_of_le (Heap.lt_size e) I.ok.above)
  have neC : ∀ b o, X.s₀.heap.get? b = some o → b ∉ X.ex → b ∉ ch := fun b o e hx hb => by
    rcases (hch b hb).1 with z | z
    · exact hx z
    · exact absurd (Nat.lt_of_lt_of_le (Heap.lt_size e) z) (Nat.lt_irrefl _)
  have cellK : ∀ x c, X.env.cells.lookup x = some c → ∀ v, s.heap.IsCell c v → h'.IsCell c v := fun x c e v ⟨o, ho, hd⟩ => by
    have nch : c ∉ ch := fun z => (hch c z).2.2.1 x c e rfl
    by_cases hc : c ∈ X.fs
    · obtain ⟨sl, q⟩ := slot c o (I.cne x c e) hc nch ho (I.freeC x c e)
      exact ⟨_, q, hd⟩
    · exact ⟨o, keep c o (I.cne x c e) hc nch ho (I.freeC x c e), hd⟩
  refine ⟨I.ok, I.os, hg, ⟨fun b o e n hb hx => ?_, fun b o e n hb hx => ?_, fun b o e n hx => ?_, fun b o e hx => ?_, fun b xs e => tups b xs (I.base.tups b xs e), fun b o xs e => frzs b o xs (I.base.frzs b o xs e), fun b ps e => ?_⟩, ?_, fun x c e => ?_, ?_, fun x c e => ?_, fun p hp => ?_, hok, I.len⟩
  · exact keep b o (neL b o e) hb (neC b o e hx) (I.base.keep b o e n hb hx) (I.base.free b o e n hx)
  · obtain ⟨sl, e1⟩ := I.base.slot b o e n hb hx
    obtain ⟨sl', e2⟩ := slot b _ (neL b o e) hb (neC b o e hx) e1 (I.base.free b o e n hx)
    exact ⟨sl', e2⟩
  · obtain ⟨o', e1⟩ := I.base.there b o e hx
    exact free b o' (neC b o e hx) e1 (I.base.free b o e n hx)
  · obtain ⟨o', e1⟩ := I.base.there b o e hx
    exact there b o' (neC b o e hx) e1
  · obtain ⟨m1, e1⟩ := I.base.tbls b ps e
    obtain ⟨m2, e2⟩ := tbls b _ e1
    exact ⟨m1 ++ m2, by rw [e2, Array.append_assoc]⟩
  · obtain ⟨m, hn, hl⟩ := I.loc
    refine ⟨m, ns m hn, fun i x v e1 e2 e3 => ?_⟩
    obtain ⟨u, r, l⟩ := hl i x v e1 e2 e3
    refine ⟨u, r, ?_⟩
    rcases l with l | ⟨k, c, e, z⟩
    · exact .inl l
    · exact .inr ⟨k, c, e, cellK x c e _ z⟩
  · obtain ⟨v, z⟩ := I.cell x c e
    exact ⟨v, cellK x c e v z⟩
  · obtain ⟨m, ⟨o, _, _, ho, _⟩, _⟩ := I.loc
    exact free _ o (fun z => (hch _ z).2.1 rfl) ho I.free
  · obtain ⟨v, o, ho, hd⟩ := I.cell x c e
    exact free c o (fun z => (hch c z).2.2.1 x c e rfl) ho (I.freeC x c e)
  · obtain ⟨e, n, ne, nf, d⟩ := I.pin p hp
    have nch : p.1 ∉ ch := fun z => (hch p.1 z).2.2.2 p hp rfl
    exact ⟨keep p.1 p.2 ne nf nch e n, free p.1 p.2 nch e n, ne, nf, d⟩
theorem Inv.un {t' : Nat} (I : Inv X pins σ H s) (u : Un X.fs [] H H' s.heap h') (hok : HOk X.prog X.w H' h') : Inv X pins σ H' { s with heap := h', toks := t' } := by
  obtain ⟨m, ⟨o, es, ep, ho, r⟩, _⟩ := id I.loc
  obtain ⟨sl, hL⟩ := u.any ho I.free (by simp)
  exact I.step (g' := s.gens) (d' := s.drawn) (ch := []) (fun _ z => nomatch z) (fun b o _ hb _ e n => u.keep b o e n hb (by simp)) (fun b o _ hb _ e n => u.slot b o e n hb (by simp)) (fun b o _ e n => u.free b o e n (by simp)) (fun b o _ e => u.there b o e (by simp)) u.tups u.frzs u.tbls (fun m' hm => by
    obtain ⟨o', es', ep', ho', r'⟩ := hm
    rw [ho] at ho'; cases ho'
    exact ⟨_, es', ep', hL, r'⟩) hok I.bare
theorem Inv.call {g' : Array GenState} {t' : Nat} {d' : Drawn} {ch : List Addr} (I : Inv X pins σ H s) (u : Un (frs X.stack) ch H H' s.heap h') (hok : HOk X.prog X.w H' h') (hg : AllBare g')
    (hch : ∀ b ∈ ch, (b ∈ X.ex ∨ X.s₀.heap.objs.size ≤ b) ∧ b ≠ X.env.locals ∧ (∀ x c, X.env.cells.lookup x = some c → c ≠ b) ∧ ∀ p ∈ X.pn ++ pins, p.1 ≠ b) :
    Inv X pins σ H' { s with heap := h', gens := g', drawn := d', toks := t' } := by
  obtain ⟨m, ⟨o, es, ep, ho, r⟩, _⟩ := id I.loc
  obtain ⟨sl, hL⟩ := u.any ho I.free fun z => (hch _ z).2.1 rfl
  exact I.step (ch := ch) hch (fun b o hL hb hc e n => u.keep b o e n (fun z => (List.mem_cons.mp (I.stkSub b z)).elim hL hb) hc) (fun b o _ _ hc e n => u.any e n hc) (fun b o hc e n => u.free b o e n hc) (fun b o hc e => u.there b o e hc) u.tups u.frzs u.tbls (fun m' hm => by
    obtain ⟨o', es', ep', ho', r'⟩ := hm
    rw [ho] at ho'; cases ho'
    exact ⟨_, es', ep', hL, r'⟩) hok hg
theorem Inv.turned {t' : Nat} {it : Addr} (I : Inv X pins σ H s) (k : ∀ b o, b ≠ it → s.heap.get? b = some o → h'.get? b = some o) (hn : H it = none) (hL : it ≠ X.env.locals)
    (h1 : it ∈ X.ex ∨ X.s₀.heap.objs.size ≤ it) (h2 : ∀ x c, X.env.cells.lookup x = some c → c ≠ it) (h3 : ∀ p ∈ X.pn ++ pins, p.1 ≠ it) : Inv X pins σ H { s with heap := h', toks := t' } := by
  have nit : ∀ b u, H b = some u → b ≠ it := fun b u e z => by rw [z, hn] at e; cases e
  refine I.step (g' := s.gens) (d' := s.drawn) (ch := [it]) (fun b hb => ?_) (fun b o _ _ hc e _ => k b o (fun z => hc (by simp [z])) e) (fun b o _ _ hc e _ => ⟨o.slots, k b o (fun z => hc (by simp [z])) e⟩) (fun _ _ _ _ n => n)
    (fun b o hc e => ⟨o, k b o (fun z => hc (by simp [z])) e⟩) (fun _ _ e => e) (fun _ _ _ e => e) (fun b ps e => ⟨#[], by rw [e]; simp⟩) (fun m hm => ?_) (fun b u e => ?_) I.bare
  · have e : b = it := by simpa using hb
    subst e
    exact ⟨h1, hL, h2, h3⟩
  · obtain ⟨o, es, ep, ho, r⟩ := hm
    exact ⟨o, es, ep, k _ o (Ne.symm hL) ho, r⟩
  · refine (I.hok b u e).stay (fun c v hc q => k c v ?_ q) (fun _ q => q) fun _ _ q => q
    rcases hc with z | z
    · rw [z]; exact nit b u e
    · exact nit c _ z
theorem Inv.tok (I : Inv X pins σ H s) (t : Nat) : Inv X pins σ H { s with toks := t } := I.un (h' := s.heap) (t' := t) Un.refl I.hok
theorem Inv.kept {t' : Nat} (I : Inv X pins σ H s) (k : ∀ b u, s.heap.get? b = some u → h'.get? b = some u) : Inv X pins σ H { s with heap := h', toks := t' } := I.un (Un.kept k) (I.hok.kept k)
theorem Inv.laid {a : Addr} {o : HO} {t' : Nat} (I : Inv X pins σ H s) (k : ∀ b u, s.heap.get? b = some u → h'.get? b = some u) (hp : s.heap.objs.size ≤ a) (new : ObjOk X.prog X.w (upd H a o) h' a o) :
    Inv X pins σ (upd H a o) { s with heap := h', toks := t' } := I.un (Un.laid k hp (I.hok.fresh hp)) (I.hok.laid k hp new)
theorem Inv.write {x e : Addr} {o : HO} {t' : Nat} (I : Inv X pins σ H s) (mu : Mut (H x)) (he : e = x ∨ H e = some (.own x)) (k : ∀ b u, b ≠ e → s.heap.get? b = some u → h'.get? b = some u) (heo : ∃ u, h'.get? e = some u)
    (new : ObjOk X.prog X.w (upd H x o) h' x o) : Inv X pins σ (upd H x o) { s with heap := h', toks := t' } := I.un (Un.write mu he k heo) (I.hok.write mu he k heo new)
theorem Inv.pins_of {pins' : List (Addr × Obj)} (I : Inv X pins σ H s) (h : ∀ p ∈ pins', s.heap.get? p.1 = some p.2 ∧ H p.1 = none ∧ p.1 ≠ X.env.locals ∧ p.1 ∉ X.fs ∧ ∀ v, p.2.data ≠ .cell v) : Inv X pins' σ H s :=
  ⟨I.ok, I.os, I.bare, I.base, I.loc, I.cell, I.free, I.freeC, fun p hp => (List.mem_append.mp hp).elim (fun z => I.pin p (List.mem_append_left _ z)) (h p), I.hok, I.len⟩

theorem nodup_ix {N : List Str} (hN : N.Nodup) {i j : Nat} {x : Str} (a : N[i]? = some x) (b : N[j]? = some x) : i = j := by
  obtain ⟨h1, e1⟩ := List.getElem?_eq_some_iff.mp a
  obtain ⟨h2, e2⟩ := List.getElem?_eq_some_iff.mp b
  exact (List.getElem_inj hN).mp (e1.trans e2.symm)

theorem store_ok2 {M : Model} {A : Around} {E : Value → Shared → Prop} {i : Nat} {x : Str} {v : V} {u : Value} {Q : Unit → Shared → Prop} (I : Inv X pins σ H s) (hN : X.N.Nodup) (hi : X.N[i]? = some x) (hx : Loc X.env.scope x) (r : RelV v u)
    (h : ∀ s', Inv X pins (σ.set i (some v)) H s' → (∃ a, Heap.SameBut a s.heap s'.heap ∧ (a = X.env.locals ∨ X.env.cells.lookup x = some a)) → Q () s') (hf : X.fn x = true ∨ X.env.scope.names.lookup x = some .local := by first | exact .inl rfl | exact .inr rfl | assumption) (hz : X.nz x = true → Nz u := by first | exact (fun h => by cases h) | assumption) : wpAny M A (storeName X.env x u) Q E s := by
  obtain ⟨m, hn, hl⟩ := id I.loc
  have hcls : (X.env.scope.kind == .class || (X.env.scope.kind == .module && X.env.locals != X.env.globals)) = false := by rw [I.ok.kind]; rfl
  have hiσ : i < σ.length := by rw [I.len]; exact (List.getElem?_eq_some_iff.mp hi).1
  have cne := I.cne
  have tracked : ∀ {a : Addr} {h' : Heap}, (∃ o, s.heap.get? a = some o ∧ H a = none) → Heap.SameBut a s.heap h' → HOk X.prog X.w H h' := fun {a h'} ha hs b ob e => by
    obtain ⟨_, _, hfree⟩ := ha
    refine (I.hok b ob e).stay (fun c w' hc q => (hs.2 c ?_).trans q) (fun _ q => q) fun _ _ q => q
    rintro rfl
    rcases hc with rfl | hc
    · rw [hfree] at e; cases e
    · rw [hfree] at hc; cases hc
  rcases hx with hk | hk
  · refine wpAny_storeName_local hk hn (fun h' hn' hs => ?_) hcls
    obtain ⟨oL, _, _, hoL, _⟩ := id hn
    refine h _ ⟨I.ok, I.os, I.bare, ⟨fun b o e n hb hx => ?_, fun b o e n hb hx => ?_, I.base.free, fun b o e hx => ?_, I.base.tups, I.base.frzs, I.base.tbls⟩, ⟨_, hn', fun j y v' e1 e2 e3 => ?_⟩, fun y c e => ?_, I.free, I.freeC, fun p hp => ?_, tracked ⟨oL, hoL, I.free⟩ hs, by simpa using I.len⟩ ⟨_, hs, .inl rfl⟩
    · exact (hs.2 b (Nat.ne_of_lt (Nat.lt_of_lt_of_le (Heap.lt_size e) I.ok.above))).trans (I.base.keep b o e n hb hx)
    · obtain ⟨sl, e1⟩ := I.base.slot b o e n hb hx
      exact ⟨sl, (hs.2 b (Nat.ne_of_lt (Nat.lt_of_lt_of_le (Heap.lt_size e) I.ok.above))).trans e1⟩
    · obtain ⟨o', e1⟩ := I.base.there b o e hx
      exact ⟨o', (hs.2 b (Nat.ne_of_lt (Nat.lt_of_lt_of_le (Heap.lt_size e) I.ok.above))).trans e1⟩
    · by_cases hj : j = i
      · subst hj
        rw [hi] at e1; cases e1
        rw [List.getElem?_set_self hiσ] at e2
        cases e2
        exact ⟨u, ⟨r, hz⟩, .inl ⟨hk, by simp⟩⟩
      · rw [List.getElem?_set_ne (Ne.symm hj)] at e2
        obtain ⟨u', r', q⟩ := hl j y v' e1 e2 e3
        refine ⟨u', r', ?_⟩
        rcases q with ⟨k, e⟩ | ⟨k, c, e, z⟩
        · refine .inl ⟨k, ?_⟩
          have : y ≠ x := fun e => hj (nodup_ix hN e1 (e ▸ hi))
          simp [this, e]
        · exact .inr ⟨k, c, e, z.sameBut hs (cne y c e)⟩
    · obtain ⟨w', z⟩ := I.cell y c e
      exact ⟨w', z.sameBut hs (cne y c e)⟩
    · obtain ⟨e, n, ne, nf, d⟩ := I.pin p hp
      exact ⟨(hs.2 p.1 ne).trans e, n, ne, nf, d⟩
  · have hfn : X.fn x = true := by
      rcases hf with z | z
      · exact z
      · rw [z] at hk; cases hk
    obtain ⟨c, hc⟩ := I.ok.has x (.inl hk)
    obtain ⟨w', z⟩ := I.cell x c hc
    refine wpAny_storeName_cell I.ok.kind hk hc z (fun h' hc' hs => ?_)
    obtain ⟨oc, hoc, hocd⟩ := id z
    refine h { s with heap := h' } ⟨I.ok, I.os, I.bare, ⟨fun b o e n hb hx => ?_, fun b o e n hb hx => ?_, I.base.free, fun b o e hx => ?_, I.base.tups, I.base.frzs, I.base.tbls⟩, ⟨m, hn.sameBut hs (Ne.symm (cne x c hc)), fun j y v' e1 e2 e3 => ?_⟩, fun y c' e => ?_, I.free, I.freeC, fun p hp => ?_, tracked ⟨oc, hoc, I.freeC x c hc⟩ hs, by simpa using I.len⟩ ⟨c, hs, .inr hc⟩
    · exact (hs.2 b (Nat.ne_of_lt (Nat.lt_of_lt_of_le (Heap.lt_size e) (I.ok.cab x c hfn hc)))).trans (I.base.keep b o e n hb hx)
    · obtain ⟨sl, e1⟩ := I.base.slot b o e n hb hx
      exact ⟨sl, (hs.2 b (Nat.ne_of_lt (Nat.lt_of_lt_of_le (Heap.lt_size e) (I.ok.cab x c hfn hc)))).trans e1⟩
    · obtain ⟨o', e1⟩ := I.base.there b o e hx
      exact ⟨o', (hs.2 b (Nat.ne_of_lt (Nat.lt_of_lt_of_le (Heap.lt_size e) (I.ok.cab x c hfn hc)))).trans e1⟩
    · by_cases hj : j = i
      · subst hj
        rw [hi] at e1; cases e1
        rw [List.getElem?_set_self hiσ] at e2
        cases e2
        exact ⟨u, ⟨r, hz⟩, .inr ⟨.inl hk, c, hc, hc'⟩⟩
      · rw [List.getElem?_set_ne (Ne.symm hj)] at e2
        obtain ⟨u', r', q⟩ := hl j y v' e1 e2 e3
        refine ⟨u', r', ?_⟩
        rcases q with q | ⟨k, c', e, z'⟩
        · exact .inl q
        · refine .inr ⟨k, c', e, z'.sameBut hs ?_⟩
          rintro rfl
          exact hj (nodup_ix hN e1 (I.ok.inj _ _ _ e hc ▸ hi))
    · by_cases hcc : c' = c
      · subst hcc; exact ⟨_, hc'⟩
      · obtain ⟨w2, z2⟩ := I.cell y c' e
        exact ⟨w2, z2.sameBut hs hcc⟩
    · obtain ⟨e, n, ne, nf, d⟩ := I.pin p hp
      refine ⟨(hs.2 p.1 ?_).trans e, n, ne, nf, d⟩
      intro q
      rw [q, hoc] at e
      have q' : oc = p.2 := Option.some.inj e
      exact d w' (by rw [← q']; exact hocd)
theorem store_ok {M : Model} {A : Around} {E : Value → Shared → Prop} {i : Nat} {x : Str} {v : V} {u : Value} {Q : Unit → Shared → Prop} (I : Inv X pins σ H s) (hN : X.N.Nodup) (hi : X.N[i]? = some x) (hx : Loc X.env.scope x) (r : RelV v u)
    (h : ∀ s', Inv X pins (σ.set i (some v)) H s' → Q () s') (hf : X.fn x = true ∨ X.env.scope.names.lookup x = some .local := by first | exact .inl rfl | exact .inr rfl | assumption) (hz : X.nz x = false := by first | rfl | assumption | decide +kernel) : wpAny M A (storeName X.env x u) Q E s :=
  store_ok2 I hN hi hx r (fun s' I' _ => h s' I') hf (fun h => by rw [hz] at h; cases h)
theorem Inv.call' {s' : Shared} {ch : List Addr} (I : Inv X pins σ H s) (ho : s'.os = s.os) (u : Un (frs X.stack) ch H H' s.heap s'.heap) (hok : HOk X.prog X.w H' s'.heap) (hg : AllBare s'.gens)
    (hch : ∀ b ∈ ch, (b ∈ X.ex ∨ X.s₀.heap.objs.size ≤ b) ∧ b ≠ X.env.locals ∧ (∀ x c, X.env.cells.lookup x = some c → c ≠ b) ∧ ∀ p ∈ X.pn ++ pins, p.1 ≠ b) : Inv X pins σ H' s' := by
  obtain ⟨h', g', d', t', o'⟩ := s'
  have e : o' = s.os := ho
  subst e
  exact I.call (g' := g') (t' := t') (d' := d') u hok hg hch
end

noncomputable abbrev XK := Value → Option Addr → Hp → Prop
noncomputable abbrev St := List (Option V)
noncomputable abbrev VK := V → Hp → Prop
noncomputable abbrev TE := St → Hp → VK → Prop
noncomputable abbrev TT := St → Hp → (Bool → Hp → Prop) → Prop
noncomputable abbrev TA := St → Hp → (List V → Hp → Prop) → Prop
structure Ends where
  nx : St → Hp → Prop
  rt : VK
  bk : St → Hp → Prop := fun _ _ => False
  ct : St → Hp → Prop := fun _ _ => False
noncomputable abbrev TS := Ends → St → Hp → Prop

noncomputable def EP (X : Cx) (pins : List (Addr × Obj)) (σ : St) (Q : VK) (u : Value) (s' : Shared) : Prop := ∃ v H', Inv X pins σ H' s' ∧ RelV v u ∧ Q v H'
noncomputable def TP (X : Cx) (pins : List (Addr × Obj)) (σ : St) (Q : Bool → Hp → Prop) (b : Bool) (s' : Shared) : Prop := ∃ H', Inv X pins σ H' s' ∧ Q b H'
noncomputable def AP (X : Cx) (pins : List (Addr × Obj)) (σ : St) (Q : List V → Hp → Prop) (us : List Value) (s' : Shared) : Prop := ∃ vs H', Inv X pins σ H' s' ∧ Vals vs us ∧ Q vs H'
noncomputable def SP (X : Cx) (pins : List (Addr × Obj)) (D : Ends) (f : Flow) (s' : Shared) : Prop :=
  match f with
  | .next => ∃ σ' H', Inv X pins σ' H' s' ∧ D.nx σ' H'
  | .brk => ∃ σ' H', Inv X pins σ' H' s' ∧ D.bk σ' H'
  | .cont => ∃ σ' H', Inv X pins σ' H' s' ∧ D.ct σ' H'
  | .ret u => ∃ v σ' H', Inv X pins σ' H' s' ∧ RelV v u ∧ D.rt v H'

noncomputable def PE (X : Cx) (e : Expr) (t : TE) : Prop :=
  ∀ (pins : List (Addr × Obj)) (s : Shared) (σ : St) (H : Hp) (Q : VK), Inv X pins σ H s → t σ H Q → wpAny (model X.prog X.w) X.A (eval e X.env) (EP X pins σ Q) X.xe s
noncomputable def PT (X : Cx) (e : Expr) (t : TT) : Prop :=
  ∀ (pins : List (Addr × Obj)) (s : Shared) (σ : St) (H : Hp) (Q : Bool → Hp → Prop), Inv X pins σ H s → t σ H Q → wpAny (model X.prog X.w) X.A (isTrue e X.env (eval e X.env)) (TP X pins σ Q) X.xe s
noncomputable def PW (X : Cx) (e : Expr) (t : TT) : Prop :=
  ∀ (whole : Sem Value) (pins : List (Addr × Obj)) (s : Shared) (σ : St) (H : Hp) (Q : Bool → Hp → Prop), Inv X pins σ H s → t σ H Q → wpAny (model X.prog X.w) X.A (isTrue e X.env whole) (TP X pins σ Q) X.xe s
theorem PW.pt {X : Cx} {e : Expr} {t : TT} (h : PW X e t) : PT X e t := h _
noncomputable def PA (X : Cx) (es : List Expr) (t : TA) : Prop :=
  ∀ (pos : Pos) (pins : List (Addr × Obj)) (s : Shared) (σ : St) (H : Hp) (Q : List V → Hp → Prop), Inv X pins σ H s → t σ H Q → wpAny (model X.prog X.w) X.A (spliced (backTo pos (starEach es X.env))) (AP X pins σ Q) X.xe s
noncomputable def PS (X : Cx) (st : Stmt) (t : TS) : Prop :=
  ∀ (pins : List (Addr × Obj)) (s : Shared) (σ : St) (H : Hp) (D : Ends), Inv X pins σ H s → t D σ H → wpAny (model X.prog X.w) X.A (exec st X.env) (SP X pins D) X.xe s
noncomputable def PSs (X : Cx) (st : List Stmt) (t : TS) : Prop :=
  ∀ (pins : List (Addr × Obj)) (s : Shared) (σ : St) (H : Hp) (D : Ends), Inv X pins σ H s → t D σ H → wpAny (model X.prog X.w) X.A (execs st X.env) (SP X pins D) X.xe s
theorem thn {α : Type} {t : Sem α} {Q Q' : α → Shared → Prop} {M : Model} {A : Around} {E : Value → Shared → Prop} {s : Shared} (h : wpAny M A t Q E s) (hQ : ∀ a s, Q a s → Q' a s) : wpAny M A t Q' E s := wpAny_mono h hQ fun _ _ x => x
end L2

namespace L2
open PySem PySem.Spec PyProof.Rows
section
variable {X : Cx}

inductive TVar (i : Nat) (σ : St) (H : Hp) (Q : VK) : Prop
  | mk (v : V) (e : σ[i]? = some (some v)) (q : Q v H) : TVar i σ H Q
noncomputable def tVar (i : Nat) : TE := fun σ H Q => TVar i σ H Q
noncomputable def tC (v : V) : TE := fun _ H Q => Q v H
theorem pe_var {i : Nat} {x : Str} {pos : Pos} (hN : X.N[i]? = some x) (hv : Vis X.env.scope x) (hd : (x == ("__debug__" : Str)) = false := by decide) (hcd : (x == ("__classdict__" : Str)) = false := by decide) : PE X (.Name x pos) (tVar i) := by
  intro pins s σ H Q I h
  obtain ⟨v, e, h⟩ := h
  obtain ⟨m, hn, hl⟩ := I.loc
  obtain ⟨u, r, l⟩ := hl i x v hN e hv
  have fin : EP X pins σ Q u s := ⟨v, H, I, r.1, h⟩
  rcases l with ⟨hk, hm⟩ | ⟨hk, c, hc, hcell⟩
  · exact wpAny_Name (wpAny_loadName_local I.ok.kind hk hn hm fin) hd
  · rcases hk with hk | hk
    · exact wpAny_Name (wpAny_loadName_cell I.ok.kind hk hc hcell fin) hd
    · exact wpAny_Name (wpAny_loadName_free I.ok.kind hk hc hcell fin hcd) hd
theorem pe_int {i j pos} : PE X (.Constant (.int i) j pos) (tC (.int i)) := fun _ _ _ H _ I h => wpAny_Constant_int ⟨.int i, H, I.tok _, ⟨_, rfl⟩, h⟩
theorem pe_bl {b j pos} : PE X (.Constant (.bool b) j pos) (tC (.bl b)) := fun _ _ _ H _ I h => Constant_bool ⟨.bl b, H, I, rfl, h⟩
theorem pe_non {j pos} : PE X (.Constant .none j pos) (tC .non) := fun _ _ _ H _ I h => Constant_none ⟨.non, H, I, rfl, h⟩
theorem pe_str {x j pos} : PE X (.Constant (.str x) j pos) (tC (.str x)) := fun _ _ _ H _ I h => Calls.Constant_str ⟨.str x, H, I.tok _, ⟨_, rfl⟩, h⟩

noncomputable def Gl (X : Cx) (x : Str) : Prop := X.env.kindOf x = some .globalImplicit
theorem ld_glob {E : Value → Shared → Prop} {pins : List (Addr × Obj)} {s : Shared} {σ : St} {H : Hp} {x : Str} {u : Value} {pos : Pos} {Q : Value → Shared → Prop} (I : Inv X pins σ H s) (hg : Gl X x) (hm : X.mg x = some u) (h : Q u s)
    (hd : (x == ("__debug__" : Str)) = false := by decide) : wpAny (model X.prog X.w) X.A (eval (.Name x pos) X.env) Q E s :=
  Calls.Name_function_global I.ok.kind hg (Calls.loadGlobal_global (by rw [I.ok.glob]; exact I.mod.glob.keeps I.bk) hm h) hd
theorem ld_blt {E : Value → Shared → Prop} {pins : List (Addr × Obj)} {s : Shared} {σ : St} {H : Hp} {x : Str} {u : Value} {pos : Pos} {Q : Value → Shared → Prop} (I : Inv X pins σ H s) (hg : Gl X x) (hm : X.mg x = none) (hv : bootBuiltins x = some u) (h : Q u s)
    (hn : x ≠ "__name__" := by decide) (hd : (x == ("__debug__" : Str)) = false := by decide) : wpAny (model X.prog X.w) X.A (eval (.Name x pos) X.env) Q E s := by
  obtain ⟨mb, h1, h2⟩ := I.mod.blt
  exact Calls.Name_function_global I.ok.kind hg (Calls.loadGlobal_builtin (by rw [I.ok.glob]; exact I.mod.glob.keeps I.bk) hm (by rw [I.ok.blt]; exact h1.keeps I.bk) ((h2 x hn).trans hv) h) hd
theorem pe_glob {x : Str} {v : V} {u : Value} {pos : Pos} (hg : Gl X x) (hm : X.mg x = some u) (r : RelV v u) (hd : (x == ("__debug__" : Str)) = false := by decide) : PE X (.Name x pos) (tC v) :=
  fun _ _ _ H _ I h => ld_glob I hg hm ⟨v, H, I, r, h⟩ hd
theorem pe_bltn {x : Str} {v : V} {u : Value} {pos : Pos} (hg : Gl X x) (hm : X.mg x = none) (hv : bootBuiltins x = some u) (r : RelV v u) (hn : x ≠ "__name__" := by decide) (hd : (x == ("__debug__" : Str)) = false := by decide) : PE X (.Name x pos) (tC v) :=
  fun _ _ _ H _ I h => ld_blt I hg hm hv ⟨v, H, I, r, h⟩ hn hd

variable {a b : Expr} {ta tb : TE} {pos : Pos}
noncomputable def tB (t : TE) : TT := fun σ H Q => t σ H fun x H1 => IsBl x fun c => Q c H1
theorem pt_val {e : Expr} {t : TE} (h : PE X e t) (he : ∀ whole, isTrue e X.env whole = (do let v ← whole; standAt e.pos; holding [v] (truthy v)) := by intro _; rfl) : PT X e (tB t) := by
  intro pins s σ H Q I hw
  refine isTrue_plain (thn (h pins s σ H _ I hw) fun v s1 ⟨x, H1, I1, r1, q1⟩ => ?_) (he _)
  obtain ⟨d, rfl, q⟩ := q1
  cases r1
  exact wpAny_truthy_bool ⟨H1, I1, q⟩

variable {tA tB' : TT} {rest : List Expr}
noncomputable def tOr (t u : TT) : TT := fun σ H Q => t σ H fun c H1 => if c = true then Q true H1 else u σ H1 Q
noncomputable def tNot (t : TT) : TT := fun σ H Q => t σ H fun c H1 => Q (!c) H1
theorem pw_or1 (ha : PT X a tA) : PW X (.BoolOp .Or [a] pos) tA := by
  intro wh pins s σ H Q I h
  refine isTrue_or (thn (ha pins s σ H Q I h) fun c s1 e => ?_)
  cases c with
  | false => exact isTrue_or_nil e
  | true => exact e
theorem pw_or (ha : PT X a tA) (hb : PW X (.BoolOp .Or (b :: rest) pos) tB') : PW X (.BoolOp .Or (a :: b :: rest) pos) (tOr tA tB') := by
  intro wh pins s σ H Q I h
  refine isTrue_or (thn (ha pins s σ H _ I h) fun c s1 ⟨H1, I1, q1⟩ => ?_)
  cases c with
  | true => exact ⟨H1, I1, q1⟩
  | false => exact hb wh pins s1 σ H1 Q I1 q1
theorem pt_not (ha : PT X a tA) : PT X (.UnaryOp .Not a pos) (tNot tA) := by
  intro pins s σ H Q I h
  exact isTrue_not (ha pins s σ H (fun c H1 => Q (!c) H1) I h)
noncomputable def tAndV (ta tb : TE) : TE := fun σ H Q => ta σ H fun x H1 => IsBl x fun c => if c = true then tb σ H1 Q else Q (.bl false) H1
noncomputable def tNotV (ta : TE) : TE := fun σ H Q => ta σ H fun x H1 => IsBl x fun c => Q (.bl (!c)) H1
theorem pe_one {op} {t : TE} (h : PE X a t) : PE X (.BoolOp op [a] pos) t := fun pins s σ H Q I hw => BoolOp_one (h pins s σ H Q I hw)
theorem pe_and (ha : PE X a ta) (hb : PE X (.BoolOp .And (b :: rest) pos) tb) : PE X (.BoolOp .And (a :: b :: rest) pos) (tAndV ta tb) := by
  intro pins s σ H Q I h
  refine BoolOp_and (thn (ha pins s σ H _ I h) fun v s1 ⟨x, H1, I1, r1, q1⟩ => ?_)
  obtain ⟨c, rfl, q1⟩ := q1
  cases r1
  refine wpAny_truthy_bool ?_
  cases c with
  | true => exact hb pins s1 σ H1 Q I1 q1
  | false => exact ⟨.bl false, H1, I1, rfl, q1⟩
theorem pe_not (ha : PE X a ta) : PE X (.UnaryOp .Not a pos) (tNotV ta) := by
  intro pins s σ H Q I h
  refine UnaryOp_ (thn (ha pins s σ H _ I h) fun v s1 ⟨x, H1, I1, r1, q1⟩ => ?_)
  obtain ⟨c, rfl, q1⟩ := q1
  cases r1
  exact not_of (wpAny_truthy_bool ⟨.bl (!c), H1, I1, rfl, q1⟩)
end
end L2

namespace L2
open PySem PySem.Spec PyProof.Rows

noncomputable def SqL (K : PySem.W.Frag) (H : Hp) (a : Addr) (xs : List V) : Prop :=
  Rd H a (.lst xs) ∨
    ∃ (o : Obj) (its : Array Value) (n : Nat), K.lookup a = some o ∧ o.cls = .type "list" ∧ o.dict = none ∧ o.data = .seq its n ∧ its.size ≤ sizeLine ∧ Vals xs its.toList
noncomputable def SqT (K : PySem.W.Frag) (H : Hp) (a : Addr) (xs : List V) : Prop :=
  Rd H a (.tup xs) ∨
    ∃ (o : Obj) (its : Array Value) (n : Nat), K.lookup a = some o ∧ o.cls = .type "tuple" ∧ o.data = .seq its n ∧ its.size ≤ sizeLine ∧ Vals xs its.toList
noncomputable def absV : Value → Option V
  | .none => some .non
  | .bool b => some (.bl b)
  | .int i _ => some (.int i)
  | .str x _ => some (.str x)
  | .bytes b _ => some (.byt b)
  | .float b _ => some (.flt b)
  | .ref a => some (.ref a)
  | .type n => some (.ty n)
  | _ => none
theorem RelV.abs {x : V} {u : Value} (r : RelV x u) : absV u = some x := by
  cases x with
  | non => cases r; rfl
  | bl _ => cases r; rfl
  | int _ => obtain ⟨t, rfl⟩ := r; rfl
  | str _ => obtain ⟨t, rfl⟩ := r; rfl
  | byt _ => obtain ⟨t, rfl⟩ := r; rfl
  | flt _ => obtain ⟨t, rfl⟩ := r; rfl
  | ref _ => cases r; rfl
  | ty _ => cases r; rfl
theorem RelV.inj {x y : V} {u : Value} (r : RelV x u) (q : RelV y u) : x = y := Option.some.inj (r.abs.symm.trans q.abs)
theorem Vals.inj : ∀ {xs ys : List V} {us : List Value}, Vals xs us → Vals ys us → xs = ys
  | _, _, _, .nil, .nil => rfl
  | _, _, _, .cons r t, .cons r' t' => by rw [r.inj r', Vals.inj t t']
section
variable {X : Cx} {pins : List (Addr × Obj)} {σ : St} {H : Hp} {s : Shared} {a : Addr} {xs ys : List V}
theorem SqL.of {K : PySem.W.Frag} (h : H a = some (.lst xs)) : SqL K H a xs := .inl (.inl h)
theorem SqT.of {K : PySem.W.Frag} (h : H a = some (.tup xs)) : SqT K H a xs := .inl (.inl h)
theorem Inv.list (I : Inv X pins σ H s) (h : SqL X.K H a xs) : ∃ its : List Value, Vals xs its ∧ PlainL s.heap a its.toArray ∧ xs.length ≤ sizeLine := by
  rcases h with h | ⟨o, its, n, hk, hc, hd, hs, hz, r⟩
  · obtain ⟨z, its, n, r, e⟩ := h.ok I.hok
    exact ⟨its, r, ⟨_, n, e, rfl, rfl, rfl⟩, z⟩
  · refine ⟨its.toList, r, ⟨o, n, I.kIn a o hk, hc, hd, by simpa using hs⟩, ?_⟩
    have e := r.length
    simp only [Array.length_toList] at e
    omega
theorem Inv.tuple (I : Inv X pins σ H s) (h : SqT X.K H a xs) : ∃ its : List Value, Vals xs its ∧ IsTup s.heap a its.toArray ∧ xs.length ≤ sizeLine := by
  rcases h with h | ⟨o, its, n, hk, hc, hs, hz, r⟩
  · obtain ⟨z, its, r, p⟩ := h.ok I.hok
    exact ⟨its, r, p, z⟩
  · refine ⟨its.toList, r, ⟨o, I.kIn a o hk, hc, n, by simpa using hs⟩, ?_⟩
    have e := r.length
    simp only [Array.length_toList] at e
    omega
theorem Inv.list_inj (I : Inv X pins σ H s) (h : SqL X.K H a xs) (h' : SqL X.K H a ys) : xs = ys := by
  obtain ⟨its, r, ⟨o, n, e, _, _, d⟩, _⟩ := I.list h
  obtain ⟨its', r', ⟨o', n', e', _, _, d'⟩, _⟩ := I.list h'
  rw [e] at e'; cases e'
  rw [d] at d'
  injection d' with d1 _
  have : its = its' := by simpa using congrArg Array.toList d1
  subst this
  exact r.inj r'
end

noncomputable abbrev Cx.wish (X : Cx) (E : Value → Shared → Prop) : Cx := { X with xe := E }
noncomputable abbrev Cx.nox (X : Cx) : Cx := X.wish fun _ _ => False
theorem Cx.Ok.wish {X : Cx} (ok : X.Ok) (E : Value → Shared → Prop) : (X.wish E).Ok :=
  ⟨ok.mod, ok.kind, ok.glob, ok.blt, ok.above, ok.inj, ok.has, ok.cab, ok.hd, ok.frames, ok.stk, ok.exf, ok.bs, ok.bsz, ok.noex, ok.exfs, ok.funs, ok.frf⟩
theorem Cx.Ok.unwish {X : Cx} {E : Value → Shared → Prop} (ok : (X.wish E).Ok) : X.Ok :=
  ⟨ok.mod, ok.kind, ok.glob, ok.blt, ok.above, ok.inj, ok.has, ok.cab, ok.hd, ok.frames, ok.stk, ok.exf, ok.bs, ok.bsz, ok.noex, ok.exfs, ok.funs, ok.frf⟩
section
variable {X : Cx} {pins : List (Addr × Obj)} {σ : St} {H : Hp} {s : Shared} {E : Value → Shared → Prop}
theorem Inv.wish (I : Inv X pins σ H s) (E : Value → Shared → Prop) : Inv (X.wish E) pins σ H s := ⟨I.ok.wish E, I.os, I.bare, I.base, I.loc, I.cell, I.free, I.freeC, I.pin, I.hok, I.len⟩
theorem Inv.unwish (I : Inv (X.wish E) pins σ H s) : Inv X pins σ H s := ⟨I.ok.unwish, I.os, I.bare, I.base, I.loc, I.cell, I.free, I.freeC, I.pin, I.hok, I.len⟩
theorem SP.unwish {D : Ends} {f : Flow} {s' : Shared} (h : SP (X.wish E) pins D f s') : SP X pins D f s' := by
  cases f with
  | next => obtain ⟨σ', H', I, q⟩ := h; exact ⟨σ', H', I.unwish, q⟩
  | brk => obtain ⟨σ', H', I, q⟩ := h; exact ⟨σ', H', I.unwish, q⟩
  | cont => obtain ⟨σ', H', I, q⟩ := h; exact ⟨σ', H', I.unwish, q⟩
  | ret u => obtain ⟨v, σ', H', I, r, q⟩ := h; exact ⟨v, σ', H', I.unwish, r, q⟩
theorem PE.nox {e : Expr} {t : TE} (h : PE X.nox e t) : PE X e t := fun pins s σ H Q I hw =>
  wpAny_mono (h pins s σ H Q (I.wish _) hw) (fun _ _ ⟨v, H', I', r, q⟩ => ⟨v, H', I'.unwish, r, q⟩) fun _ _ z => False.elim z
theorem PT.nox {e : Expr} {t : TT} (h : PT X.nox e t) : PT X e t := fun pins s σ H Q I hw =>
  wpAny_mono (h pins s σ H Q (I.wish _) hw) (fun _ _ ⟨H', I', q⟩ => ⟨H', I'.unwish, q⟩) fun _ _ z => False.elim z
theorem PSs.nox {st : List Stmt} {t : TS} (h : PSs X.nox st t) : PSs X st t := fun pins s σ H D I hw =>
  wpAny_mono (h pins s σ H D (I.wish _) hw) (fun _ _ q => q.unwish) fun _ _ z => False.elim z
end

section
variable {X : Cx} {st : Stmt} {rest : List Stmt} {t u : TS} {e : Expr} {te : TE} {pos : Pos}
noncomputable def tNext : TS := fun D σ H => D.nx σ H
noncomputable def tSeq (t u : TS) : TS := fun D σ H => t { D with nx := u D } σ H
theorem pss_nil : PSs X [] tNext := fun _ _ σ H _ I h => wpAny_execs_nil ⟨σ, H, I, h⟩
theorem pss_cons (h1 : PS X st t) (h2 : PSs X rest u) : PSs X (st :: rest) (tSeq t u) := by
  intro pins s σ H D I h
  refine wpAny_execs_cons (thn (h1 pins s σ H { D with nx := u D } I h) fun f s1 q => ?_)
  cases f with
  | next =>
    obtain ⟨σ', H', I', q⟩ := q
    exact h2 pins s1 σ' H' D I' q
  | ret v => exact q
  | brk => exact q
  | cont => exact q
theorem pss_one (h1 : PS X st t) : PSs X [st] t := by
  intro pins s σ H D I h
  refine wpAny_execs_cons (thn (h1 pins s σ H D I h) fun f s1 q => ?_)
  cases f with
  | next => exact wpAny_execs_nil q
  | ret v => exact q
  | brk => exact q
  | cont => exact q
noncomputable def tRet (te : TE) : TS := fun D σ H => te σ H D.rt
theorem ps_ret (he : PE X e te) : PS X (.Return (some e) pos) (tRet te) := by
  intro pins s σ H D I h
  exact wpAny_Return_some (thn (he pins s σ H _ I h) fun v s1 ⟨x, H1, I1, r1, q1⟩ => ⟨x, σ, H1, I1, r1, q1⟩)
noncomputable def tIfS (c : TT) (t u : TS) : TS := fun D σ H => c σ H fun b H1 => if b = true then t D σ H1 else u D σ H1
theorem ps_if {c : Expr} {a b : List Stmt} {tc : TT} (hc : PT X c tc) (ha : PSs X a t) (hb : PSs X b u) : PS X (.If c a b pos) (tIfS tc t u) := by
  intro pins s σ H D I h
  refine wpAny_If (thn (hc pins s σ H _ I h) fun d s1 ⟨H1, I1, q1⟩ => ?_)
  cases d with
  | true => exact ha pins s1 σ H1 D I1 q1
  | false => exact hb pins s1 σ H1 D I1 q1
end

noncomputable abbrev TG := V → St → Hp → (St → Hp → Prop) → Prop
noncomputable abbrev TGs := List V → St → Hp → (St → Hp → Prop) → Prop
noncomputable def PG (X : Cx) (target : Expr) (t : TG) : Prop :=
  ∀ (pins : List (Addr × Obj)) (s : Shared) (σ : St) (H : Hp) (v : V) (u : Value) (Q : St → Hp → Prop), Inv X pins σ H s → RelV v u → t v σ H Q →
    wpAny (model X.prog X.w) X.A (assign target X.env u) (fun _ s' => ∃ σ' H', Inv X pins σ' H' s' ∧ Q σ' H') X.xe s
noncomputable def PGs (X : Cx) (ts : List Expr) (t : TGs) : Prop :=
  ∀ (pins : List (Addr × Obj)) (s : Shared) (σ : St) (H : Hp) (vs : List V) (us : List Value) (Q : St → Hp → Prop), Inv X pins σ H s → Vals vs us → t vs σ H Q →
    wpAny (model X.prog X.w) X.A (assignInOrder ((assignEach ts X.env).map (·.2)) us) (fun _ s' => ∃ σ' H', Inv X pins σ' H' s' ∧ Q σ' H') X.xe s
noncomputable abbrev TSet := V → V → V → Hp → (Hp → Prop) → Prop
noncomputable def PSet (X : Cx) (t : TSet) : Prop :=
  ∀ (pins : List (Addr × Obj)) (s : Shared) (σ : St) (H : Hp) (o i v : V) (ov iv u : Value) (Q : Hp → Prop), Inv X pins σ H s → RelV o ov → RelV i iv → RelV v u → t o i v H Q →
    wpAny (model X.prog X.w) X.A (setItem ov iv u) (fun _ s' => ∃ H', Inv X pins σ H' s' ∧ Q H') X.xe s
section
variable {X : Cx} {pos : Pos}
noncomputable def gName (i : Nat) : TG := fun v σ H Q => Q (σ.set i (some v)) H
theorem pg_name {i : Nat} {x : Str} (hN : X.N.Nodup) (hi : X.N[i]? = some x) (hx : Loc X.env.scope x) (hf : X.fn x = true ∨ X.env.scope.names.lookup x = some .local := by first | exact .inl rfl | exact .inr rfl | assumption) (hz : X.nz x = false := by first | rfl | assumption | decide +kernel) : PG X (.Name x pos) (gName i) := by
  intro pins s σ H v u Q I r h
  exact wpAny_assign_Name (store_ok I hN hi hx r (fun s' I' => ⟨_, H, I', h⟩) hf)
noncomputable def gNil : TGs := fun vs σ H Q => vs = [] ∧ Q σ H
noncomputable def gCons (t : TG) (u : TGs) : TGs := fun vs σ H Q => Ex2 fun v r => vs = v :: r ∧ t v σ H fun σ' H' => u r σ' H' Q
theorem pgs_nil : PGs X [] gNil := by
  intro pins s σ H vs us Q I r h
  obtain ⟨e, h⟩ := h
  subst e
  cases r
  exact assignInOrder_nil ⟨σ, H, I, h⟩
theorem pgs_cons {e : Expr} {es : List Expr} {t : TG} {u : TGs} (h1 : PG X e t) (h2 : PGs X es u)
    (hs : (assignEach (e :: es) X.env).map (·.2) = assign e X.env :: (assignEach es X.env).map (·.2) := by rfl) : PGs X (e :: es) (gCons t u) := by
  intro pins s σ H vs us Q I r h
  obtain ⟨v, vr, e1, h⟩ := h
  subst e1
  cases r with
  | cons r rr =>
    rw [hs]
    refine assignInOrder_cons (thn (h1 pins s σ H _ _ _ I r h) fun _ s1 ⟨σ1, H1, I1, q1⟩ => ?_)
    exact h2 pins s1 σ1 H1 _ _ Q I1 rr q1
noncomputable def gTup (K : PySem.W.Frag) (n : Nat) (t : TGs) : TG := fun v σ H Q => Ex2 fun a xs => v = .ref a ∧ SqT K H a xs ∧ xs.length = n ∧ t xs σ H Q
theorem pg_tup {es : List Expr} {k : Nat} {t : TGs} {n : Nat} (hc : X.calm = true) (h : PGs X es t)
    (hn : (assignEach es X.env).length = n := by rfl) (hst : (assignEach es X.env).findIdx? (·.1) = none := by rfl) : PG X (.Tuple es k pos) (gTup X.K n t) := by
  intro pins s σ H v u Q I r hw
  obtain ⟨a, xs, e1, hq, hl, hw⟩ := hw
  subst e1
  cases r
  obtain ⟨its, rv, ht, hz⟩ := I.tuple hq
  refine assign_Tuple_tuple (I.ok.hd hc) ht (by simp [hn, ← hl, rv.length]) hst fun h' hx => ?_
  have I1 : Inv X pins σ H { s with heap := h' } := I.kept (t' := s.toks) fun b o e => hx b o (Nat.ne_of_lt (Heap.lt_size e)) e
  exact h pins _ σ H xs _ Q I1 (by simpa using rv) hw
noncomputable def gSub (to ti : TE) (t : TSet) : TG := fun v σ H Q => to σ H fun o H1 => ti σ H1 fun i H2 => t o i v H2 fun H3 => Q σ H3
theorem pg_sub {o i : Expr} {to ti : TE} {t : TSet} (ho : PE X o to) (hi : PE X i ti) (hs : PSet X t)
    (ha : ∀ v, assign (.Subscript o i pos) X.env v = (do
      let ov ← holding [v] (eval o X.env)
      let iv ← holding [v, ov] (eval i X.env)
      standAt pos
      holding [v, ov, iv] (setItem ov iv v)
      release [v, ov, iv] []) := by intro _; rfl) : PG X (.Subscript o i pos) (gSub to ti t) := by
  intro pins s σ H v u Q I r h
  rw [ha]
  refine wpAny_bind (wpAny_holding (thn (ho pins s σ H _ I h) fun ov s1 ⟨x, H1, I1, r1, q1⟩ => ?_))
  refine wpAny_bind (wpAny_holding (thn (hi pins s1 σ H1 _ I1 q1) fun iv s2 ⟨y, H2, I2, r2, q2⟩ => ?_))
  refine wpAny_bind (wpAny_standAt (wpAny_bind (wpAny_holding (thn (hs pins s2 σ H2 x y v ov iv u _ I2 r1 r2 r q2) fun _ s3 ⟨H3, I3, q3⟩ => ?_))))
  exact wpAny_release ⟨σ, H3, I3, q3⟩
noncomputable def tAsg (te : TE) (g : TG) : TS := fun D σ H => te σ H fun x H1 => g x σ H1 D.nx
theorem ps_asg {tg e : Expr} {te : TE} {g : TG} (he : PE X e te) (hg : PG X tg g) (hs : swapsWithSole [tg] e pos.line X.env = pure false := by rfl) (hw : swappedStores [tg] e X.env = pure none := by rfl)
    (h1 : (assignEach [tg] X.env).map (·.2) = [assign tg X.env] := by rfl) : PS X (.Assign [tg] e pos) (tAsg te g) := by
  intro pins s σ H D I h
  refine wpAny_Assign_stores (thn (he pins s σ H _ I h) fun v s1 ⟨x, H1, I1, r1, q1⟩ => ?_) hs hw
  rw [h1]
  exact thn (hg pins s1 σ H1 x v _ I1 r1 q1) fun _ s2 q => q
theorem ps_set {i : Nat} {x : Str} {e : Expr} {te : TE} {pos' : Pos} (hN : X.N.Nodup) (hi : X.N[i]? = some x) (hx : Loc X.env.scope x) (he : PE X e te) (hs : swapsWith e (some (.Name x pos')) pos.line X.env = pure false := by rfl) (hf : X.fn x = true ∨ X.env.scope.names.lookup x = some .local := by first | exact .inl rfl | exact .inr rfl | assumption) (hz : X.nz x = false := by first | rfl | assumption | decide +kernel) :
    PS X (.Assign [.Name x pos'] e pos) (tAsg te (gName i)) := by
  intro pins s σ H D I h
  refine wpAny_Assign_Name (thn (he pins s σ H _ I h) fun v s1 ⟨y, H1, I1, r1, q1⟩ => ?_) hs
  exact store_ok I1 hN hi hx r1 (fun s2 I2 => ⟨_, H1, I2, q1⟩) hf
end

section
variable {X : Cx} {pos : Pos}
end

structure It where
  go : Nat → Hp → Prop
  yld : Nat → Hp → V → Hp → Prop
  stop : Nat → Hp → Prop
noncomputable def FpOk (X : Cx) (pins : List (Addr × Obj)) (H : Hp) (b : Addr) : Prop :=
  H b = none ∧ b ≠ X.env.locals ∧ b ∉ X.fs ∧ (b ∈ X.ex ∨ X.s₀.heap.objs.size ≤ b) ∧ (∀ x c, X.env.cells.lookup x = some c → c ≠ b) ∧ ∀ p ∈ X.pn ++ pins, p.1 ≠ b
theorem Inv.fpOk {X : Cx} {pins : List (Addr × Obj)} {σ : St} {H H' : Hp} {s : Shared} {b : Addr} (I : Inv X pins σ H s) (hb : s.heap.objs.size ≤ b) (hn : H' b = none) : FpOk X pins H' b := by
  refine ⟨hn, Nat.ne_of_gt (Nat.lt_of_lt_of_le I.lt hb), I.nofs hb, .inr (Nat.le_trans I.sz hb), fun x c e z => ?_, fun p hp z => ?_⟩
  · obtain ⟨v, q⟩ := I.cell x c e
    exact absurd (Nat.lt_of_lt_of_le q.lt (by rw [z]; exact hb)) (Nat.lt_irrefl _)
  · exact absurd (Nat.lt_of_lt_of_le (Heap.lt_size (I.pin p hp).1) (by rw [z]; exact hb)) (Nat.lt_irrefl _)
structure Turn (P : Program) (w : World) (K : PySem.W.Frag) (tg : Expr) (J : It) (fp : List Addr) (it : Addr) (tn : Nat → Heap → Prop) : Prop where
  mem : it ∈ fp
  obj : ∀ i h, tn i h → ∀ b ∈ fp, ∃ o, h.get? b = some o ∧ ∀ v, o.data ≠ .cell v
  keep : ∀ i h h', tn i h → (∀ b ∈ fp, ∀ o, h.get? b = some o → h'.get? b = some o) → tn i h'
  item : ∀ (X : Cx), X.prog = P → X.w = w → X.K = K → X.calm = true → ∀ (i : Nat) (pins : List (Addr × Obj)) (s : Shared) (σ : St) (H : Hp) (E : Value → Shared → Prop), Inv X pins σ H s → (∀ b ∈ fp, FpOk X pins H b) → tn i s.heap → J.go i H →
    wpAny (model P w) X.A (pyNext (.ref it)) (fun r s1 => ∃ u, r = some u ∧
      wpAny (model P w) X.A (letOwnedTupleGo tg (.ref it) u) (fun _ s2 => ∃ x H', Inv X pins σ H' s2 ∧ RelV x u ∧ J.yld i H x H' ∧ tn (i + 1) s2.heap ∧ ∀ b ∈ fp, H' b = none) E s1) E s
  done : ∀ (X : Cx), X.prog = P → X.w = w → X.K = K → X.calm = true → ∀ (i : Nat) (pins : List (Addr × Obj)) (s : Shared) (σ : St) (H : Hp) (E : Value → Shared → Prop), Inv X pins σ H s → (∀ b ∈ fp, FpOk X pins H b) → tn i s.heap → J.stop i H →
    wpAny (model P w) X.A (pyNext (.ref it)) (fun r s1 => r = none ∧ Inv X pins σ H s1) E s
  self : ∀ (A : Around) (i : Nat) (s : Shared) (Q : Value → Shared → Prop) (E : Value → Shared → Prop), tn i s.heap → Q (.ref it) s → wpAny (model P w) A (pyIter (.ref it)) Q E s
noncomputable abbrev TI := St → Hp → (It → Hp → Prop) → Prop
noncomputable def PIE (X : Cx) (pins : List (Addr × Obj)) (σ : St) (tg : Expr) (R : It → Hp → Prop) (itv : Value) (s2 : Shared) : Prop :=
  ∃ (it : Addr) (fp : List Addr) (tn : Nat → Heap → Prop) (J : It) (H' : Hp), itv = .ref it ∧ Inv X pins σ H' s2 ∧ Turn X.prog X.w X.K tg J fp it tn ∧ tn 0 s2.heap ∧ (∀ b ∈ fp, FpOk X pins H' b) ∧ R J H'
noncomputable def PI (X : Cx) (tg iter : Expr) (wi : TI) : Prop :=
  ∀ (pins : List (Addr × Obj)) (s : Shared) (σ : St) (H : Hp) (R : It → Hp → Prop), Inv X pins σ H s → wi σ H R →
    wpAny (model X.prog X.w) X.A (eval iter X.env) (fun v s1 => wpAny (model X.prog X.w) X.A (pyIter v) (PIE X pins σ tg R) X.xe s1) X.xe s

theorem go_of {M : Model} {A : Around} {E : Value → Shared → Prop} {s : Shared} {tg : Expr} {it : Addr} {u : Value} {o : Obj} {n : String} {vs : Array Value} {Q : Unit → Shared → Prop} (ho : s.heap.get? it = some o) (hc : o.cls = .type n) (hd : o.data = .fields vs)
    (hn : ["enumerate", "zip", "dict_itemiterator", "dict_reverseitemiterator", "odict_iterator", "itertools.zip_longest", "itertools.pairwise"].contains n = false) (hQ : Q () s) : wpAny M A (letOwnedTupleGo tg (.ref it) u) Q E s := by
  unfold letOwnedTupleGo
  cases tg <;> first
    | exact wpAny_pure hQ
    | (cases u <;> first
        | exact wpAny_pure hQ
        | (refine wpAny_bind (wpAny_load ho ?_)
           rw [hc, hd]
           show wpAny M A (if (["enumerate", "zip", "dict_itemiterator", "dict_reverseitemiterator", "odict_iterator", "itertools.zip_longest", "itertools.pairwise"].contains n && vs[0]? == some (rawInt _)) = true then _ else _) Q E s
           rw [if_neg (by intro h; rw [hn, Bool.false_and] at h; cases h)]
           exact wpAny_pure hQ))

noncomputable def Itl (K : PySem.W.Frag) (a : Addr) : It :=
  ⟨fun i H => ∃ xs x, SqL K H a xs ∧ xs[i]? = some x, fun i H x H' => H' = H ∧ ∀ xs, SqL K H a xs → xs[i]? = some x, fun i H => ∃ xs, SqL K H a xs ∧ xs.length ≤ i⟩
noncomputable def Itr (lo : Int) (n : Nat) : It := ⟨fun i _ => i < n, fun i H x H' => H' = H ∧ x = .int (lo + i), fun i _ => n ≤ i⟩
theorem turn_list {P : Program} {w : World} {K : PySem.W.Frag} {tg : Expr} (a it : Addr) : Turn P w K tg (Itl K a) [it] it (fun i h => h.IsListIter it a i) where
  mem := by simp
  obj := fun i h st b hb => by
    have e : b = it := by simpa using hb
    subst e
    obtain ⟨o, e, c, d⟩ := st
    exact ⟨o, e, fun v z => by rw [d] at z; cases z⟩
  keep := fun i h h' st k => st.at fun o e => k it (by simp) o e
  item := by
    intro X hP hw hK hc i pins s σ H E I hf st hg
    subst hP hw hK
    obtain ⟨xs, x, hq, hx⟩ := hg
    obtain ⟨its, rv, p, hz⟩ := I.list hq
    obtain ⟨u, hu, ru⟩ := rv.get hx
    obtain ⟨f0, f1, f2, f3, f4, f5⟩ := hf it (by simp)
    refine wpAny_pyNext_list_item st p.isList (x := u) (by simpa using hu) fun h' st' sb => ?_
    have I1 : Inv X pins σ H { s with heap := h' } := I.turned (t' := s.toks) (fun b o hb e => (sb.2 b hb).trans e) f0 f1 f3 f4 f5
    obtain ⟨o, e, c, d⟩ := id st'
    exact ⟨u, rfl, go_of (s := { s with heap := h' }) e c d (by decide) ⟨x, H, I1, ru, ⟨rfl, fun ys hy => by rw [I.list_inj hy hq]; exact hx⟩, st', fun b hb => (hf b hb).1⟩⟩
  done := by
    intro X hP hw hK hc i pins s σ H E I hf st hg
    subst hP hw hK
    obtain ⟨xs, hq, hx⟩ := hg
    obtain ⟨its, rv, p, hz⟩ := I.list hq
    obtain ⟨f0, f1, f2, f3, f4, f5⟩ := hf it (by simp)
    have hl := rv.length
    exact wpAny_pyNext_list_end (I.ok.hd hc) st p.isList (by simp; omega) fun h' eb => ⟨rfl, I.turned (t' := s.toks) (fun b o hb e => eb b o hb e) f0 f1 f3 f4 f5⟩
  self := fun _ _ _ _ _ st h => wpAny_pyIter_listiter st h
theorem turn_range {P : Program} {w : World} {K : PySem.W.Frag} {tg : Expr} (it : Addr) (lo : Int) (n : Nat) : Turn P w K tg (Itr lo n) [it] it (fun i h => IsRangeIter h it (lo + (i : Nat) * 1) ((n : Int) - (i : Nat)) 1) where
  mem := by simp
  obj := fun i h st b hb => by
    have e : b = it := by simpa using hb
    subst e
    exact ⟨_, st, fun v z => by
      have z' : Data.fields _ = Data.cell v := z
      cases z'⟩
  keep := fun i h h' st k => k it (by simp) _ st
  item := by
    intro X hP hw hK hc i pins s σ H E I hf st hg
    subst hP hw hK
    obtain ⟨f0, f1, f2, f3, f4, f5⟩ := hf it (by simp)
    have W := Walks.range (prog := X.prog) (w := X.w) (I.ok.hd hc) it lo 1 n
    refine W.item i s _ _ hg st fun v h' tk hv st' kk => ?_
    obtain ⟨t, rfl⟩ := hv
    have I1 : Inv X pins σ H { s with heap := h', toks := tk } := I.turned (fun b o hb e => kk b o (by simpa using hb) e) f0 f1 f3 f4 f5
    refine ⟨_, rfl, go_of (s := { s with heap := h', toks := tk }) (n := "range_iterator") st' rfl rfl (by decide) ⟨.int (lo + i), H, I1, ⟨t, ?_⟩, ⟨rfl, rfl⟩, st', fun b hb => (hf b hb).1⟩⟩
    rw [Int.mul_one]
  done := by
    intro X hP hw hK hc i pins s σ H E I hf st hg
    subst hP hw hK
    obtain ⟨f0, f1, f2, f3, f4, f5⟩ := hf it (by simp)
    exact wpAny_pyNext_range_end (I.ok.hd hc) st (by have : n ≤ i := hg; omega) fun h' eb => ⟨rfl, I.turned (t' := s.toks) (fun b o hb e => eb b o hb e) f0 f1 f3 f4 f5⟩
  self := fun _ _ _ _ _ st h => wpAny_pyIter_rangeiter st h
end L2

namespace L2
open PySem PySem.Spec PyProof.Rows
section
variable {X : Cx} {tg : Expr}
noncomputable def iList (K : PySem.W.Frag) (tl : TE) : TI := fun σ H R => tl σ H fun x H1 => ∃ a, x = .ref a ∧ (∃ xs, SqL K H1 a xs) ∧ R (Itl K a) H1
theorem pi_list {l : Expr} {tl : TE} (hl : PE X l tl) : PI X tg l (iList X.K tl) := by
  intro pins s σ H R I h
  refine thn (hl pins s σ H _ I h) fun v s1 ⟨x, H1, I1, r1, q1⟩ => ?_
  obtain ⟨a, e, ⟨xs, hq⟩, q⟩ := q1
  subst e
  cases r1
  obtain ⟨its, rv, p, hz⟩ := I1.list hq
  refine wpAny_pyIter_list p.isList ?_
  refine ⟨s1.heap.objs.size, [s1.heap.objs.size], _, _, H1, rfl, I1.kept (t' := s1.toks) fun b o e => Heap.get?_push_of_some _ e, turn_list a _, ⟨_, Heap.get?_push_size _ rfl, rfl, rfl⟩, fun b hb => ?_, q⟩
  have e : b = s1.heap.objs.size := by simpa using hb
  subst e
  exact I1.fpOk (Nat.le_refl _) (I1.hok.fresh (Nat.le_refl _))
theorem range_it {pins : List (Addr × Obj)} {σ : St} {H : Hp} {s : Shared} {R : It → Hp → Prop} {E : Value → Shared → Prop} {lo hi : Int} {t u v : Tok} {tk : Nat} (I : Inv X pins σ H s) (h1 : -(2 ^ 62) ≤ lo) (h2 : lo < 2 ^ 62) (h3 : -(2 ^ 62) ≤ hi) (h4 : hi < 2 ^ 62)
    (q : R (Itr lo (hi - lo).toNat) H) : wpAny (model X.prog X.w) X.A (pyIter (.ref s.heap.objs.size)) (PIE X pins σ tg R) E { s with heap := s.heap.push { cls := .type "range", data := .fields #[.int lo t, .int hi u, .int 1 v] }, toks := tk } := by
  refine wpAny_pyIter_range (IsRange.new ..) (small_one h1 h2 h3 h4) ?_
  have I1 : Inv X pins σ H { s with heap := s.heap.push { cls := .type "range", data := .fields #[.int lo t, .int hi u, .int 1 v] }, toks := tk } := I.kept fun b o e => Heap.get?_push_of_some _ e
  refine ⟨(s.heap.push { cls := .type "range", data := .fields #[.int lo t, .int hi u, .int 1 v] }).objs.size, [(s.heap.push { cls := .type "range", data := .fields #[.int lo t, .int hi u, .int 1 v] }).objs.size], _, _, H, rfl,
    I1.kept (t' := tk) fun b o e => Heap.get?_push_of_some _ e, turn_range _ lo (hi - lo).toNat, ?_, fun b hb => ?_, q⟩
  · have e1 : lo + ((0 : Nat) : Int) * 1 = lo := by simp
    have e2 : (((hi - lo).toNat : Nat) : Int) - ((0 : Nat) : Int) = Builtin.Range.rangeSize lo hi 1 := by rw [rangeSize_one]; split <;> omega
    show IsRangeIter _ _ (lo + ((0 : Nat) : Int) * 1) ((((hi - lo).toNat : Nat) : Int) - ((0 : Nat) : Int)) 1
    rw [e1, e2]
    exact Heap.get?_push_size _ rfl
  · have e : b = (s.heap.push { cls := .type "range", data := .fields #[.int lo t, .int hi u, .int 1 v] }).objs.size := by simpa using hb
    subst e
    exact I1.fpOk (Nat.le_refl _) (I1.hok.fresh (Nat.le_refl _))
noncomputable def iRng1 (ta : TA) : TI := fun σ H R => ta σ H fun vs H1 => ∃ j : Int, vs = [.int j] ∧ -(2 ^ 62) ≤ j ∧ j < 2 ^ 62 ∧ R (Itr 0 j.toNat) H1
theorem pi_range1 {a : Expr} {ta : TA} {p pos : Pos} (hg : Gl X "range") (hm : X.mg "range" = none) (ha : PA X [a] ta) (hs : starEach [a] X.env = [(false, eval a X.env)] := by rfl) : PI X tg (.Call (.Name "range" p) [a] [] pos) (iRng1 ta) := by
  intro pins s σ H R I h
  refine Call_ (ld_blt I hg hm boot_range (PyProof.Rows.callWith_type1 (thn (ha pos pins s σ H _ I h) fun us s1 ⟨vs, H1, I1, r1, q1⟩ => ?_) hs rfl))
  obtain ⟨j, e, q1, q2, q⟩ := q1
  subst e
  cases r1 with
  | cons r rr =>
    cases rr
    obtain ⟨t, rfl⟩ := r
    exact call_range_1 (range_it I1 (by omega) (by omega) q1 q2 (by simpa using q))
noncomputable def tFor (wi : TI) (g : TG) (tb : TS) : TS := fun D σ H => wi σ H fun J H1 => ∃ W : Nat → Nat → St → Hp → Prop, (∃ m, W 0 m σ H1) ∧ ∀ i m σ H, W i m σ H →
  (J.stop i H ∧ D.nx σ H) ∨ (J.go i H ∧ ∃ N : St → Hp → Prop, (∀ σ' H', N σ' H' → ∃ m', m' < m ∧ W (i + 1) m' σ' H') ∧ ∀ x H', J.yld i H x H' → g x σ H' fun σ2 H2 => tb { D with nx := N, ct := N, bk := D.nx } σ2 H2)
noncomputable def pinsAt (fp : List Addr) (h : Heap) : List (Addr × Obj) := fp.filterMap fun b => (h.get? b).map fun o => (b, o)
theorem mem_pinsAt {fp : List Addr} {h : Heap} {b : Addr} {o : Obj} (hb : b ∈ fp) (e : h.get? b = some o) : (b, o) ∈ pinsAt fp h := List.mem_filterMap.mpr ⟨b, hb, by rw [e]; rfl⟩
theorem of_pinsAt {fp : List Addr} {h : Heap} {p : Addr × Obj} (hp : p ∈ pinsAt fp h) : p.1 ∈ fp ∧ h.get? p.1 = some p.2 := by
  obtain ⟨b, hb, e⟩ := List.mem_filterMap.mp hp
  cases q : h.get? b with
  | none => rw [q] at e; cases e
  | some o =>
    rw [q] at e
    have e' : (b, o) = p := Option.some.inj e
    subst e'
    exact ⟨hb, q⟩
theorem Inv.pinned {pins : List (Addr × Obj)} {σ : St} {H : Hp} {s : Shared} {fp : List Addr} (I : Inv X pins σ H s) (hf : ∀ b ∈ fp, FpOk X pins H b) (ho : ∀ b ∈ fp, ∃ o, s.heap.get? b = some o ∧ ∀ v, o.data ≠ .cell v) : Inv X (pins ++ pinsAt fp s.heap) σ H s :=
  I.pins_of fun p hp => (List.mem_append.mp hp).elim (fun z => I.pin p (List.mem_append_right _ z)) fun z => by
    obtain ⟨hb, e⟩ := of_pinsAt z
    obtain ⟨f0, f1, f2, _⟩ := hf p.1 hb
    obtain ⟨o, e', d⟩ := ho p.1 hb
    rw [e] at e'; cases e'
    exact ⟨e, f0, f1, f2, d⟩
theorem Inv.unpinned {pins pl : List (Addr × Obj)} {σ : St} {H : Hp} {s : Shared} (I : Inv X (pins ++ pl) σ H s) : Inv X pins σ H s := I.pins_of fun p hp => I.pin p (List.mem_append_right _ (List.mem_append_left _ hp))
theorem ps_for {iter : Expr} {body : List Stmt} {wi : TI} {g : TG} {tb : TS} {pos : Pos} (hp : PassesOwn (model X.prog X.w) X.A X.env X.xe) (hc : X.calm = true) (hi : PI X tg iter wi) (hg : PG X tg g) (hb : PSs X body tb)
    (hs : ∀ x, foldedSetIterable iter X.env x = pure x := by intro _; rfl) : PS X (.For tg iter body [] pos) (tFor wi g tb) := by
  intro pins s σ H D I h
  refine wpAny_For (thn (hi pins s σ H _ I h) fun v s1 h1 => thn h1 fun itv s2 h2 => ?_) hs
  obtain ⟨it, fp, tn, J, H2, e, I2, T, st2, f2, W, ⟨m0, w0⟩, turn⟩ := h2
  subst e
  -- what stays true of the iterator's objects through the loop
  have stat : ∀ {H' : Hp}, (∀ b ∈ fp, H' b = none) → ∀ b ∈ fp, FpOk X pins H' b := fun hn b hb => ⟨hn b hb, (f2 b hb).2⟩
  refine codeAny_forLoop_any (fun n s' => ∃ i σ' H', Inv X pins σ' H' s' ∧ tn i s'.heap ∧ (∀ b ∈ fp, H' b = none) ∧ W i n σ' H') ?_ m0 ⟨0, σ, H2, I2, st2, fun b hb => (f2 b hb).1, w0⟩
  rintro n s3 ⟨i, σ3, H3, I3, st3, fr3, w3⟩
  rcases turn i n σ3 H3 w3 with ⟨stop, qn⟩ | ⟨go, N, hN, step⟩
  · refine wpAny_passesOwn hp (thn (T.done X rfl rfl rfl hc i pins s3 σ3 H3 X.xe I3 (stat fr3) st3 stop) fun r s4 ⟨hr, I4⟩ => ?_)
    subst hr
    exact wpAny_execs_nil ⟨σ3, H3, I4, qn⟩
  · refine wpAny_passesOwn hp (thn (T.item X rfl rfl rfl hc i pins s3 σ3 H3 X.xe I3 (stat fr3) st3 go) fun r s4 ⟨u, hr, h4⟩ => ?_)
    subst hr
    refine wpAny_passesOwn hp (thn h4 fun _ s5 ⟨x, H5, I5, r5, y5, st5, fr5⟩ => ?_)
    have I5' := I5.pinned (stat fr5) (T.obj _ _ st5)
    refine wpAny_passesOwn hp (thn (hg _ s5 σ3 H5 x u _ I5' r5 (step x H5 y5)) fun _ s6 ⟨σ6, H6, I6, q6⟩ => ?_)
    refine wpAny_passesOwn hp (thn (hb _ s6 σ6 H6 _ I6 q6) fun f s7 q7 => ?_)
    have again : ∀ {σ7 : St} {H7 : Hp}, Inv X (pins ++ pinsAt fp s5.heap) σ7 H7 s7 → N σ7 H7 → ∃ m, m < n ∧ ∃ i σ' H', Inv X pins σ' H' s7 ∧ tn i s7.heap ∧ (∀ b ∈ fp, H' b = none) ∧ W i m σ' H' := fun {σ7 H7} I7 n7 => by
      obtain ⟨m', hm, w7⟩ := hN σ7 H7 n7
      refine ⟨m', hm, i + 1, σ7, H7, I7.unpinned, T.keep _ _ _ st5 fun b hb o e => (I7.pin (b, o) (List.mem_append_right _ (List.mem_append_right _ (mem_pinsAt hb e)))).1, fun b hb => ?_, w7⟩
      obtain ⟨o, e, d⟩ := T.obj _ _ st5 b hb
      exact (I7.pin (b, o) (List.mem_append_right _ (List.mem_append_right _ (mem_pinsAt hb e)))).2.1
    cases f with
    | next => obtain ⟨σ7, H7, I7, n7⟩ := q7; exact again I7 n7
    | cont => obtain ⟨σ7, H7, I7, n7⟩ := q7; exact again I7 n7
    | brk => obtain ⟨σ7, H7, I7, q7⟩ := q7; exact ⟨σ7, H7, I7.unpinned, q7⟩
    | ret v => obtain ⟨x7, σ7, H7, I7, r7, q7⟩ := q7; exact ⟨x7, σ7, H7, I7.unpinned, r7, q7⟩
end

theorem for_list {K : PySem.W.Frag} {a : Addr} {xs : List V} {g : TG} {tb : TS} {D : Ends} {σ : St} {H : Hp} (Pv : Nat → St → Hp → Prop) (h0 : Pv 0 σ H) (hl : ∀ i σ H, i ≤ xs.length → Pv i σ H → SqL K H a xs)
    (hs : ∀ i x σ H, xs[i]? = some x → Pv i σ H → g x σ H fun σ2 H2 => tb { D with nx := Pv (i + 1), ct := Pv (i + 1), bk := D.nx } σ2 H2) (hd : ∀ σ H, Pv xs.length σ H → D.nx σ H) :
    ∃ W : Nat → Nat → St → Hp → Prop, (∃ m, W 0 m σ H) ∧ ∀ i m σ H, W i m σ H →
      ((Itl K a).stop i H ∧ D.nx σ H) ∨ ((Itl K a).go i H ∧ ∃ N : St → Hp → Prop, (∀ σ' H', N σ' H' → ∃ m', m' < m ∧ W (i + 1) m' σ' H') ∧ ∀ x H', (Itl K a).yld i H x H' → g x σ H' fun σ2 H2 => tb { D with nx := N, ct := N, bk := D.nx } σ2 H2) := by
  refine ⟨fun i m σ H => m = xs.length - i ∧ i ≤ xs.length ∧ Pv i σ H, ⟨xs.length, by simp, Nat.zero_le _, h0⟩, ?_⟩
  rintro i m σ H ⟨rfl, hi, p⟩
  have q := hl i σ H hi p
  by_cases hlt : i < xs.length
  · refine .inr ⟨⟨xs, xs[i], q, by simp [hlt]⟩, Pv (i + 1), fun σ' H' p' => ⟨xs.length - (i + 1), by omega, rfl, hlt, p'⟩, fun x H' y => ?_⟩
    obtain ⟨e, y⟩ := y
    subst e
    exact hs i x σ _ (y xs q) p
  · have e : i = xs.length := by omega
    subst e
    exact .inl ⟨⟨xs, q, Nat.le_refl _⟩, hd σ H p⟩
theorem for_range {lo : Int} {n : Nat} {g : TG} {tb : TS} {D : Ends} {σ : St} {H : Hp} (Pv : Nat → St → Hp → Prop) (h0 : Pv 0 σ H)
    (hs : ∀ i σ H, i < n → Pv i σ H → g (.int (lo + i)) σ H fun σ2 H2 => tb { D with nx := Pv (i + 1), ct := Pv (i + 1), bk := D.nx } σ2 H2) (hd : ∀ σ H, Pv n σ H → D.nx σ H) :
    ∃ W : Nat → Nat → St → Hp → Prop, (∃ m, W 0 m σ H) ∧ ∀ i m σ H, W i m σ H →
      ((Itr lo n).stop i H ∧ D.nx σ H) ∨ ((Itr lo n).go i H ∧ ∃ N : St → Hp → Prop, (∀ σ' H', N σ' H' → ∃ m', m' < m ∧ W (i + 1) m' σ' H') ∧ ∀ x H', (Itr lo n).yld i H x H' → g x σ H' fun σ2 H2 => tb { D with nx := N, ct := N, bk := D.nx } σ2 H2) := by
  refine ⟨fun i m σ H => m = n - i ∧ i ≤ n ∧ Pv i σ H, ⟨n, by simp, Nat.zero_le _, h0⟩, ?_⟩
  rintro i m σ H ⟨rfl, hi, p⟩
  by_cases hlt : i < n
  · refine .inr ⟨hlt, Pv (i + 1), fun σ' H' p' => ⟨n - (i + 1), by omega, rfl, hlt, p'⟩, fun x H' y => ?_⟩
    obtain ⟨e, y⟩ := y
    subst e y
    exact hs i σ _ hlt p
  · have e : i = n := by omega
    subst e
    exact .inl ⟨Nat.le_refl _, hd σ H p⟩
end L2

namespace L2
open PySem PySem.Spec PyProof.Rows

noncomputable abbrev R2 := V → V → Hp → VK → Prop
noncomputable def OpR (X : Cx) (f : Value → Value → Sem Value) (r : R2) : Prop :=
  ∀ (pins : List (Addr × Obj)) (s : Shared) (σ : St) (H : Hp) (x y : V) (v u : Value) (Q : VK), Inv X pins σ H s → RelV x v → RelV y u → r x y H Q →
    wpAny (model X.prog X.w) X.A (f v u) (EP X pins σ Q) X.xe s
noncomputable def UnR (X : Cx) (f : Value → Sem Value) (r : V → Hp → VK → Prop) : Prop :=
  ∀ (pins : List (Addr × Obj)) (s : Shared) (σ : St) (H : Hp) (x : V) (v : Value) (Q : VK), Inv X pins σ H s → RelV x v → r x H Q →
    wpAny (model X.prog X.w) X.A (f v) (EP X pins σ Q) X.xe s
noncomputable def CallR (X : Cx) (f : Value) (r : List V → Hp → VK → Prop) : Prop :=
  ∀ (pins : List (Addr × Obj)) (s : Shared) (σ : St) (H : Hp) (xs : List V) (us : List Value) (Q : VK), Inv X pins σ H s → Vals xs us → r xs H Q →
    wpAny (model X.prog X.w) X.A (call f us) (EP X pins σ Q) X.xe s
noncomputable def tOp (r : R2) (ta tb : TE) : TE := fun σ H Q => ta σ H fun x H1 => tb σ H1 fun y H2 => r x y H2 Q
noncomputable def tUn (r : V → Hp → VK → Prop) (ta : TE) : TE := fun σ H Q => ta σ H fun x H1 => r x H1 Q
noncomputable def rI (C : Int → Int → Prop) (g : Int → Int → V) : R2 := fun x y H Q => In2 x y fun i j => C i j ∧ Q (g i j) H
noncomputable def rI0 (g : Int → Int → V) : R2 := fun x y H Q => In2 x y fun i j => Q (g i j) H
noncomputable def rU (g : Int → V) : V → Hp → VK → Prop := fun x H Q => IsIn x fun i => Q (g i) H

section
variable {X : Cx} {a b c : Expr} {ta tb tc : TE} {pos : Pos}

theorem binT (ha : PE X a ta) (hb : PE X b tb) {pins : List (Addr × Obj)} {s : Shared} {σ : St} {H : Hp} {R : V → V → Hp → Prop} (I : Inv X pins σ H s)
    (h : ta σ H fun x H1 => tb σ H1 fun y H2 => R x y H2) {Q : Value → Shared → Prop} {f : Value → Value → Sem Value}
    (hf : ∀ v u s2 x y H2, Inv X pins σ H2 s2 → RelV x v → RelV y u → R x y H2 → wpAny (model X.prog X.w) X.A (f v u) Q X.xe s2) :
    wpAny (model X.prog X.w) X.A (eval a X.env) (fun v s₁ => wpAny (model X.prog X.w) X.A (eval b X.env) (fun u s₂ => wpAny (model X.prog X.w) X.A (f v u) Q X.xe s₂) X.xe s₁) X.xe s := by
  refine thn (ha pins s σ H _ I h) fun v s1 ⟨x, H1, I1, r1, q1⟩ => ?_
  refine thn (hb pins s1 σ H1 _ I1 q1) fun u s2 ⟨y, H2, I2, r2, q2⟩ => ?_
  exact hf v u s2 x y H2 I2 r1 r2 q2

theorem pe_op {op : Operator} {r : R2} (ho : OpR X (binaryOp op) r) (ha : PE X a ta) (hb : PE X b tb) : PE X (.BinOp a op b pos) (tOp r ta tb) := by
  intro pins s σ H Q I h
  exact wpAny_BinOp (binT ha hb I h fun v u s2 x y H2 I2 rx ry q => ho pins s2 σ H2 x y v u Q I2 rx ry q)
theorem pe_un {op : UnaryOp} {r : V → Hp → VK → Prop} (ho : UnR X (unaryOp op) r) (ha : PE X a ta) : PE X (.UnaryOp op a pos) (tUn r ta) := by
  intro pins s σ H Q I h
  exact UnaryOp_ (thn (ha pins s σ H _ I h) fun v s1 ⟨x, H1, I1, r1, q1⟩ => ho pins s1 σ H1 x v Q I1 r1 q1)
theorem opI {f : Value → Value → Sem Value} {C : Int → Int → Prop} {g : Int → Int → Int}
    (rule : ∀ (i j : Int) (t u : Tok) (s : Shared) (Q : Value → Shared → Prop) (E : Value → Shared → Prop), C i j → Q (.int (g i j) s.toks) { s with toks := s.toks + 1 } → wpAny (model X.prog X.w) X.A (f (.int i t) (.int j u)) Q E s) :
    OpR X f (rI C fun i j => .int (g i j)) := by
  intro pins s σ H x y v u Q I rx ry h
  obtain ⟨i, j, rfl, rfl, hc, q⟩ := h
  obtain ⟨t, rfl⟩ := rx
  obtain ⟨t', rfl⟩ := ry
  exact rule i j t t' s _ _ hc ⟨.int (g i j), H, I.tok _, ⟨_, rfl⟩, q⟩
theorem opI0 {f : Value → Value → Sem Value} {g : Int → Int → Int}
    (rule : ∀ (i j : Int) (t u : Tok) (s : Shared) (Q : Value → Shared → Prop) (E : Value → Shared → Prop), Q (.int (g i j) s.toks) { s with toks := s.toks + 1 } → wpAny (model X.prog X.w) X.A (f (.int i t) (.int j u)) Q E s) :
    OpR X f (rI0 fun i j => .int (g i j)) := by
  intro pins s σ H x y v u Q I rx ry h
  obtain ⟨i, j, rfl, rfl, q⟩ := h
  obtain ⟨t, rfl⟩ := rx
  obtain ⟨t', rfl⟩ := ry
  exact rule i j t t' s _ _ ⟨.int (g i j), H, I.tok _, ⟨_, rfl⟩, q⟩
theorem opB0 {f : Value → Value → Sem Value} {g : Int → Int → Bool}
    (rule : ∀ (i j : Int) (t u : Tok) (s : Shared) (Q : Value → Shared → Prop) (E : Value → Shared → Prop), Q (.bool (g i j)) s → wpAny (model X.prog X.w) X.A (f (.int i t) (.int j u)) Q E s) :
    OpR X f (rI0 fun i j => .bl (g i j)) := by
  intro pins s σ H x y v u Q I rx ry h
  obtain ⟨i, j, rfl, rfl, q⟩ := h
  obtain ⟨t, rfl⟩ := rx
  obtain ⟨t', rfl⟩ := ry
  exact rule i j t t' s _ _ ⟨.bl (g i j), H, I, rfl, q⟩

noncomputable def CDiv (i j : Int) : Prop := 0 < j ∧ j < 1073741824
noncomputable def CPow (i j : Int) : Prop := 0 ≤ j ∧ j ≤ 1000000 ∧ i.natAbs < 2 ^ 64
noncomputable def CMul (i j : Int) : Prop := (-(2 ^ 64) < i ∧ i < 2 ^ 64) ∨ (-(2 ^ 64) < j ∧ j < 2 ^ 64)
theorem CMul.ok {i j : Int} (h : CMul i j) : IntMulOk i j := by
  rcases h with ⟨h1, h2⟩ | ⟨h1, h2⟩
  · exact .of_left (intBits_le_64 h1 h2)
  · exact .of_right (intBits_le_64 h1 h2)
theorem op_add : OpR X (binaryOp .Add) (rI0 fun i j => .int (i + j)) := opI0 fun _ _ _ _ _ _ _ q => add_int q
theorem op_sub : OpR X (binaryOp .Sub) (rI0 fun i j => .int (i - j)) := opI0 fun _ _ _ _ _ _ _ q => sub_int q
theorem op_mul : OpR X (binaryOp .Mult) (rI CMul fun i j => .int (i * j)) := opI fun _ _ _ _ _ _ _ hc q => mul_int q hc.ok
theorem op_fdiv : OpR X (binaryOp .FloorDiv) (rI CDiv fun i j => .int (i / j)) := opI fun i j _ _ _ _ _ hc q => by
  have h1 : (0 : Int) < j := hc.1
  have h2 : j < 1073741824 := hc.2
  exact floordiv_int (by omega) (by rw [Int.fdiv_eq_ediv_of_nonneg i (by omega)]; exact q) (.inl (PyProof.noPylong_small (by omega)))
theorem op_mod : OpR X (binaryOp .Mod) (rI (fun _ j => 0 < j) fun i j => .int (i % j)) := opI fun i j _ _ _ _ _ hc q => by
  have h1 : (0 : Int) < j := hc
  exact mod_int' (by omega) (by rw [Int.fmod_eq_emod_of_nonneg i (by omega)]; exact q)
theorem op_pow : OpR X (binaryOp .Pow) (rI CPow fun i j => .int (i ^ j.toNat)) := opI fun _ _ _ _ _ _ _ hc q => pow_int_small hc.1 hc.2.1 hc.2.2 q
theorem unI {f : Value → Sem Value} {g : Int → Int}
    (rule : ∀ (i : Int) (t : Tok) (s : Shared) (Q : Value → Shared → Prop) (E : Value → Shared → Prop), Q (.int (g i) s.toks) { s with toks := s.toks + 1 } → wpAny (model X.prog X.w) X.A (f (.int i t)) Q E s) :
    UnR X f (rU fun i => .int (g i)) := by
  intro pins s σ H x v Q I rx h
  obtain ⟨i, rfl, q⟩ := h
  obtain ⟨t, rfl⟩ := rx
  exact rule i t s _ _ ⟨.int (g i), H, I.tok _, ⟨_, rfl⟩, q⟩
theorem un_neg : UnR X (unaryOp .USub) (rU fun i => .int (-i)) := unI fun _ _ _ _ _ q => neg_int q
end

noncomputable def scal : V → V → Bool
  | .non, .non => true | .non, .int _ => true | .int _, .non => true | .non, .bl _ => true | .bl _, .non => true | .non, .str _ => true | .str _, .non => true
  | .int _, .int _ => true | .bl _, .bl _ => true | .str _, .str _ => true | .byt _, .byt _ => true
  | .int _, .str _ => true | .str _, .int _ => true | .bl _, .str _ => true | .str _, .bl _ => true
  | _, _ => false
noncomputable def rEq : R2 := fun x y H Q => scal x y = true ∧ Q (.bl (decide (x = y))) H
noncomputable def rNe : R2 := fun x y H Q => scal x y = true ∧ Q (.bl (!decide (x = y))) H

theorem dec_int {i j : Int} : decide (V.int i = V.int j) = (i == j) := by
  rw [Bool.eq_iff_iff]
  simp
theorem dec_bl {i j : Bool} : decide (V.bl i = V.bl j) = (i == j) := by
  rw [Bool.eq_iff_iff]
  simp
theorem dec_str {i j : Str} : decide (V.str i = V.str j) = (i == j) := by
  rw [Bool.eq_iff_iff]
  simp
theorem dec_byt {i j : Array UInt8} : decide (V.byt i = V.byt j) = (i.toList == j.toList) := by
  rw [Bool.eq_iff_iff]
  cases i
  cases j
  simp

section
variable {X : Cx} {a b c : Expr} {ta tb tc : TE} {pos : Pos}
theorem fin_bl {pins : List (Addr × Obj)} {σ : St} {H : Hp} {s : Shared} {Q : VK} {k k' : Bool} (I : Inv X pins σ H s) (q : Q (.bl k) H) (e : k = k') : EP X pins σ Q (.bool k') s := by
  subst e
  exact ⟨.bl k, H, I, rfl, q⟩
theorem op_eq : OpR X (compareOp .Eq) rEq := by
  intro pins s σ H x y v u Q I rx ry h
  obtain ⟨hs, q⟩ := h
  cases x with
  | non =>
    cases rx
    cases y with
    | non => cases ry; exact PySem.EqNone.eq_none_none (fin_bl I q (by simp))
    | bl j => cases ry; exact PySem.EqNone.eq_none_bool (fin_bl I q (by simp))
    | int j => obtain ⟨t', rfl⟩ := ry; exact PySem.EqNone.eq_none_int (fin_bl I q (by simp))
    | str j => obtain ⟨t', rfl⟩ := ry; exact PySem.EqNone.eq_none_str (fin_bl I q (by simp))
    | _ => exact absurd (show false = true from hs) Bool.false_ne_true
  | bl i =>
    cases rx
    cases y with
    | non => cases ry; exact PySem.EqNone.eq_bool_none (fin_bl I q (by simp))
    | bl j => cases ry; exact eq_bool (fin_bl I q dec_bl)
    | str j => obtain ⟨t', rfl⟩ := ry; exact PySem.EqMixed.eq_bool_str (fin_bl I q (by simp))
    | _ => exact absurd (show false = true from hs) Bool.false_ne_true
  | int i =>
    obtain ⟨t, rfl⟩ := rx
    cases y with
    | non => cases ry; exact PySem.EqNone.eq_int_none (fin_bl I q (by simp))
    | int j => obtain ⟨t', rfl⟩ := ry; exact eq_int (fin_bl I q dec_int)
    | str j => obtain ⟨t', rfl⟩ := ry; exact PySem.EqMixed.eq_int_str (fin_bl I q (by simp))
    | _ => exact absurd (show false = true from hs) Bool.false_ne_true
  | str i =>
    obtain ⟨t, rfl⟩ := rx
    cases y with
    | non => cases ry; exact PySem.EqNone.eq_str_none (fin_bl I q (by simp))
    | bl j => cases ry; exact PySem.EqMixed.eq_str_bool (fin_bl I q (by simp))
    | int j => obtain ⟨t', rfl⟩ := ry; exact PySem.EqMixed.eq_str_int (fin_bl I q (by simp))
    | str j => obtain ⟨t', rfl⟩ := ry; exact eq_str (fin_bl I q dec_str)
    | _ => exact absurd (show false = true from hs) Bool.false_ne_true
  | byt i =>
    obtain ⟨t, rfl⟩ := rx
    cases y with
    | byt j => obtain ⟨t', rfl⟩ := ry; exact PySem.W.eq_bytes (fin_bl I q dec_byt)
    | _ => exact absurd (show false = true from hs) Bool.false_ne_true
  | _ => cases y <;> exact absurd (show false = true from hs) Bool.false_ne_true
theorem op_ne : OpR X (compareOp .NotEq) rNe := by
  intro pins s σ H x y v u Q I rx ry h
  obtain ⟨hs, q⟩ := h
  cases x with
  | non =>
    cases rx
    cases y with
    | non => cases ry; exact PySem.EqNone.ne_none_none (fin_bl I q (by simp))
    | bl j => cases ry; exact PySem.EqNone.ne_none_bool (fin_bl I q (by simp))
    | int j => obtain ⟨t', rfl⟩ := ry; exact PySem.EqNone.ne_none_int (fin_bl I q (by simp))
    | str j => obtain ⟨t', rfl⟩ := ry; exact PySem.EqNone.ne_none_str (fin_bl I q (by simp))
    | _ => exact absurd (show false = true from hs) Bool.false_ne_true
  | bl i =>
    cases rx
    cases y with
    | non => cases ry; exact PySem.EqNone.ne_bool_none (fin_bl I q (by simp))
    | bl j => cases ry; exact ne_bool (fin_bl I q (congrArg not dec_bl))
    | str j => obtain ⟨t', rfl⟩ := ry; exact PySem.EqMixed.ne_bool_str (fin_bl I q (by simp))
    | _ => exact absurd (show false = true from hs) Bool.false_ne_true
  | int i =>
    obtain ⟨t, rfl⟩ := rx
    cases y with
    | non => cases ry; exact PySem.EqNone.ne_int_none (fin_bl I q (by simp))
    | int j => obtain ⟨t', rfl⟩ := ry; exact ne_int (fin_bl I q (congrArg not dec_int))
    | str j => obtain ⟨t', rfl⟩ := ry; exact PySem.EqMixed.ne_int_str (fin_bl I q (by simp))
    | _ => exact absurd (show false = true from hs) Bool.false_ne_true
  | str i =>
    obtain ⟨t, rfl⟩ := rx
    cases y with
    | non => cases ry; exact PySem.EqNone.ne_str_none (fin_bl I q (by simp))
    | bl j => cases ry; exact PySem.EqMixed.ne_str_bool (fin_bl I q (by simp))
    | int j => obtain ⟨t', rfl⟩ := ry; exact PySem.EqMixed.ne_str_int (fin_bl I q (by simp))
    | str j => obtain ⟨t', rfl⟩ := ry; exact ne_str (fin_bl I q (congrArg not dec_str))
    | _ => exact absurd (show false = true from hs) Bool.false_ne_true
  | byt i =>
    obtain ⟨t, rfl⟩ := rx
    cases y with
    | byt j => obtain ⟨t', rfl⟩ := ry; exact PySem.W.ne_bytes (fin_bl I q (congrArg not dec_byt))
    | _ => exact absurd (show false = true from hs) Bool.false_ne_true
  | _ => cases y <;> exact absurd (show false = true from hs) Bool.false_ne_true

theorem op_lt : OpR X (compareOp .Lt) (rI0 fun i j => .bl (decide (i < j))) := opB0 fun _ _ _ _ _ _ _ q => lt_int q
theorem op_le : OpR X (compareOp .LtE) (rI0 fun i j => .bl (decide (i ≤ j))) := opB0 fun _ _ _ _ _ _ _ q => le_int q
theorem op_gt : OpR X (compareOp .Gt) (rI0 fun i j => .bl (decide (j < i))) := opB0 fun _ _ _ _ _ _ _ q => gt_int q
theorem op_in_str : OpR X (compareOp .In) (fun x y H Q => Ex2 fun i j => x = .str i ∧ y = .str j ∧ Q (.bl (!(Builtin.Str.occurrences j i 0 j.length 1).isEmpty)) H) := by
  intro pins s σ H x y v u Q I rx ry h
  obtain ⟨i, j, rfl, rfl, q⟩ := h
  obtain ⟨t, rfl⟩ := rx
  obtain ⟨t', rfl⟩ := ry
  exact in_str (fin_bl I q rfl)

theorem op_isN : OpR X (compareOp .Is) (fun x y H Q => y = .non ∧ Q (.bl (decide (x = .non))) H) := by
  intro pins s σ H x y v u Q I rx ry h
  obtain ⟨rfl, q⟩ := h
  cases ry
  refine is_none_gen (fin_bl I q ?_)
  cases x <;> first
    | (cases rx; rfl)
    | (obtain ⟨t, rfl⟩ := rx; rfl)
theorem op_notin_str : OpR X (compareOp .NotIn) (fun x y H Q => Ex2 fun i j => x = .str i ∧ y = .str j ∧ Q (.bl (!(!(Builtin.Str.occurrences j i 0 j.length 1).isEmpty))) H) := by
  intro pins s σ H x y v u Q I rx ry h
  obtain ⟨i, j, rfl, rfl, q⟩ := h
  obtain ⟨t, rfl⟩ := rx
  obtain ⟨t', rfl⟩ := ry
  exact notIn_str (fin_bl I q rfl)
theorem OpR.or {f : Value → Value → Sem Value} {r r' : R2} (h : OpR X f r) (h' : OpR X f r') : OpR X f (fun x y H Q => r x y H Q ∨ r' x y H Q) := by
  intro pins s σ H x y v u Q I rx ry q
  rcases q with q | q
  · exact h pins s σ H x y v u Q I rx ry q
  · exact h' pins s σ H x y v u Q I rx ry q

theorem nomark (b : Expr) {op : CmpOp} (h : op ≠ .In := by decide) (h2 : op ≠ .NotIn := by decide) : behindInMarks op b = false := by
  have e1 : (op == CmpOp.In) = false := by cases op <;> first | rfl | exact absurd rfl h
  have e2 : (op == CmpOp.NotIn) = false := by cases op <;> first | rfl | exact absurd rfl h2
  cases b <;> simp [behindInMarks, e1, e2]
theorem pe_cmpR {op : CmpOp} {r : R2} (ho : OpR X (compareOp op) r) (ha : PE X a ta) (hb : PE X b tb) (hm : behindInMarks op b = false) : PE X (.Compare a [op] [b] pos) (tOp r ta tb) := by
  intro pins s σ H Q I h
  exact wpAny_Compare1 (binT ha hb I h fun v u s2 x y H2 I2 rx ry q => ho pins s2 σ H2 x y v u Q I2 rx ry q) hm
noncomputable def tTest (t : TE) : TT := fun σ H Q => t σ H fun x H' => IsBl x fun k => Q k H'
theorem pt_cmpR {op : CmpOp} {r : R2} (ho : OpR X (compareOp op) r) (ha : PE X a ta) (hb : PE X b tb) (hm : behindInMarks op b = false) : PT X (.Compare a [op] [b] pos) (tTest (tOp r ta tb)) := by
  intro pins s σ H Q I h
  refine wpAny_isTrue_Compare1 (thn (ha pins s σ H _ I h) fun v s1 ⟨x, H1, I1, r1, q1⟩ => thn (hb pins s1 σ H1 _ I1 q1) fun u s2 ⟨y, H2, I2, r2, q2⟩ =>
    thn (ho pins s2 σ H2 x y v u _ I2 r1 r2 q2) fun c s3 ⟨z, H3, I3, r3, k, e, q3⟩ => ?_) hm
  subst e
  cases r3
  exact wpAny_truthy_bool ⟨H3, I3, q3⟩
noncomputable def tChain (r r' : R2) (ta tb tc : TE) : TE := fun σ H Q => ta σ H fun x H1 => tb σ H1 fun y H2 => r x y H2 fun z H3 => ∃ k, z = .bl k ∧
  (if k = true then tc σ H3 fun w' H4 => r' y w' H4 Q else Q (.bl false) H3)
theorem pe_chain {op op' : CmpOp} {r r' : R2} (ho : OpR X (compareOp op) r) (ho' : OpR X (compareOp op') r') (ha : PE X a ta) (hb : PE X b tb) (hc : PE X c tc)
    (hm : lastMarks [op, op'] [b, c] = false := by with_unfolding_all rfl) : PE X (.Compare a [op, op'] [b, c] pos) (tChain r r' ta tb tc) := by
  intro pins s σ H Q I h
  refine Compare_chain (thn (ha pins s σ H _ I h) fun v s1 ⟨x, H1, I1, r1, q1⟩ => chain_link (thn (hb pins s1 σ H1 _ I1 q1) fun u s2 ⟨y, H2, I2, r2, q2⟩ =>
    thn (ho pins s2 σ H2 x y v u _ I2 r1 r2 q2) fun d s3 ⟨z, H3, I3, r3, k, e, q3⟩ => ?_)) hm
  subst e
  cases r3
  refine wpAny_truthy_bool ?_
  cases k with
  | false => exact ite_ff ⟨.bl false, H3, I3, rfl, q3⟩
  | true => exact ite_tt (chain_last (thn (hc pins s3 σ H3 _ I3 q3) fun w' s4 ⟨z', H4, I4, r4, q4⟩ => ho' pins s4 σ H4 y z' u w' Q I4 r2 r4 q4))
theorem line63 : (sizeLine : Nat) < 2 ^ 63 := by rw [sizeLine_eq]; decide
theorem op_add_str : OpR X (binaryOp .Add) (fun x y H Q => Ex2 fun i j => x = .str i ∧ y = .str j ∧ i.length + j.length ≤ sizeLine ∧ Q (.str (i ++ j)) H) := by
  intro pins s σ H x y v u Q I rx ry h
  obtain ⟨i, j, rfl, rfl, hz, q⟩ := h
  obtain ⟨t, rfl⟩ := rx
  obtain ⟨t', rfl⟩ := ry
  exact add_str (fun t' tk => ⟨.str (i ++ j), H, I.tok _, ⟨_, rfl⟩, q⟩) hz
theorem vals1 {x : V} {us : List Value} (r : Vals [x] us) : ∃ u, us = [u] ∧ RelV x u := by
  cases r with
  | cons r1 r2 => cases r2; exact ⟨_, rfl, r1⟩
theorem vals2 {x y : V} {us : List Value} (r : Vals [x, y] us) : ∃ u w', us = [u, w'] ∧ RelV x u ∧ RelV y w' := by
  cases r with
  | cons r1 r2 =>
    cases r2 with
    | cons r3 r4 => cases r4; exact ⟨_, _, rfl, r1, r3⟩
theorem call_max2 (hc : X.calm = true) : CallR X (.builtin "max") (fun xs H Q => Ex2 fun i j => xs = [.int i, .int j] ∧ Q (.int (if j > i then j else i)) H) := by
  intro pins s σ H xs us Q I r h
  obtain ⟨i, j, rfl, q⟩ := h
  obtain ⟨u, w', rfl, ⟨t, rfl⟩, ⟨t', rfl⟩⟩ := vals2 r
  refine max_two_ints (I.ok.hd hc) fun h' tk k => ⟨_, H, I.kept k, ?_, q⟩
  by_cases hj : j > i
  · rw [if_pos hj, if_pos hj]; exact ⟨_, rfl⟩
  · rw [if_neg hj, if_neg hj]; exact ⟨_, rfl⟩
theorem call_min2 (hc : X.calm = true) : CallR X (.builtin "min") (fun xs H Q => Ex2 fun i j => xs = [.int i, .int j] ∧ Q (.int (if j < i then j else i)) H) := by
  intro pins s σ H xs us Q I r h
  obtain ⟨i, j, rfl, q⟩ := h
  obtain ⟨u, w', rfl, ⟨t, rfl⟩, ⟨t', rfl⟩⟩ := vals2 r
  refine min_two_ints (I.ok.hd hc) fun h' tk k => ⟨_, H, I.kept k, ?_, q⟩
  by_cases hj : j < i
  · rw [if_pos hj, if_pos hj]; exact ⟨_, rfl⟩
  · rw [if_neg hj, if_neg hj]; exact ⟨_, rfl⟩
end
end L2

namespace L2
open PySem PySem.Spec PyProof.Rows

structure ObjM (h : Heap) (x dx C : Addr) (mA : Str → Option Value) : Prop where
  obj : h.get? x = some (PySem.W.instObj C dx)
  ns : h.Ns1 dx mA
  ne : dx ≠ x

theorem lookIn_ns {h : Heap} {dx : Addr} {mA : Str → Option Value} (n : h.Ns1 dx mA) : ∃ od, h.get? dx = some od ∧ ∀ name, PySem.W.lookIn name od = some (mA name) := by
  obtain ⟨o, es, ep, ho, hd, hk, _, hm⟩ := n
  refine ⟨o, ho, fun name => ?_⟩
  have e := hm name
  unfold nsFind findBy at e
  rw [← Array.find?_toList] at e
  unfold PySem.W.lookIn
  rw [hd]
  dsimp only
  split
  · rename_i y q
    rw [q] at e
    exact congrArg some e
  · rename_i q
    rw [q] at e
    have a : es.toList.any (·.refKey) = false := by
      rw [List.any_eq_false]
      intro y hy
      obtain ⟨z, t, hkey⟩ := hk y (Array.mem_toList_iff.mp hy)
      simp [DictEntry.refKey, hkey]
    have a' : ¬ es.toList.any (·.refKey) = true := by rw [a]; exact Bool.false_ne_true
    rw [if_neg a']
    exact congrArg some e

theorem ObjM.look {h : Heap} {x dx C : Addr} {mA : Str → Option Value} (I : ObjM h x dx C mA) : ∃ od, PySem.W.InstAt h x (PySem.W.instObj C dx) C (some od) ∧ ∀ name, PySem.W.lookIn name od = some (mA name) :=
  let ⟨od, ho, hl⟩ := lookIn_ns I.ns
  ⟨od, ⟨I.obj, rfl, rfl, ho⟩, hl⟩

section
variable {prog : Program} {w : World} {A : Around} {E : Value → Shared → Prop} {s : Shared} {K : PySem.W.Frag} {x dx C f : Addr} {mA : Str → Option Value} {name : Str} {v : Value}

theorem get_map {expr : Bool} {Q : Value → Shared → Prop} (X : K.In s.heap) (I : ObjM s.heap x dx C mA) (hg : PySem.W.plainGet K C name = true) (hh : PySem.W.hasDictIn K C = true)
    (ha : PySem.W.findIn K (.ref C) name = some none) (hv : mA name = some v) (hv' : PySem.W.handedIn v = true) (h : Q v { s with toks := s.toks + 1 }) :
    wpAny (model prog w) A (getAttr (.ref x) name expr) Q E s := by
  obtain ⟨od, J, hl⟩ := I.look
  exact PySem.W.get_value X J (PySem.W.plainGet_of hg).1 (PySem.W.findObj_own hh ha rfl (by rw [hl, hv])) hv' h

theorem get_meth {pl : Sem Bool} {Q : Value × List Value → Shared → Prop} (X : K.In s.heap) (I : ObjM s.heap x dx C mA) (hg : PySem.W.plainGet K C name = true)
    (hf : PySem.W.findIn K (.ref C) name = some (some (.ref f))) (ht : PySem.W.isFn K (.ref f) = true) (hv : mA name = none) (h : Q (.ref f, [.ref x]) s) :
    wpAny (model prog w) A (getMethod (.ref x) name pl) Q E s := by
  obtain ⟨od, J, hl⟩ := I.look
  exact PySem.W.method_fn X J (PySem.W.plainGet_of hg).1 (PySem.W.plainGet_of hg).2 hf (beq_iff_eq.mp ht) (by show (PySem.W.lookIn name od).map (·.isSome) = some false; rw [hl, hv]; rfl) h

theorem set_map {ns : List Str} {Q : Unit → Shared → Prop} (X : K.In s.heap) (I : ObjM s.heap x dx C mA)
    (hs : PySem.W.findIn K (.ref C) "__setattr__" = some (some (.builtin "object.__setattr__"))) (hp : PySem.W.plainOver K C = true) (ht : PySem.W.takerIn K C name = some none) (hh : PySem.W.hasDictIn K C = true)
    (hw : PySem.Within mA ns) (hsz : ns.length ≤ sizeLine)
    (h : ∀ h', ObjM h' x dx C (fun y => if y = name then some v else mA y) → Heap.SameBut dx s.heap h' → Q () { s with heap := h', toks := s.toks + 2 }) :
    wpAny (model prog w) A (setAttr (.ref x) name v) Q E s := by
  obtain ⟨od, J, hl⟩ := I.look
  refine PySem.W.set_plain X J hs (PySem.W.osa_open (s := { s with toks := s.toks + 1 }) (r := none) X J hp ht fun b => ?_)
  obtain ⟨cd, hc, hd'⟩ := PySem.W.any_some hh
  have hx : s.heap.get? x = some ⟨.ref C, some dx, .plain, #[]⟩ := I.obj
  refine wpAny_bind (wpAny_pure (wpAny_bind (wpAny_bind (wpAny_loadPart hx (wpAny_bind (PySem.W.Looks.here (s := { s with toks := s.toks + 1 }) (PySem.W.looks_clsIn X hc) ?_))))))
  rw [hd']
  refine wpAny_pure (a := some dx) (wpAny_bind (wpAny_pure (wpAny_bind ?_)))
  refine wpAny_nsSet1 (s := { s with toks := s.toks + 1 }) I.ns fun h' hn2 hs2 => ?_
  obtain ⟨oD, esD, epD, hoD, hdD, hcD⟩ := hn2.count (PySem.Within.cons name v hw)
  refine wpAny_bind (wpAny_lookBehind hoD (by rw [hdD]; exact pastItsLine_dict (Nat.le_trans hcD (by rw [List.length_cons]; omega))) ?_)
  exact wpAny_pure (h _ ⟨(hs2.2 _ (Ne.symm I.ne)).trans I.obj, hn2, I.ne⟩ hs2)

theorem make_map {R : Result → Shared → Prop} {vs : List Value} {kw : List (Str × Value)} (X : K.In s.heap) (hm : PySem.W.makesIn K C = true)
    (hi : PySem.W.findIn K (.ref C) "__init__" = some (some (.ref f))) (hf : PySem.W.typeIn K (.ref f) = some (.type "function"))
    (h : codeAny (model prog w) (A.under (.builtin "type.__call__" ⟨.ref C :: vs, kw⟩)) (.call (.ref f) ⟨.ref (s.heap.objs.size + 1) :: vs, kw⟩) (PySem.W.InitBack (s.heap.objs.size + 1) R)
      { s with heap := (s.heap.push PySem.W.emptyDict).push (PySem.W.instObj C s.heap.objs.size) }) :
    codeAny (model prog w) A (.call (.ref C) ⟨vs, kw⟩) R s := by
  obtain ⟨hh, g, d, t, os⟩ := s
  exact PySem.W.make_core (PySem.W.makes_of X hm) (PySem.W.looks_findIn X hi) (fun self => PySem.W.bind_fn X self hf) (.inl rfl) h
theorem make_map0 {R : Result → Shared → Prop} (X : K.In s.heap) (hm : PySem.W.makesIn K C = true)
    (hi : PySem.W.findIn K (.ref C) "__init__" = some (some (.builtin "object.__init__")))
    (hb : ∀ self, PySem.W.Looks (model prog w) s.heap (bindSpecial (.builtin "object.__init__") self) (.builtin "object.__init__", [self]))
    (h : codeAny (model prog w) (A.under (.builtin "type.__call__" ⟨[.ref C], []⟩)) (.call (.builtin "object.__init__") ⟨[.ref (s.heap.objs.size + 1)], []⟩) (PySem.W.InitBack (s.heap.objs.size + 1) R)
      { s with heap := (s.heap.push PySem.W.emptyDict).push (PySem.W.instObj C s.heap.objs.size) }) :
    codeAny (model prog w) A (.call (.ref C) ⟨[], []⟩) R s := by
  obtain ⟨hh, g, d, t, os⟩ := s
  exact PySem.W.make_core (PySem.W.makes_of X hm) (PySem.W.looks_findIn X hi) hb (.inr ⟨rfl, rfl⟩) h
end

noncomputable def putF (f : Str) (v : V) : List (Str × V) → List (Str × V)
  | [] => [(f, v)]
  | (g, x) :: r => if g = f then (g, v) :: r else (g, x) :: putF f v r
theorem lookup_putF (f g : Str) (v : V) : ∀ fs : List (Str × V), (putF f v fs).lookup g = if g = f then some v else fs.lookup g
  | [] => by
    show List.lookup g [(f, v)] = _
    by_cases h : g = f
    · have hb : (g == f) = true := beq_iff_eq.mpr h
      simp only [List.lookup, hb, if_pos h]
    · have hb : (g == f) = false := beq_eq_false_iff_ne.mpr h
      simp only [List.lookup, hb, if_neg h]
  | (k, x) :: r => by
    have ih := lookup_putF f g v r
    rw [show putF f v ((k, x) :: r) = (if k = f then (k, v) :: r else (k, x) :: putF f v r) from rfl]
    by_cases hk : k = f
    · rw [if_pos hk]
      by_cases h : g = k
      · have hb : (g == k) = true := beq_iff_eq.mpr h
        simp only [List.lookup, hb, if_pos (h.trans hk)]
      · have hb : (g == k) = false := beq_eq_false_iff_ne.mpr h
        simp only [List.lookup, hb, if_neg (fun e : g = f => h (e.trans hk.symm))]
    · rw [if_neg hk]
      by_cases h : g = k
      · have hb : (g == k) = true := beq_iff_eq.mpr h
        simp only [List.lookup, hb, if_neg (fun e : g = f => hk (h.symm.trans e))]
      · have hb : (g == k) = false := beq_eq_false_iff_ne.mpr h
        simp only [List.lookup, hb]
        exact ih
theorem keys_putF (f : Str) (v : V) : ∀ fs : List (Str × V), f ∈ (putF f v fs).map (·.1) ∧ ∀ g, g ∈ fs.map (·.1) → g ∈ (putF f v fs).map (·.1)
  | [] => ⟨by simp [putF], fun g h => by simp at h⟩
  | (k, x) :: r => by
    obtain ⟨i1, i2⟩ := keys_putF f v r
    rw [show putF f v ((k, x) :: r) = (if k = f then (k, v) :: r else (k, x) :: putF f v r) from rfl]
    by_cases hk : k = f
    · rw [if_pos hk]
      subst hk
      exact ⟨by simp, fun g h => by simpa using h⟩
    · rw [if_neg hk]
      refine ⟨?_, fun g h => ?_⟩
      · rw [List.map_cons]
        exact List.mem_cons_of_mem _ i1
      · rw [List.map_cons] at h ⊢
        rcases List.mem_cons.mp h with e | e
        · exact List.mem_cons.mpr (.inl e)
        · exact List.mem_cons_of_mem _ (i2 g e)
theorem length_putF (f : Str) (v : V) : ∀ fs : List (Str × V), (putF f v fs).length ≤ fs.length + 1
  | [] => by simp [putF]
  | (k, x) :: r => by
    have ih := length_putF f v r
    rw [show putF f v ((k, x) :: r) = (if k = f then (k, v) :: r else (k, x) :: putF f v r) from rfl]
    by_cases hk : k = f
    · rw [if_pos hk, List.length_cons, List.length_cons]; omega
    · rw [if_neg hk, List.length_cons, List.length_cons]; omega

theorem RelO.some_of {v : V} {o : Option Value} (r : RelO (some v) o) : ∃ u, o = some u ∧ RelV v u := by
  cases o with
  | none => exact (show False from r).elim
  | some u => exact ⟨u, rfl, r⟩
theorem RelO.none_of {o : Option Value} (r : RelO none o) : o = none := by
  cases o with
  | none => rfl
  | some u => exact (show False from r).elim
theorem handed_of {v : V} {u : Value} (r : RelV v u) : PySem.W.handedIn u = true := by
  cases v with
  | non => cases (show u = Value.none from r); rfl
  | bl b => cases (show u = Value.bool b from r); rfl
  | int i => obtain ⟨t, e⟩ := (show ∃ t, u = Value.int i t from r); cases e; rfl
  | str x => obtain ⟨t, e⟩ := (show ∃ t, u = Value.str x t from r); cases e; rfl
  | byt b => obtain ⟨t, e⟩ := (show ∃ t, u = Value.bytes b t from r); cases e; rfl
  | flt b => obtain ⟨t, e⟩ := (show ∃ t, u = Value.float b t from r); cases e; rfl
  | ref a => cases (show u = Value.ref a from r); rfl
  | ty n => cases (show u = Value.type n from r); rfl

section
variable {P : Program} {w : World} {H H' : Hp} {h h' : Heap} {a C dx : Addr} {fs fs' : List (Str × V)}
theorem ins_get (hok : HOk P w H h) (e : H a = some (.ins C dx fs)) : ∃ mA, ObjM h a dx C mA ∧ (∀ f, RelO (fs.lookup f) (mA f)) ∧ PySem.Within mA (fs.map (·.1)) ∧ fs.length ≤ 1000 ∧ H dx = some (.own a) := by
  obtain ⟨d, z, ne, ob, mA, n, r, q⟩ := (show ObjOk P w H h a (.ins C dx fs) from hok a _ e)
  exact ⟨mA, ⟨ob, n, ne⟩, r, q, z, d⟩
end

structure Cls (K : PySem.W.Frag) (C : Addr) : Prop where
  pg : PySem.W.plainGet K C Str.empty = true
  hd : PySem.W.hasDictIn K C = true
  po : PySem.W.plainOver K C = true
  sa : PySem.W.findIn K (.ref C) "__setattr__" = some (some (.builtin "object.__setattr__"))
theorem Cls.get {K : PySem.W.Frag} {C : Addr} (c : Cls K C) (f : Str) : PySem.W.plainGet K C f = true := c.pg
noncomputable def NoAttr (K : PySem.W.Frag) (C : Addr) (f : Str) : Prop := PySem.W.findIn K (.ref C) f = some none
theorem NoAttr.taker {K : PySem.W.Frag} {C : Addr} {f : Str} (n : NoAttr K C f) : PySem.W.takerIn K C f = some none := by
  unfold PySem.W.takerIn
  rw [show PySem.W.findIn K (.ref C) f = some none from n]
  rfl
structure Con (K : PySem.W.Frag) (C : Addr) (f : Str) (v : V) (u : Value) : Prop where
  at_ : PySem.W.findIn K (.ref C) f = some (some u)
  rel : RelV v u
  get : PySem.W.specialIn K u "__get__" = some none
  cp : PySem.W.copiedNames.contains f = false
structure Meth (K : PySem.W.Frag) (C : Addr) (m : Str) (f : Addr) : Prop where
  at_ : PySem.W.findIn K (.ref C) m = some (some (.ref f))
  fn : PySem.W.isFn K (.ref f) = true
  kp : PySem.W.keepIn K (.ref f) = true

section
variable {X : Cx} {pins : List (Addr × Obj)} {σ : St} {H : Hp} {s : Shared} {a C dx : Addr} {fs : List (Str × V)} {f : Str} {v : V} {A : Around} {E : Value → Shared → Prop}

theorem getattr_ok {b : Bool} {Q : Value → Shared → Prop} (I : Inv X pins σ H s) (e : H a = some (.ins C dx fs)) (c : Cls X.K C) (n : NoAttr X.K C f) (l : fs.lookup f = some v)
    (h : ∀ u s', Inv X pins σ H s' → RelV v u → Q u s') : wpAny (model X.prog X.w) A (getAttr (.ref a) f b) Q E s := by
  obtain ⟨mA, O, r, _, _, _⟩ := ins_get I.hok e
  obtain ⟨u, hu, ru⟩ := RelO.some_of (v := v) (o := mA f) (by rw [← l]; exact r f)
  exact get_map I.kIn O (c.get f) c.hd n hu (handed_of ru) (h u _ (I.tok _) ru)

theorem getmeth_ok {m : Str} {g : Addr} {pl : Sem Bool} {Q : Value × List Value → Shared → Prop} (I : Inv X pins σ H s) (e : H a = some (.ins C dx fs)) (c : Cls X.K C) (k : Meth X.K C m g) (l : fs.lookup m = none)
    (h : Q (.ref g, [.ref a]) s) : wpAny (model X.prog X.w) A (getMethod (.ref a) m pl) Q E s := by
  obtain ⟨mA, O, r, _, _, _⟩ := ins_get I.hok e
  have hn : mA m = none := RelO.none_of (by rw [← l]; exact r m)
  exact get_meth I.kIn O (c.get m) k.at_ k.fn hn h

theorem setattr_ok {y : V} {u : Value} {Q : Unit → Shared → Prop} (I : Inv X pins σ H s) (e : H a = some (.ins C dx fs)) (c : Cls X.K C) (n : NoAttr X.K C f) (hl : fs.length < 1000) (ry : RelV y u)
    (h : ∀ s', Inv X pins σ (upd H a (.ins C dx (putF f y fs))) s' → Q () s') : wpAny (model X.prog X.w) A (setAttr (.ref a) f u) Q E s := by
  obtain ⟨mA, O, r, wi, _, ho⟩ := ins_get I.hok e
  have hz : (fs.map (·.1)).length ≤ sizeLine := by rw [List.length_map, sizeLine_eq]; omega
  refine set_map I.kIn O c.sa c.po n.taker c.hd wi hz fun h' O' sb => h _ ?_
  have hd : ∃ o, h'.get? dx = some o := let ⟨o, _, _, e', _⟩ := O'.ns; ⟨o, e'⟩
  refine I.write (x := a) (e := dx) (by rw [e]; exact True.intro) (.inr ho) (fun b q hb z => (sb.2 b hb).trans z) hd ?_
  refine ⟨by rw [upd_ne O.ne]; exact ho, ?_, O.ne, O'.obj, _, O'.ns, fun g => ?_, fun g hg => ?_⟩
  · have := length_putF f y fs; omega
  · show RelO ((putF f y fs).lookup g) (if g = f then some u else mA g)
    rw [lookup_putF]
    by_cases q : g = f
    · rw [if_pos q, if_pos q]; exact ry
    · rw [if_neg q, if_neg q]; exact r g
  · by_cases q : g = f
    · rw [q]; exact (keys_putF f y fs).1
    · refine (keys_putF f y fs).2 g (wi g fun z => hg ?_)
      show (if g = f then some u else mA g) = none
      rw [if_neg q]; exact z

theorem Inv.made (I : Inv X pins σ H s) : Inv X pins σ (upd (upd H s.heap.objs.size (.own (s.heap.objs.size + 1))) (s.heap.objs.size + 1) (.ins C s.heap.objs.size []))
    { s with heap := (s.heap.push PySem.W.emptyDict).push (PySem.W.instObj C s.heap.objs.size) } := by
  have e1 : (s.heap.push PySem.W.emptyDict).get? s.heap.objs.size = some PySem.W.emptyDict := Heap.get?_push_size s.heap rfl
  have e2 : ((s.heap.push PySem.W.emptyDict).push (PySem.W.instObj C s.heap.objs.size)).get? (s.heap.objs.size + 1) = some (PySem.W.instObj C s.heap.objs.size) := by
    have := Heap.get?_push_size (s.heap.push PySem.W.emptyDict) (o := PySem.W.instObj C s.heap.objs.size) rfl
    rwa [Heap.size_push] at this
  have e3 : (s.heap.push PySem.W.emptyDict).Ns s.heap.objs.size (fun _ => none) := ⟨PySem.W.emptyDict, #[], _, e1, rfl, (fun e he => absurd he (by simp)), fun _ => rfl⟩
  have I1 := I.laid (a := s.heap.objs.size) (o := .own (s.heap.objs.size + 1)) (h' := s.heap.push PySem.W.emptyDict) (t' := s.toks) (fun b u q => Heap.get?_push_of_some _ q) (Nat.le_refl _) ⟨_, e1⟩
  refine I1.laid (a := s.heap.objs.size + 1) (o := .ins C s.heap.objs.size []) (t' := s.toks) (fun b u q => Heap.get?_push_of_some _ q) (Nat.le_of_eq (Heap.size_push _ _)) ?_
  have ne : s.heap.objs.size ≠ s.heap.objs.size + 1 := Nat.ne_of_lt (Nat.lt_succ_self _)
  refine ⟨by rw [upd_ne ne, upd_same], Nat.zero_le _, ne, e2, fun _ => none, (Heap.Ns1.of_empty e3).at fun o q => Heap.get?_push_of_some _ q, fun _ => True.intro, fun y hy => absurd rfl hy⟩

theorem attr_of {prog : Program} {w : World} {env : Env} {e : Expr} {f : Str} {pos : Pos} {s : Shared} {Q : Value → Shared → Prop} (hb : attributeBase e f env (eval e env) = eval e env)
    (h : wpAny (model prog w) A (eval e env) (fun o s₁ => wpAny (model prog w) A (getAttr o f true) Q E s₁) E s) : wpAny (model prog w) A (eval (.Attribute e f pos) env) Q E s :=
  Attribute_any_ h (by rw [arm_eval_Attribute, hb])
end

noncomputable def sFld (K : PySem.W.Frag) (ta tv : TE) (f : Str) : TS := fun D σ H => tv σ H fun y H1 => ta σ H1 fun x H2 => ∃ a C dx fs, x = .ref a ∧ H2 a = some (.ins C dx fs) ∧ Cls K C ∧ NoAttr K C f ∧ fs.length < 1000 ∧
  D.nx σ (upd H2 a (.ins C dx (putF f y fs)))
section
variable {X : Cx} {o e value : Expr} {f : Str} {pos pos' tpos : Pos} {ta tv : TE}
theorem ps_fld (ha : PE X o ta) (hv : PE X value tv) (hs : swapsWith value (some (.Attribute o f pos')) pos.line X.env = pure false) : PS X (.Assign [.Attribute o f pos'] value pos) (sFld X.K ta tv f) := by
  intro pins s σ H D I h
  refine plainObj_wpAny_Assign_Attribute (thn (hv pins s σ H _ I h) fun u s1 ⟨y, H1, I1, ry, q⟩ => thn (ha pins s1 σ H1 _ I1 q) fun ov s2 ⟨x, H2, I2, rx, a, C, dx, fs, ex, ea, c, n, l, q2⟩ => ?_) hs
  subst ex
  obtain rfl : ov = Value.ref a := rx
  exact setattr_ok I2 ea c n l ry fun s3 I3 => ⟨σ, _, I3, q2⟩
end

section
variable {X : Cx} {pins : List (Addr × Obj)} {σ : St} {H : Hp} {s : Shared} {A : Around} {E : Value → Shared → Prop} {Q : Value → Shared → Prop} {c : Value} {b : Bool}
inductive TyOf (K : PySem.W.Frag) (H : Hp) : V → Value → Prop where
  | non : TyOf K H .non (.type "NoneType")
  | bl (x : Bool) : TyOf K H (.bl x) (.type "bool")
  | int (i : Int) : TyOf K H (.int i) (.type "int")
  | str (x : Str) : TyOf K H (.str x) (.type "str")
  | flt (x : UInt64) : TyOf K H (.flt x) (.type "float")
  | lst {a : Addr} {xs : List V} (e : H a = some (.lst xs)) : TyOf K H (.ref a) (.type "list")
  | frz {a : Addr} {o : Obj} {xs : List V} (e : H a = some (.frz o (.lst xs))) : TyOf K H (.ref a) (.type "list")
  | tup {a : Addr} {xs : List V} (e : H a = some (.tup xs)) : TyOf K H (.ref a) (.type "tuple")
  | dK {a : Addr} {kvs : List (Key × V)} (e : H a = some (.dK kvs)) : TyOf K H (.ref a) (.type "dict")
  | dT {a : Addr} {kvs : List (List Key × V)} (e : H a = some (.dT kvs)) : TyOf K H (.ref a) (.type "dict")
  | ins {a C dx : Addr} {fs : List (Str × V)} (e : H a = some (.ins C dx fs)) (cl : Cls K C) (ha : PySem.W.findIn K (.ref C) "__class__" = some (some (.builtin "object.__class__")))
      (hn : PySem.W.specialIn K (.builtin "object.__class__") "__get__" = some (some (.builtin "getset_descriptor.__get__"))) (htk : PySem.W.takesIn K (.builtin "object.__class__") = some true)
      (hm : PySem.W.mroIn K C (.type "object") = some true) : TyOf K H (.ref a) (.ref C)
theorem isinst_ok {x : V} {u t : Value} (I : Inv X pins σ H s) (rx : RelV x u) (ty : TyOf X.K H x t) (e : PySem.W.kitOne X.K t c = some b) (h : ∀ tk, Q (.bool b) { s with toks := tk }) :
    wpAny (model X.prog X.w) A (call (.builtin "isinstance") [u, c]) Q E s := by
  cases ty with
  | non => cases (show u = Value.none from rx); exact PySem.W.kia_one PySem.W.kitx_none I.kIn True.intro e (fun z => nomatch z) h
  | bl y => cases (show u = Value.bool y from rx); exact PySem.W.kia_one PySem.W.kitx_bool I.kIn True.intro e (fun z => nomatch z) h
  | int i => obtain ⟨t, q⟩ := (show ∃ t, u = Value.int i t from rx); cases q; exact PySem.W.kia_one PySem.W.kitx_int I.kIn True.intro e (fun z => nomatch z) h
  | str y => obtain ⟨t, q⟩ := (show ∃ t, u = Value.str y t from rx); cases q; exact PySem.W.kia_one PySem.W.kitx_str I.kIn True.intro e (fun z => nomatch z) h
  | flt y => obtain ⟨t, q⟩ := (show ∃ t, u = Value.float y t from rx); cases q; exact PySem.W.kia_one PySem.W.kitx_float I.kIn True.intro e (fun z => nomatch z) h
  | @lst a xs ea =>
    cases (show u = Value.ref a from rx)
    obtain ⟨_, _, n, _, h1⟩ := (show ObjOk X.prog X.w H s.heap a (.lst xs) from I.hok a _ ea)
    exact PySem.W.kia_one PySem.W.kitx_list I.kIn ⟨_, h1, rfl⟩ e (fun z => nomatch z) h
  | @frz a ob xs ea =>
    cases (show u = Value.ref a from rx)
    obtain ⟨_, _, _, n, _, h1⟩ := (show ObjOk X.prog X.w H s.heap a (.frz ob (.lst xs)) from I.hok a _ ea)
    exact PySem.W.kia_one PySem.W.kitx_list I.kIn ⟨_, h1, rfl⟩ e (fun z => nomatch z) h
  | @tup a xs ea =>
    cases (show u = Value.ref a from rx)
    obtain ⟨_, _, _, p⟩ := (show ObjOk X.prog X.w H s.heap a (.tup xs) from I.hok a _ ea)
    obtain ⟨o, h1, h2, _⟩ := p
    exact PySem.W.kia_one PySem.W.kitx_tuple I.kIn ⟨o, h1, h2⟩ e (fun z => nomatch z) h
  | @dK a kvs ea =>
    cases (show u = Value.ref a from rx)
    obtain ⟨_, _, vs, _, p⟩ := (show ObjOk X.prog X.w H s.heap a (.dK kvs) from I.hok a _ ea)
    obtain ⟨o, es, ep, h1, h2, _⟩ := p
    exact PySem.W.kia_one PySem.W.kitx_dict I.kIn ⟨o, h1, h2.1⟩ e (fun z => nomatch z) h
  | @dT a kvs ea =>
    cases (show u = Value.ref a from rx)
    obtain ⟨_, _, xs, _, o, es, ep, h1, h2, _⟩ := (show ObjOk X.prog X.w H s.heap a (.dT kvs) from I.hok a _ ea)
    exact PySem.W.kia_one PySem.W.kitx_dict I.kIn ⟨o, h1, h2.1⟩ e (fun z => nomatch z) h
  | @ins a C dx fs ea cl ha hn htk hm =>
    cases (show u = Value.ref a from rx)
    obtain ⟨mA, O, _⟩ := ins_get I.hok ea
    obtain ⟨od, J, _⟩ := O.look
    exact PySem.W.kia_one (PySem.W.kitx_own (cl.get _) cl.hd ha hn htk hm) I.kIn J e (fun z => nomatch z) h
end
end L2

namespace L2
open PySem PySem.Spec PyProof.Rows

structure Room (k : Nat) (A : Around) : Prop where
  hd : A.handled = none
  dp : A.depth + 3 * k + 5 < recursionLimit
  un : A.units + 16 * k + 200 < cLine
theorem Room.mono {j k : Nat} {A : Around} (r : Room k A) (h : j ≤ k) : Room j A := ⟨r.hd, by have := r.dp; omega, by have := r.un; omega⟩
theorem Room.deeper {k : Nat} {A : Around} (r : Room (k + 1) A) (env : Env) : Room k (A.deeper env) :=
  ⟨r.hd, by have := r.dp; show A.depth + 1 + 3 * k + 5 < _; omega, by have := r.un; show A.units + 3 + 16 * k + 200 < _; omega⟩
theorem Room.in1 {k : Nat} {A : Around} (r : Room (k + 1) A) : Room k A.in1 :=
  ⟨r.hd, by have := r.dp; show A.depth + 3 * k + 5 < _; omega, by have := r.un; show A.units + 1 + 16 * k + 200 < _; omega⟩
theorem make_depth {A : Around} {C : Addr} {us : List Value} {kw : List (Str × Value)} : (A.under (.builtin "type.__call__" ⟨.ref C :: us, kw⟩)).depth = A.depth + 1 := by
  first | rfl | simp [Around.under, Code.weight, Code.isCreation, Code.isGuard, Code.isCaller, Code.frames, Code.isFrame, guardIds]
theorem make_units {A : Around} {C : Addr} {us : List Value} {kw : List (Str × Value)} : (A.under (.builtin "type.__call__" ⟨.ref C :: us, kw⟩)).units = A.units + 1 := by
  first | rfl | simp [Around.under, Code.cUnits, Code.frames, Code.isFrame]
theorem Room.make {k : Nat} {A : Around} (r : Room (k + 1) A) (C : Addr) (us : List Value) (kw : List (Str × Value)) : Room k (A.under (.builtin "type.__call__" ⟨.ref C :: us, kw⟩)) :=
  ⟨r.hd, by have := r.dp; rw [make_depth]; omega, by have := r.un; rw [make_units]; omega⟩
theorem Room.depth {k : Nat} {A : Around} (r : Room k A) : A.depth < recursionLimit := by have := r.dp; omega
theorem Room.units {k : Nat} {A : Around} (r : Room k A) : A.units + 64 < cLine := by have := r.un; omega
noncomputable def tNil : TA := fun _ H Q => Q [] H
noncomputable def tCons (ta : TE) (tr : TA) : TA := fun σ H Q => ta σ H fun x H1 => tr σ H1 fun xs H2 => Q (x :: xs) H2
section
variable {X : Cx} {e : Expr} {es : List Expr} {te : TE} {t : TA} {pos : Pos}
theorem pa_nil : PA X [] tNil := fun _ _ _ _ H Q I h => Calls.spliced_nil ⟨[], H, I, .nil, h⟩
theorem pa_cons (ha : PE X e te) (hr : PA X es t) (hs : starEach (e :: es) X.env = (false, eval e X.env) :: starEach es X.env := by rfl) : PA X (e :: es) (tCons te t) := by
  intro pos pins s σ H Q I h
  rw [hs]
  show wpAny _ _ (spliced ((false, eval e X.env) :: backTo pos (starEach es X.env))) _ _ s
  refine Calls.spliced_cons (thn (ha pins s σ H _ I h) fun u s1 ⟨x, H1, I1, r1, q1⟩ => ?_)
  exact thn (hr pos pins s1 σ H1 _ I1 q1) fun us s2 ⟨xs, H2, I2, r2, q2⟩ => ⟨x :: xs, H2, I2, .cons r1 r2, q2⟩

noncomputable def tTup (t : TA) : TE := fun σ H Q => t σ H fun xs H1 => xs.length ≤ sizeLine ∧ ∀ p, H1 p = none → Q (.ref p) (upd H1 p (.tup xs))
noncomputable def tLst (t : TA) : TE := fun σ H Q => t σ H fun xs H1 => xs.length ≤ sizeLine ∧ ∀ p, H1 p = none → Q (.ref p) (upd H1 p (.lst xs))
theorem pe_tup {x1} (h : PA X es t) : PE X (.Tuple es x1 pos) (tTup t) := by
  intro pins s σ H Q I hq
  refine wpAny_Tuple_spliced (thn (h pos pins s σ H _ I hq) fun us s1 ⟨xs, H1, I1, r, z, q⟩ => ⟨by rw [← r.length]; exact z, ?_⟩)
  have hf : H1 s1.heap.objs.size = none := I1.hok.fresh (Nat.le_refl _)
  refine ⟨.ref s1.heap.objs.size, upd H1 s1.heap.objs.size (.tup xs), I1.laid (t' := s1.toks) (fun b u e => Heap.get?_push_of_some _ e) (Nat.le_refl _) ?_, rfl, q _ hf⟩
  exact ⟨z, us, r, ⟨_, Heap.get?_push_size _ rfl, rfl, _, rfl⟩⟩
theorem pe_lst (h : PA X es t) : PE X (.List es pos) (tLst t) := by
  intro pins s σ H Q I hq
  refine wpAny_List_spliced (thn (h pos pins s σ H _ I hq) fun us s1 ⟨xs, H1, I1, r, z, q⟩ => ⟨by rw [← r.length]; exact z, ?_⟩)
  have hf : H1 s1.heap.objs.size = none := I1.hok.fresh (Nat.le_refl _)
  refine ⟨.ref s1.heap.objs.size, upd H1 s1.heap.objs.size (.lst xs), I1.laid (t' := s1.toks) (fun b u e => Heap.get?_push_of_some _ e) (Nat.le_refl _) ?_, rfl, q _ hf⟩
  exact ⟨z, us, 0, r, Heap.get?_push_size _ rfl⟩
end

noncomputable abbrev Sp := List V → Hp → VK → XK → Prop
noncomputable abbrev CXT := List Env → Hp → Shared → XK → Value → Shared → Prop

structure Env0 (P : Program) (w : World) (K : PySem.W.Frag) (mg : Str → Option Value) (base : Heap) (A : Around) (outer : List Env) (s : Shared) (H : Hp) : Prop where
  frames : A.frames = some outer
  mod : Mod K mg base
  bs : ∀ b o, base.get? b = some o → s.heap.get? b = some o ∧ H b = none
  bsz : base.objs.size ≤ s.heap.objs.size
  funs : s.heap.FunFrames base outer
  frf : ∀ b ∈ frs outer, H b = none
  hok : HOk P w H s.heap
  bare : AllBare s.gens
noncomputable def CE (outer : List Env) (P : Program) (w : World) (H : Hp) (s : Shared) (Q : VK) (u : Value) (s' : Shared) : Prop :=
  ∃ v H', s'.os = s.os ∧ AllBare s'.gens ∧ Un (frs outer) [] H H' s.heap s'.heap ∧ HOk P w H' s'.heap ∧ RelV v u ∧ Q v H'
noncomputable def CR (CX : CXT) (outer : List Env) (P : Program) (w : World) (H : Hp) (s : Shared) (Q : VK) (E : XK) (r : Result) (s' : Shared) : Prop :=
  match r with
  | .ok (.ret u) => CE outer P w H s Q u s'
  | .ok _ => False
  | .error e => CX outer H s E e s'
structure FnOk (P : Program) (w : World) (K : PySem.W.Frag) (mg : Str → Option Value) (base : Heap) (CX : CXT) (k : Nat) (f : Addr) (fd : FuncData) (ps : List Str) (sp : Sp) : Prop where
  len : ∀ vs H Q E, sp vs H Q E → vs.length = ps.length
  run : ∀ (A : Around) (outer : List Env) (s : Shared) (H : Hp) (args : Args) (us : List Value) (vs : List V) (Q : VK) (E : XK), Room k A → Env0 P w K mg base A outer s H → BindsTo s fd args (ps.zip us) → Vals vs us → sp vs H Q E →
    codeAny (model P w) A (.call (.ref f) args) (CR CX outer P w H s Q E) s
theorem FnOk.mono {P : Program} {w : World} {K : PySem.W.Frag} {mg : Str → Option Value} {base : Heap} {CX : CXT} {j k : Nat} {f : Addr} {fd : FuncData} {ps : List Str} {sp : Sp} (F : FnOk P w K mg base CX j f fd ps sp) (h : j ≤ k) :
    FnOk P w K mg base CX k f fd ps sp := ⟨F.len, fun A outer s H args us vs Q E hr => F.run A outer s H args us vs Q E (hr.mono h)⟩
theorem Env0.make {P : Program} {w : World} {K : PySem.W.Frag} {mg : Str → Option Value} {base : Heap} {A : Around} {outer : List Env} {s : Shared} {H : Hp} (e : Env0 P w K mg base A outer s H) (C : Addr) (us : List Value) (kw : List (Str × Value)) :
    Env0 P w K mg base (A.under (.builtin "type.__call__" ⟨.ref C :: us, kw⟩)) outer s H := ⟨by first | exact e.frames | (simpa [Around.under, Code.envs, Code.isFrame, pushEnvs] using e.frames), e.mod, e.bs, e.bsz, e.funs, e.frf, e.hok, e.bare⟩
theorem Env0.in1 {P : Program} {w : World} {K : PySem.W.Frag} {mg : Str → Option Value} {base : Heap} {A : Around} {outer : List Env} {s : Shared} {H : Hp} (e : Env0 P w K mg base A outer s H) :
    Env0 P w K mg base A.in1 outer s H := ⟨e.frames, e.mod, e.bs, e.bsz, e.funs, e.frf, e.hok, e.bare⟩

section
variable {X : Cx} {pins : List (Addr × Obj)} {σ : St} {H : Hp} {s s' : Shared}
theorem Inv.env0 (I : Inv X pins σ H s) : Env0 X.prog X.w X.K X.mg X.base X.A X.stack s H :=
  ⟨I.ok.frames, I.ok.mod, I.bs, Nat.le_trans I.ok.bsz I.sz, I.stack, I.stkFree, I.hok, I.bare⟩
theorem Inv.after {Q : VK} {u : Value} (I : Inv X pins σ H s) (h : CE X.stack X.prog X.w H s Q u s') : EP X pins σ Q u s' := by
  obtain ⟨v, H', os, bare, un, hok, r, q⟩ := h
  obtain ⟨hh, g, d, t, os'⟩ := s'
  obtain rfl : os' = s.os := os
  exact ⟨v, H', I.call (h' := hh) (g' := g) (d' := d) (t' := t) (ch := []) un hok bare (fun b z => absurd z (by simp)), r, q⟩
end

noncomputable def tCall (sp : Sp) (dvs : List V) (E : XK) (t : TA) : TE := fun σ H Q => t σ H fun vs H1 => sp (vs ++ dvs) H1 Q E
noncomputable def tMeth (C : Addr) (m : Str) (sp : Sp) (dvs : List V) (E : XK) (ta : TE) (t : TA) : TE := fun σ H Q => ta σ H fun x H1 => Ex3 fun a dx fs => x = .ref a ∧ H1 a = some (.ins C dx fs) ∧ fs.lookup m = none ∧
  t σ H1 fun vs H2 => sp (x :: (vs ++ dvs)) H2 Q E
noncomputable def tMake (C : Addr) (sp : Sp) (dvs : List V) (E : XK) (t : TA) : TE := fun σ H Q => t σ H fun vs H1 => ∀ x dx, H1 x = none → H1 dx = none → dx ≠ x →
  sp (.ref x :: (vs ++ dvs)) (upd (upd H1 dx (.own x)) x (.ins C dx [])) (fun v H2 => v = .non ∧ Q (.ref x) H2) E

noncomputable def Binds (K : PySem.W.Frag) (fd : FuncData) (ps : List Str) (ds : List Value) : Prop :=
  ∀ (s : Shared) (us : List Value), K.In s.heap → (us ++ ds).length = ps.length → BindsTo s fd ⟨us, []⟩ (ps.zip (us ++ ds))
theorem Binds.all {K : PySem.W.Frag} {fd : FuncData} {ps : List Str} (h : ∀ us : List Value, us.length = ps.length → bindArgs fd ⟨us, []⟩ = pure (ps.zip us)) : Binds K fd ps [] := fun s us _ hl => by
  rw [List.append_nil] at hl ⊢
  exact .of_eq (h us hl)

noncomputable def Passes (CX : CXT) (X : Cx) (E : XK) : Prop := ∀ (pins : List (Addr × Obj)) (σ : St) (H : Hp) (s : Shared) (e : Value) (s' : Shared), Inv X pins σ H s → CX X.stack H s E e s' → X.xe e s'

section
variable {X : Cx} {CX : CXT} {k : Nat} {f C : Addr} {fd : FuncData} {ps : List Str} {sp : Sp} {dvs : List V} {ds : List Value} {E : XK} {x m : Str} {p pos apos : Pos} {e o : Expr} {es : List Expr} {ta : TE} {t : TA}

theorem run_fn {pins : List (Addr × Obj)} {σ : St} {H : Hp} {s : Shared} {Q : VK} {us : List Value} {vs : List V} (F : FnOk X.prog X.w X.K X.mg X.base CX k f fd ps sp) (hr : Room k X.A) (hb : Binds X.K fd ps ds) (hd : Vals dvs ds) (hx : Passes CX X E)
    (I : Inv X pins σ H s) (r : Vals vs us) (h : sp (vs ++ dvs) H Q E) : wpAny (model X.prog X.w) X.A (call (.ref f) us) (EP X pins σ Q) X.xe s := by
  have r2 : Vals (vs ++ dvs) (us ++ ds) := r.append hd
  have hl : (us ++ ds).length = ps.length := by rw [← r2.length]; exact F.len _ _ _ _ h
  refine wpAny_call (codeAny_mono (F.run X.A X.stack s H ⟨us, []⟩ (us ++ ds) (vs ++ dvs) Q E hr I.env0 (hb s us I.kIn hl) r2 h) fun r s' hq => ?_)
  cases r with
  | error e => exact hx pins σ H s e s' I hq
  | ok fl =>
    cases fl with
    | ret u => exact I.after hq
    | next => exact False.elim hq
    | brk => exact False.elim hq
    | cont => exact False.elim hq

theorem pe_call (F : FnOk X.prog X.w X.K X.mg X.base CX k f fd ps sp) (hr : Room k X.A) (hg : Gl X x) (hm : X.mg x = some (.ref f)) (hk : PySem.W.keepIn X.K (.ref f) = true) (hb : Binds X.K fd ps ds) (hd : Vals dvs ds) (hx : Passes CX X E)
    (ha : PA X (e :: es) t) (hdb : (x == ("__debug__" : Str)) = false := by decide) (he : starEach (e :: es) X.env = (false, eval e X.env) :: starEach es X.env := by rfl) (hpl : (backTo pos (starEach es X.env)).any (·.1) = false := by rfl) :
    PE X (.Call (.Name x p) (e :: es) [] pos) (tCall sp dvs E t) := by
  intro pins s σ H Q I h
  refine wpAny_Call_Name_kw (ld_glob I hg hm ?_ hdb)
  refine PySem.W.callWith_K (h₀ := X.base) I.ok.mod.kin hk (thn (ha pos pins s σ H _ I h) fun us s1 ⟨vs, H1, I1, r, q⟩ => ⟨I1.kIn, ?_⟩) he hpl
  exact run_fn F hr hb hd hx I1 r q
theorem pe_meth {pl : Sem Bool} (he : PE X o ta) (c : Cls X.K C) (hm : Meth X.K C m f) (F : FnOk X.prog X.w X.K X.mg X.base CX k f fd ps sp) (hr : Room k X.A) (hb : Binds X.K fd ps ds) (hd : Vals dvs ds) (hx : Passes CX X E) (ha : PA X (e :: es) t)
    (hst : starEach (e :: es) X.env = (false, eval e X.env) :: starEach es X.env := by rfl) (hpl : (backTo pos (starEach es X.env)).any (·.1) = false := by rfl)
    (ht : eval (.Call (.Attribute o m apos) (e :: es) [] pos) X.env = (do
      let ov ← eval o X.env
      standAt apos.atName
      let (f, first) ← holding [ov] (getMethod ov m pl)
      callWith pos f first (backTo pos (starEach (e :: es) X.env)) (backToKw pos (keywordEach [] X.env))) := by rfl) :
    PE X (.Call (.Attribute o m apos) (e :: es) [] pos) (tMeth C m sp dvs E ta t) := by
  intro pins s σ H Q I h
  refine PySem.W.methodCall_KW (pl := pl) (thn (he pins s σ H _ I h) fun u s1 ⟨x, H1, I1, rx, a, dx, fs, ex, ea, l, q⟩ => ?_) ht
  subst ex
  obtain rfl : u = Value.ref a := rx
  refine getmeth_ok I1 ea c hm l ?_
  refine PySem.W.callWith_K (first := [.ref a]) (h₀ := X.base) I.ok.mod.kin hm.kp (thn (ha pos pins s1 σ H1 _ I1 q) fun us s2 ⟨vs, H2, I2, r, q2⟩ => ⟨I2.kIn, ?_⟩) hst hpl
  exact run_fn (us := .ref a :: us) (vs := .ref a :: vs) F hr hb hd hx I2 (.cons rfl r) q2
structure Mk (K : PySem.W.Frag) (C f : Addr) : Prop where
  makes : PySem.W.makesIn K C = true
  init : PySem.W.findIn K (.ref C) "__init__" = some (some (.ref f))
  fn : PySem.W.isFn K (.ref f) = true
  kp : PySem.W.keepIn K (.ref C) = true

theorem run_make {pins : List (Addr × Obj)} {σ : St} {H : Hp} {s : Shared} {Q : VK} {us : List Value} {vs : List V} (M : Mk X.K C f) (F : FnOk X.prog X.w X.K X.mg X.base CX k f fd ps sp) (hr : Room (k + 1) X.A) (hb : Binds X.K fd ps ds) (hd : Vals dvs ds)
    (hx : Passes CX X E) (I : Inv X pins σ H s) (r : Vals vs us)
    (h : ∀ x dx, H x = none → H dx = none → dx ≠ x → sp (.ref x :: (vs ++ dvs)) (upd (upd H dx (.own x)) x (.ins C dx [])) (fun v H2 => v = .non ∧ Q (.ref x) H2) E) :
    wpAny (model X.prog X.w) X.A (call (.ref C) us) (EP X pins σ Q) X.xe s := by
  have hq := h (s.heap.objs.size + 1) s.heap.objs.size (I.hok.fresh (Nat.le_succ _)) (I.hok.fresh (Nat.le_refl _)) (Nat.ne_of_lt (Nat.lt_succ_self _))
  have I2 := Inv.made (C := C) I
  have r2 : Vals (V.ref (s.heap.objs.size + 1) :: (vs ++ dvs)) (Value.ref (s.heap.objs.size + 1) :: (us ++ ds)) := .cons rfl (r.append hd)
  have hl : (Value.ref (s.heap.objs.size + 1) :: us ++ ds).length = ps.length := by
    have e := r2.length
    rw [F.len _ _ _ _ hq] at e
    exact e.symm
  refine wpAny_call (make_map (f := f) I.kIn M.makes M.init (beq_iff_eq.mp M.fn) (codeAny_mono (F.run _ X.stack _ _ ⟨Value.ref (s.heap.objs.size + 1) :: us, []⟩ (Value.ref (s.heap.objs.size + 1) :: (us ++ ds)) _ _ E (hr.make C us [])
    (I2.env0.make C us []) (hb _ (Value.ref (s.heap.objs.size + 1) :: us) I2.kIn hl) r2 hq) fun r s' hq' => ?_))
  cases r with
  | error e => exact hx pins σ _ _ e s' I2 hq'
  | ok fl =>
    cases fl with
    | ret u =>
      obtain ⟨v, H', I3, rv, ev, q3⟩ := I2.after hq'
      subst ev
      exact ⟨rv, ⟨V.ref (s.heap.objs.size + 1), H', I3, rfl, q3⟩⟩
    | next => exact False.elim hq'
    | brk => exact False.elim hq'
    | cont => exact False.elim hq'
theorem pe_make (M : Mk X.K C f) (F : FnOk X.prog X.w X.K X.mg X.base CX k f fd ps sp) (hr : Room (k + 1) X.A) (hg : Gl X x) (hm : X.mg x = some (.ref C)) (hb : Binds X.K fd ps ds) (hd : Vals dvs ds) (hx : Passes CX X E)
    (ha : PA X (e :: es) t) (hdb : (x == ("__debug__" : Str)) = false := by decide) (he : starEach (e :: es) X.env = (false, eval e X.env) :: starEach es X.env := by rfl) (hpl : (backTo pos (starEach es X.env)).any (·.1) = false := by rfl) :
    PE X (.Call (.Name x p) (e :: es) [] pos) (tMake C sp dvs E t) := by
  intro pins s σ H Q I h
  refine wpAny_Call_Name_kw (ld_glob I hg hm ?_ hdb)
  refine PySem.W.callWith_K (h₀ := X.base) I.ok.mod.kin M.kp (thn (ha pos pins s σ H _ I h) fun us s1 ⟨vs, H1, I1, r, q⟩ => ⟨I1.kIn, ?_⟩) he hpl
  exact run_make M F hr hb hd hx I1 r q
end

section
variable {X : Cx} {CX : CXT} {k : Nat} {f C : Addr} {fd : FuncData} {ps ks : List Str} {sp : Sp} {E : XK} {x m : Str} {p pos apos kpos : Pos} {e o : Expr} {es : List Expr} {kws : List Keyword} {te ta : TE} {t tk : TA} {nm : Option Str}
structure KBinds (K : PySem.W.Frag) (fd : FuncData) (ps ks : List Str) (g : List Value → List Value → List Value) (gV : List V → List V → List V) : Prop where
  to : ∀ (s : Shared) (us ws : List Value), K.In s.heap → (g us ws).length = ps.length → BindsTo s fd ⟨us, ks.zip ws⟩ (ps.zip (g us ws))
  rel : ∀ {vs : List V} {us : List Value} {zs : List V} {ws : List Value}, Vals vs us → Vals zs ws → Vals (gV vs zs) (g us ws)
variable {g : List Value → List Value → List Value} {gV : List V → List V → List V}
end

structure FnScope (N P : List Str) (sc : Scope) : Prop where
  kind : sc.kind = .function
  co : sc.isCoroutine = false
  gen : sc.isGenerator = false
  nd : N.Nodup
  pre : N.take P.length = P
  par : ∀ x ∈ P, sc.names.lookup x = some .local ∨ sc.names.lookup x = some .cell
  nofree : ∀ y ∈ sc.names, y.2 ≠ .free

theorem bindL_out {kindOf : Str → Option NameKind} {x : Str} : ∀ {binds : List (Str × Value)} {m : Str → Option Value}, (∀ v, (x, v) ∉ binds) → bindL kindOf binds m x = m x
  | [], _, _ => rfl
  | (n, v) :: r, m, h => by
    unfold bindL
    rw [bindL_out fun w hw => h w (List.mem_cons_of_mem _ hw)]
    split
    · have : x ≠ n := by rintro rfl; exact h v List.mem_cons_self
      simp [this]
    · rfl
theorem bindC_out {kindOf : Str → Option NameKind} {x : Str} : ∀ {binds : List (Str × Value)} {m : Str → Option Value}, (∀ v, (x, v) ∉ binds) → bindC kindOf binds m x = m x
  | [], _, _ => rfl
  | (n, v) :: r, m, h => by
    unfold bindC
    rw [bindC_out fun w hw => h w (List.mem_cons_of_mem _ hw)]
    split
    · rfl
    · have : x ≠ n := by rintro rfl; exact h v List.mem_cons_self
      simp [this]
theorem bindL_get {kindOf : Str → Option NameKind} {x : Str} {v : Value} : ∀ {P : List Str} {vs : List Value} {i : Nat} {m : Str → Option Value}, P.Nodup → P[i]? = some x → vs[i]? = some v → kindOf x = some .local →
    bindL kindOf (P.zip vs) m x = some v
  | [], _, _, _, _, h, _, _ => by simp at h
  | _ :: _, [], _, _, _, _, h, _ => by simp at h
  | p :: P, w :: vs, 0, m, nd, h1, h2, hk => by
    simp at h1 h2; subst h1; subst h2
    show bindL kindOf ((p, w) :: P.zip vs) m p = _
    unfold bindL
    rw [bindL_out fun v hv => (List.nodup_cons.mp nd).1 (List.of_mem_zip hv).1, if_pos hk]
    simp
  | p :: P, w :: vs, i + 1, m, nd, h1, h2, hk => by
    show bindL kindOf ((p, w) :: P.zip vs) m x = _
    unfold bindL
    exact bindL_get (i := i) (List.nodup_cons.mp nd).2 (by simpa using h1) (by simpa using h2) hk
theorem bindC_get {kindOf : Str → Option NameKind} {x : Str} {v : Value} : ∀ {P : List Str} {vs : List Value} {i : Nat} {m : Str → Option Value}, P.Nodup → P[i]? = some x → vs[i]? = some v → kindOf x ≠ some .local →
    bindC kindOf (P.zip vs) m x = some v
  | [], _, _, _, _, h, _, _ => by simp at h
  | _ :: _, [], _, _, _, _, h, _ => by simp at h
  | p :: P, w :: vs, 0, m, nd, h1, h2, hk => by
    simp at h1 h2; subst h1; subst h2
    show bindC kindOf ((p, w) :: P.zip vs) m p = _
    unfold bindC
    rw [bindC_out fun v hv => (List.nodup_cons.mp nd).1 (List.of_mem_zip hv).1, if_neg hk]
    simp
  | p :: P, w :: vs, i + 1, m, nd, h1, h2, hk => by
    show bindC kindOf ((p, w) :: P.zip vs) m x = _
    unfold bindC
    exact bindC_get (i := i) (List.nodup_cons.mp nd).2 (by simpa using h1) (by simpa using h2) hk

noncomputable def start (N : List Str) (vs : List V) : St := vs.map some ++ List.replicate (N.length - vs.length) none

noncomputable def cxOf (CX : CXT) (P : Program) (w : World) (K : PySem.W.Frag) (mg : Str → Option Value) (base : Heap) (N : List Str) (qual : Str) (scope : Scope) (f : Addr) (cd : Value) (A : Around) (outer : List Env) (s : Shared) (H : Hp) (E : XK) : Cx where
  prog := P
  w := w
  K := K
  mg := mg
  base := base
  A := A.deeper (envOfC qual scope s.heap.objs.size f cd)
  N := N
  s₀ := s
  H₀ := H
  env := envOfC qual scope s.heap.objs.size f cd
  outer := outer
  stack := envOfC qual scope s.heap.objs.size f cd :: outer
  ex := []
  calm := true
  fn := fun _ => true
  pn := []
  xe := fun e s' => wpAny (model P w) (A.deeper (envOfC qual scope s.heap.objs.size f cd)) (leaving (envOfC qual scope s.heap.objs.size f cd) e) (fun _ s'' => CX outer H s E e s'') (fun e' s'' => CX outer H s E e' s'') s'

theorem cell_has {sc : Scope} {n : Nat} {x : Str} (h : sc.names.lookup x = some .cell) : ∃ c, (cellsFrom n sc.names []).lookup x = some c := by
  have q := PySem.W.cellsFrom_some sc.names n [] (.inl h)
  exact Option.isSome_iff_exists.mp q

theorem inv_start {CX : CXT} {P : Program} {w : World} {K : PySem.W.Frag} {mg : Str → Option Value} {base : Heap} {N ps : List Str} {qual : Str} {scope : Scope} {f : Addr} {cd : Value} {A : Around} {outer : List Env} {s s1 : Shared} {H : Hp} {E : XK} {us : List Value} {vs : List V}
    (S : FnScope N ps scope) (hd : A.handled = none) (e0 : Env0 P w K mg base A outer s H) (hl : vs.length = ps.length) (r : Vals vs us)
    (x : InCallC s s.heap.objs.size (bindL (envOfC qual scope s.heap.objs.size f cd).kindOf (ps.zip us) fun _ => none) (cellsFrom (s.heap.objs.size + 1) scope.names []) (bindC (envOfC qual scope s.heap.objs.size f cd).kindOf (ps.zip us) fun _ => none) s1) :
    Inv (cxOf CX P w K mg base N qual scope f cd A outer s H E) [] (start N vs) H s1 := by
  have hpl : ps.length ≤ N.length := by have := congrArg List.length S.pre; rw [List.length_take] at this; omega
  obtain ⟨h1, tk, rfl, hk⟩ := x.done
  have noA : ∀ b : Addr, b ∉ (cxOf CX P w K mg base N qual scope f cd A outer s H E).ex := fun b z => absurd (show b ∈ ([] : List Addr) from z) (by simp)
  refine ⟨⟨e0.mod, S.kind, rfl, rfl, Nat.le_refl _, fun y z c h1 h2 => ?_, fun y hy => ?_, fun y c _ h => ?_, fun _ => hd, Around.frames_deeper e0.frames, .inr ⟨rfl, rfl⟩, fun b z => absurd z (noA b), e0.bs, e0.bsz, fun b _ _ => noA b, fun b z => absurd z (noA b), e0.funs, e0.frf⟩,
    rfl, e0.bare, Un.kept hk, ⟨_, x.toInCall.ns, fun i y v h1 h2 h3 => ?_⟩, fun y c h => ⟨_, x.cell y c h⟩, e0.hok.fresh (Nat.le_refl _), fun y c h => ?_, fun p hp => absurd (show p ∈ ([] : List (Addr × Obj)) from hp) (by simp), e0.hok.kept hk, ?_⟩
  · exact name_of_addr x.apart (PySem.mem_of_lookup h1) (PySem.mem_of_lookup h2)
  · have hy : scope.names.lookup y = some .cell ∨ scope.names.lookup y = some .free := hy
    rcases hy with hy | hy
    · exact cell_has hy
    · exact absurd rfl (S.nofree _ (PySem.mem_of_lookup hy))
  · exact Nat.le_of_lt (x.above y c (PySem.mem_of_lookup h))
  · have hi : i < vs.length := by
      unfold start at h2
      by_cases hi : i < vs.length
      · exact hi
      · rw [List.getElem?_append_right (by simpa using hi)] at h2
        rw [List.getElem?_replicate] at h2
        split at h2 <;> cases h2
    have ha : vs[i]? = some v := by
      unfold start at h2
      rw [List.getElem?_append_left (by simpa using hi), List.getElem?_map] at h2
      cases e : vs[i]? with
      | none => rw [e] at h2; cases h2
      | some a => rw [e] at h2; cases h2; rfl
    obtain ⟨u, hu, rv⟩ := r.get ha
    have hp : ps[i]? = some y := by
      rw [← S.pre, List.getElem?_take_of_lt (by omega)]; exact h1
    have ndP : ps.Nodup := by rw [← S.pre]; exact S.nd.sublist (List.take_sublist _ _)
    refine ⟨u, ⟨rv, fun h => by cases h⟩, ?_⟩
    rcases S.par y (List.mem_of_getElem? hp) with k | k
    · exact .inl ⟨k, bindL_get ndP hp hu k⟩
    · obtain ⟨c, e⟩ := cell_has (n := s.heap.objs.size + 1) k
      refine .inr ⟨.inl k, c, e, ?_⟩
      have q := x.cell y c e
      rw [bindC_get ndP hp hu (by show scope.names.lookup y ≠ _; rw [k]; decide)] at q
      exact q
  · exact e0.hok.fresh (Nat.le_of_lt (x.above y c (PySem.mem_of_lookup h)))
  · unfold start
    show _ = N.length
    rw [List.length_append, List.length_map, List.length_replicate]
    omega

theorem fn_of {CX : CXT} {P : Program} {w : World} {K : PySem.W.Frag} {mg : Str → Option Value} {base : Heap} {k : Nat} {f : Addr} {name qual : Str} {params : Arguments} {body : List Stmt} {scope : Scope} {dV kV doc pm cdv ct oc : Value} {an od : Option Addr}
    {osl : Array (Option Value)} {N ps : List Str} {sp : Sp} (lk : K.lookup f = some ⟨oc, od, .func (PySem.W.fnOf name qual params body scope dV kV doc pm an cdv ct), osl⟩) (hcd : PySem.W.codeIn K cdv qual = true) (S : FnScope N ps scope)
    (len : ∀ vs H Q E, sp vs H Q E → vs.length = ps.length)
    (hbody : ∀ (A : Around) (outer : List Env) (s : Shared) (H : Hp) (vs : List V) (Q : VK) (E : XK), Room k (A.deeper (envOfC qual scope s.heap.objs.size f cdv)) → sp vs H Q E →
      ∃ t, PSs (cxOf CX P w K mg base N qual scope f cdv A outer s H E) body t ∧ t { nx := fun _ H' => Q .non H', rt := Q } (start N vs) H) :
    FnOk P w K mg base CX (k + 1) f (PySem.W.fnOf name qual params body scope dV kV doc pm an cdv ct) ps sp := by
  refine ⟨len, fun A outer s H args us vs Q E hr e0 hb r hsp => ?_⟩
  have hl := len _ _ _ _ hsp
  have KX : K.In s.heap := e0.mod.kin.keeps fun b o e => (e0.bs b o e).1
  have lim : s.heap.NoLimit := e0.mod.nolimit.keeps fun b o e => (e0.bs b o e).1
  have hkind : ∀ y ∈ ps.zip us, scope.names.lookup y.1 = some .local ∨ (scope.names.lookup y.1 = some .cell ∧ ((cellsFrom (s.heap.objs.size + 1) scope.names []).lookup y.1).isSome = true) := fun ⟨n, v⟩ hy => by
    rcases S.par n (List.of_mem_zip hy).1 with q | q
    · exact .inl q
    · exact .inr ⟨q, PySem.W.cellsFrom_some _ _ _ (.inl q)⟩
  refine codeAny_call_function hr.depth (KX _ _ lk) rfl S.co S.gen rfl (PySem.W.codeRec_of KX hcd) (hb _ _ _ _ ?_)
  refine wpAny_newFunctionEnv_cells S.kind hkind fun env he s1 x => ?_
  subst he
  refine ⟨lim.keeps x.toInCall.keep, codeAny_func ?_⟩
  obtain ⟨t, ht, hq⟩ := hbody A outer s H vs Q E (hr.deeper _) hsp
  have I : Inv (cxOf CX P w K mg base N qual scope f cdv A outer s H E) [] (start N vs) H s1 := inv_start S hr.hd e0 hl r x
  refine wpAny_mono (ht [] s1 (start N vs) H _ I hq) (fun fl s' hs => ?_) fun e s' hs => hs
  have fin : ∀ {σ' : St} {H' : Hp} {v : V} {u : Value}, Inv (cxOf CX P w K mg base N qual scope f cdv A outer s H E) [] σ' H' s' → RelV v u → Q v H' → CE outer P w H s Q u s' :=
    fun {σ' H' v u} J rv q => ⟨v, H', J.os, J.bare, J.base, J.hok, rv, q⟩
  cases fl with
  | ret u =>
    obtain ⟨v, σ', H', J, rv, q⟩ := hs
    exact fin J rv q
  | next =>
    obtain ⟨σ', H', J, q⟩ := hs
    exact fin (v := V.non) (u := Value.none) J rfl q
  | brk =>
    obtain ⟨_, _, _, q⟩ := hs
    exact False.elim q
  | cont =>
    obtain ⟨_, _, _, q⟩ := hs
    exact False.elim q
end L2

namespace L2
open PySem PySem.Spec PyProof.Rows
section
variable {X : Cx} {x : Str} {p pos : Pos} {e : Expr} {es : List Expr} {t : TA} {id T : String} {r : List V → Hp → VK → Prop}

noncomputable def tCB (r : List V → Hp → VK → Prop) (t : TA) : TE := fun σ H Q => t σ H fun vs H1 => r vs H1 Q
theorem pe_callB (hc : CallR X (.builtin id) r) (hg : Gl X x) (hm : X.mg x = none) (hv : bootBuiltins x = some (.builtin id)) (ha : PA X (e :: es) t) (hn : x ≠ "__name__" := by decide) (hdb : (x == ("__debug__" : Str)) = false := by decide)
    (he : starEach (e :: es) X.env = (false, eval e X.env) :: starEach es X.env := by rfl) (hpl : (backTo pos (starEach es X.env)).any (·.1) = false := by rfl) : PE X (.Call (.Name x p) (e :: es) [] pos) (tCB r t) := by
  intro pins s σ H Q I h
  refine wpAny_Call_Name_kw (ld_blt I hg hm hv ?_ hn hdb)
  exact PyProof.Rows.callWith_builtin1 (thn (ha pos pins s σ H _ I h) fun us s1 ⟨vs, H1, I1, r1, q1⟩ => hc pins s1 σ H1 vs us Q I1 r1 q1) he hpl
theorem pe_callTy (hc : CallR X (.type T) r) (hg : Gl X x) (hm : X.mg x = none) (hv : bootBuiltins x = some (.type T)) (ha : PA X (e :: es) t) (hn : x ≠ "__name__" := by decide) (hdb : (x == ("__debug__" : Str)) = false := by decide)
    (he : starEach (e :: es) X.env = (false, eval e X.env) :: starEach es X.env := by rfl) (hpl : (backTo pos (starEach es X.env)).any (·.1) = false := by rfl) : PE X (.Call (.Name x p) (e :: es) [] pos) (tCB r t) := by
  intro pins s σ H Q I h
  refine wpAny_Call_Name_kw (ld_blt I hg hm hv ?_ hn hdb)
  exact PyProof.Rows.callWith_type1 (thn (ha pos pins s σ H _ I h) fun us s1 ⟨vs, H1, I1, r1, q1⟩ => hc pins s1 σ H1 vs us Q I1 r1 q1) he hpl
end
end L2

namespace HT
open PySem PyProof.Rows

section
open PySem.SeqAt
open PySem.AutoSeq1 (wpAny_loadPart')
open PySem.MeetsSeq PySem.MeetsSeq2 PySem.MeetsSeq3

end

section
variable {prog : Program} {w : World} {A : Around} {E : Value → Shared → Prop} {s : Shared}

noncomputable def sIx (n d : Nat) : Option Int → Nat
  | none => d
  | some v => if v < 0 then (v + (n : Int)).toNat else min v.toNat n
theorem sIx_none (n d : Nat) : sIx n d none = d := rfl
theorem sIx_nat (n d k : Nat) : sIx n d (some (k : Int)) = min k n := by
  show (if (k : Int) < 0 then ((k : Int) + (n : Int)).toNat else min (k : Int).toNat n) = min k n
  rw [if_neg (by omega), Int.toNat_natCast]
end
end HT

namespace L2
open PySem PySem.Spec PyProof.Rows

noncomputable abbrev TO := St → Hp → (Option Int → Hp → Prop) → Prop
noncomputable def PO (X : Cx) (e : Option Expr) (t : TO) : Prop :=
  ∀ (pins : List (Addr × Obj)) (s : Shared) (σ : St) (H : Hp) (Q : Option Int → Hp → Prop), Inv X pins σ H s → t σ H Q →
    wpAny (model X.prog X.w) X.A (evalPart e X.env) (fun u s' => ∃ o H', Inv X pins σ H' s' ∧ IsPart u o ∧ Q o H') X.xe s
noncomputable def tNoPart : TO := fun _ H Q => Q none H
noncomputable def tPart (t : TE) : TO := fun σ H Q => t σ H fun x H1 => IsIn x fun i => Q (some i) H1

theorem intsAre_of {ns : List Int} : ∀ {us : List Value}, Vals (ns.map V.int) us → IntsAre us ns := by
  induction ns with
  | nil => intro us r; rw [List.map_nil] at r; cases r; exact .nil
  | cons n ns ih =>
    intro us r
    rw [List.map_cons] at r
    cases r with
    | cons r1 r2 =>
      obtain ⟨t, e⟩ := r1
      subst e
      exact .cons n t (ih r2)

section
variable {X : Cx} {e : Expr} {te : TE} {lo hi : Option Expr} {tl th : TO} {pos p2 : Pos}

theorem po_none : PO X none tNoPart := by
  intro pins s σ H Q I h
  rw [evalPart_none]
  exact wpAny_pure ⟨none, H, I, .none, h⟩
theorem po_some (h : PE X e te) : PO X (some e) (tPart te) := by
  intro pins s σ H Q I hw
  rw [evalPart_some]
  refine thn (h pins s σ H _ I hw) fun u s1 ⟨x, H1, I1, r1, q1⟩ => ?_
  obtain ⟨i, rfl, q⟩ := q1
  obtain ⟨t, rfl⟩ := r1
  exact ⟨some i, H1, I1, .int i t, q⟩

noncomputable def SlR (X : Cx) (r : V → Option Int → Option Int → Hp → VK → Prop) : Prop :=
  ∀ (pins : List (Addr × Obj)) (s : Shared) (σ : St) (H : Hp) (x : V) (v vl vu : Value) (lo hi : Option Int) (sl : Addr) (Q : VK), Inv X pins σ H s → RelV x v → s.heap.IsSliceOf sl vl vu .none → IsPart vl lo → IsPart vu hi → r x lo hi H Q →
    ∃ T id, typeLookup (.type T) "__getitem__" = pure (some (.builtin id)) ∧ s.TypeIs v T ∧ wpAny (model X.prog X.w) X.A (getItem v (.ref sl)) (EP X pins σ Q) X.xe s
theorem SlR.or {r r' : V → Option Int → Option Int → Hp → VK → Prop} (h : SlR X r) (h' : SlR X r') : SlR X (fun x lo hi H Q => r x lo hi H Q ∨ r' x lo hi H Q) := by
  intro pins s σ H x v vl vu lo hi sl Q I rx hs pl pu q
  rcases q with q | q
  · exact h pins s σ H x v vl vu lo hi sl Q I rx hs pl pu q
  · exact h' pins s σ H x v vl vu lo hi sl Q I rx hs pl pu q
noncomputable def tSl (r : V → Option Int → Option Int → Hp → VK → Prop) (te : TE) (tl th : TO) : TE := fun σ H Q => te σ H fun x H1 => tl σ H1 fun l H2 => th σ H2 fun u H3 => r x l u H3 Q
theorem pe_slice {r : V → Option Int → Option Int → Hp → VK → Prop} (hr : SlR X r) (he : PE X e te) (hl : PO X lo tl) (hu : PO X hi th) : PE X (.Subscript e (.Slice lo hi none p2) pos) (tSl r te tl th) := by
  intro pins s σ H Q I h
  refine Subscript_ (thn (he pins s σ H _ I h) fun v s1 ⟨x, H1, I1, r1, q1⟩ => ?_)
  refine wpAny_Slice (thn (hl pins s1 σ H1 _ I1 q1) fun vl s2 ⟨l, H2, I2, pl, q2⟩ => thn (hu pins s2 σ H2 _ I2 q2) fun vu s3 ⟨u, H3, I3, pu, q3⟩ => ?_)
  rw [evalPart_none]
  refine wpAny_pure ?_
  have I4 : Inv X pins σ H3 { s3 with heap := s3.heap.push { cls := .type "slice", data := .fields #[vl, vu, .none] } } := I3.kept (t' := s3.toks) fun b ob q => Heap.get?_push_of_some _ q
  obtain ⟨T, id, hT, ht, hg⟩ := hr pins { s3 with heap := s3.heap.push { cls := .type "slice", data := .fields #[vl, vu, .none] } } σ H3 x v vl vu l u s3.heap.objs.size Q I4 r1 (Heap.IsSliceOf.new ..) pl pu q3
  show wpAny (model X.prog X.w) X.A (subscriptTail e (.Slice lo hi none p2) v (.ref s3.heap.objs.size)) (EP X pins σ Q) X.xe { s3 with heap := s3.heap.push { cls := .type "slice", data := .fields #[vl, vu, .none] } }
  exact tail_any (ops := [.ref s3.heap.objs.size, v]) ht hT hg (by with_unfolding_all rfl)

noncomputable def cutV (xs : List V) (lo hi : Option Int) : List V := (xs.drop (HT.sIx xs.length 0 lo)).take (HT.sIx xs.length xs.length hi - HT.sIx xs.length 0 lo)
theorem cutV_length (xs : List V) (lo hi : Option Int) : (cutV xs lo hi).length ≤ xs.length := by
  unfold cutV
  rw [List.length_take, List.length_drop]
  omega
end
end L2

namespace L2
open PySem PySem.Spec PyProof.Rows

noncomputable def ixN (n : Nat) (i : Int) : Option Nat := if 0 ≤ i then (if i < n then some i.toNat else none) else if -(n : Int) ≤ i then some (i + n).toNat else none
noncomputable def atI {α : Type} (xs : List α) (i : Int) : Option α := (ixN xs.length i).bind fun j => xs[j]?
theorem ixN_seq {n : Nat} {i : Int} {j : Nat} (h : ixN n i = some j) : seqIndex? i n = some j ∧ j < n ∧ -(n : Int) ≤ i ∧ i < n := by
  unfold ixN at h
  by_cases h0 : 0 ≤ i
  · rw [if_pos h0] at h
    by_cases h1 : i < n
    · rw [if_pos h1] at h
      have e : i.toNat = j := Option.some.inj h
      exact ⟨by rw [seqIndex_of h0 h1, e], by omega, by omega, h1⟩
    · rw [if_neg h1] at h; cases h
  · rw [if_neg h0] at h
    by_cases h1 : -(n : Int) ≤ i
    · rw [if_pos h1] at h
      have e : (i + n).toNat = j := Option.some.inj h
      exact ⟨by rw [seqIndex_neg (by omega) h1, e], by omega, h1, by omega⟩
    · rw [if_neg h1] at h; cases h
theorem atI_get {α : Type} {xs : List α} {i : Int} {v : α} (h : atI xs i = some v) : ∃ j, seqIndex? i xs.length = some j ∧ xs[j]? = some v ∧ j < xs.length ∧ -(xs.length : Int) ≤ i ∧ i < xs.length := by
  unfold atI at h
  cases e : ixN xs.length i with
  | none => rw [e] at h; cases h
  | some j =>
    rw [e] at h
    obtain ⟨h1, h2, h3, h4⟩ := ixN_seq e
    exact ⟨j, h1, h, h2, h3, h4⟩
theorem atI_nat {α : Type} {xs : List α} {j : Nat} {v : α} (h : xs[j]? = some v) : atI xs (j : Int) = some v := by
  have hj : j < xs.length := (List.getElem?_eq_some_iff.mp h).1
  have e : ixN xs.length (j : Int) = some j := by
    unfold ixN
    rw [if_pos (by omega), if_pos (by omega)]; simp
  unfold atI; rw [e]; exact h
noncomputable def PlainIx (b : Expr) : Prop := ∀ o i, subscripted b false o i = operate [o, i] (getItem o i)
noncomputable def IxR (X : Cx) (r : R2) : Prop :=
  ∀ (value slice : Expr) (pins : List (Addr × Obj)) (s : Shared) (σ : St) (H : Hp) (x y : V) (v u : Value) (Q : VK), Inv X pins σ H s → RelV x v → RelV y u → r x y H Q →
    subscripted slice false v u = operate [v, u] (getItem v u) → wpAny (model X.prog X.w) X.A (subscriptTail value slice v u) (EP X pins σ Q) X.xe s
noncomputable def MtR (X : Cx) (id : String) (r : V → List V → Hp → VK → Prop) : Prop :=
  ∀ (pins : List (Addr × Obj)) (s : Shared) (σ : St) (H : Hp) (x : V) (xs : List V) (v : Value) (us : List Value) (Q : VK), Inv X pins σ H s → RelV x v → Vals xs us → r x xs H Q →
    wpAny (model X.prog X.w) X.A (call (.builtin id) (v :: us)) (EP X pins σ Q) X.xe s
section
variable {X : Cx} {a b : Expr} {ta tb : TE} {pos : Pos}
theorem IxR.or {r r' : R2} (h : IxR X r) (h' : IxR X r') : IxR X (fun x y H Q => r x y H Q ∨ r' x y H Q) := by
  intro value slice pins s σ H x y v u Q I rx ry q hs
  rcases q with q | q
  · exact h value slice pins s σ H x y v u Q I rx ry q hs
  · exact h' value slice pins s σ H x y v u Q I rx ry q hs
theorem MtR.or {id : String} {r r' : V → List V → Hp → VK → Prop} (h : MtR X id r) (h' : MtR X id r') : MtR X id (fun x xs H Q => r x xs H Q ∨ r' x xs H Q) := by
  intro pins s σ H x xs v us Q I rx rs q
  rcases q with q | q
  · exact h pins s σ H x xs v us Q I rx rs q
  · exact h' pins s σ H x xs v us Q I rx rs q
theorem pe_ix {r : R2} (hr : IxR X r) (ha : PE X a ta) (hb : PE X b tb) (hs : PlainIx b) : PE X (.Subscript a b pos) (tOp r ta tb) := by
  intro pins s σ H Q I h
  exact Subscript_ (binT ha hb I h fun v u s2 x y H2 I2 rx ry q => hr a b pins s2 σ H2 x y v u Q I2 rx ry q (hs _ _))

noncomputable def rIxL (K : PySem.W.Frag) : R2 := fun x y H Q => Ex4 fun p xs i v => x = .ref p ∧ y = .int i ∧ SqL K H p xs ∧ atI xs i = some v ∧ Q v H
noncomputable def rIxT (K : PySem.W.Frag) : R2 := fun x y H Q => Ex4 fun p xs i v => x = .ref p ∧ y = .int i ∧ SqT K H p xs ∧ atI xs i = some v ∧ Q v H
noncomputable def rIxS : R2 := fun x y H Q => Ex3 fun z i c => x = .str z ∧ y = .int i ∧ z.length ≤ sizeLine ∧ atI z.cps.toList i = some c ∧ Q (.str ⟨#[c]⟩) H
theorem ix_list : IxR X (rIxL X.K) := by
  intro value slice pins s σ H x y v u Q I rx ry h hs
  obtain ⟨p, xs, i, z, rfl, rfl, hq, he, q⟩ := h
  cases rx
  obtain ⟨t, rfl⟩ := ry
  obtain ⟨its, r, pl, hz⟩ := I.list hq
  obtain ⟨j, h1, h2, h3, h4, h5⟩ := atI_get he
  obtain ⟨w, ew, rw'⟩ := r.get h2
  have hl := r.length
  have hn := line63
  have fin : EP X pins σ Q w s := ⟨z, H, I, rw', q⟩
  by_cases h0 : 0 ≤ i
  · have hj : i.toNat = j := by
      rw [seqIndex_of h0 h5] at h1
      exact Option.some.inj h1
    exact item_listR pl.isList h0 (by omega) (by rw [hj]; simpa using ew) fin hs
  · have hj : (i + (its.toArray.size : Int)).toNat = j := by
      rw [seqIndex_neg (by omega) h4] at h1
      rw [List.size_toArray, ← hl]
      exact Option.some.inj h1
    exact subscriptTail_builtinR (x := w) pl.isList.typeIs slot_list_getitem.lookup
      (wpAny_getItem_list_neg (Q := fun r s' => r = w ∧ EP X pins σ Q r s') pl.isList (by omega) (by rw [List.size_toArray] <;> omega) (by omega) (by rw [hj]; simpa using ew) ⟨rfl, fin⟩) hs
theorem ix_tup : IxR X (rIxT X.K) := by
  intro value slice pins s σ H x y v u Q I rx ry h hs
  obtain ⟨p, xs, i, z, rfl, rfl, hq, he, q⟩ := h
  cases rx
  obtain ⟨t, rfl⟩ := ry
  obtain ⟨its, r, pl, hz⟩ := I.tuple hq
  obtain ⟨j, h1, h2, h3, h4, h5⟩ := atI_get he
  obtain ⟨w, ew, rw'⟩ := r.get h2
  have hl := r.length
  have hn := line63
  have fin : EP X pins σ Q w s := ⟨z, H, I, rw', q⟩
  exact subscriptTail_builtinR (x := w) pl.typeIs slot_tuple_getitem.lookup
    (getItem_tuple (j := j) (Q := fun r s' => r = w ∧ EP X pins σ Q r s') pl (by omega) (by omega) (by rw [List.size_toArray, ← hl]; exact h1) (by simpa using ew) ⟨rfl, fin⟩) hs
theorem ix_str : IxR X rIxS := by
  intro value slice pins s σ H x y v u Q I rx ry h hs
  obtain ⟨z, i, c, rfl, rfl, hz, he, q⟩ := h
  obtain ⟨t, rfl⟩ := rx
  obtain ⟨t', rfl⟩ := ry
  obtain ⟨j, h1, h2, h3, h4, h5⟩ := atI_get he
  have hl : z.cps.toList.length = z.length := by simp [Str.length]
  rw [hl] at h1 h4 h5
  have hn := line63
  exact tail_any (typeIs_str s z t) slot_str_getitem.lookup (getItem_str (c := c) (by
    have e1 : decide (i < -(2 ^ 63 : Int)) = false := decide_eq_false (by omega)
    have e2 : decide (i ≥ 2 ^ 63) = false := decide_eq_false (by omega)
    rw [e1, e2, Bool.or_false]) (by rw [h1]; simpa using h2) ⟨.str ⟨#[c]⟩, H, I.tok _, ⟨_, rfl⟩, q⟩) hs
theorem mapSeq_set (its : List Value) (n j : Nat) (u : Value) : Obj.mapSeq (·.setIfInBounds j u) { cls := .type "list", data := .seq its.toArray n } = { cls := .type "list", data := .seq (its.set j u).toArray n } := by
  simp [Obj.mapSeq]
theorem Inv.lst {pins : List (Addr × Obj)} {σ : St} {H : Hp} {s : Shared} {p : Addr} {xs : List V} (I : Inv X pins σ H s) (h : H p = some (.lst xs)) :
    ∃ (its : List Value) (n : Nat), Vals xs its ∧ s.heap.get? p = some { cls := .type "list", data := .seq its.toArray n } ∧ xs.length ≤ sizeLine := by
  obtain ⟨z, its, n, r, e⟩ := I.hok p _ h
  exact ⟨its, n, r, e, z⟩
theorem Inv.lstUpd {pins : List (Addr × Obj)} {σ : St} {H : Hp} {s : Shared} {p : Addr} {xs ys : List V} {its its' : List Value} {n n' : Nat} {f : Obj → Obj} (I : Inv X pins σ H s) (h : H p = some (.lst xs))
    (ho : s.heap.get? p = some { cls := .type "list", data := .seq its.toArray n }) (hf : f { cls := .type "list", data := .seq its.toArray n } = { cls := .type "list", data := .seq its'.toArray n' }) (r : Vals ys its') (hz : ys.length ≤ sizeLine) (t : Nat) :
    Inv X pins σ (upd H p (.lst ys)) { s with heap := s.heap.update p f, toks := t } := by
  have e : (s.heap.update p f).get? p = some { cls := .type "list", data := .seq its'.toArray n' } := by
    rw [Heap.get?_update_self f ho (by rw [hf] <;> rfl), hf]
  refine I.write (x := p) (e := p) (by rw [h]; trivial) (.inl rfl) (fun b u hb q => (Heap.get?_update_other _ _ (Ne.symm hb)).trans q) ⟨_, e⟩ ?_
  exact ⟨hz, its', n', r, e⟩
noncomputable def rSetL : V → V → V → Hp → (Hp → Prop) → Prop := fun o i v H Q => Ex4 fun p xs k j => o = .ref p ∧ i = .int k ∧ H p = some (.lst xs) ∧ ixN xs.length k = some j ∧ Q (upd H p (.lst (xs.set j v)))
theorem set_list : PSet X rSetL := by
  intro pins s σ H o i v ov iv u Q I ro ri rv h
  obtain ⟨p, xs, k, j, rfl, rfl, hp, hj, q⟩ := h
  cases ro
  obtain ⟨t, rfl⟩ := ri
  obtain ⟨its, n, r, ho, hz⟩ := I.lst hp
  obtain ⟨h1, h2, h3, h4⟩ := ixN_seq hj
  have hl := r.length
  have hn := line63
  have I' : Inv X pins σ (upd H p (.lst (xs.set j v))) { s with heap := s.heap.update p (Obj.mapSeq (·.setIfInBounds j u)) } :=
    I.lstUpd hp ho (mapSeq_set its n j u) (r.set rv j) (by rw [List.length_set]; exact hz) s.toks
  by_cases h0 : 0 ≤ k
  · have hk : k.toNat = j := by
      rw [seqIndex_of h0 h4] at h1
      exact Option.some.inj h1
    exact PySem.W.ki_setAt ho h0 (by omega) (by rw [List.size_toArray, ← hl]; exact h4) (by rw [hk]; exact ⟨_, I', q⟩)
  · have hk : (k + (its.toArray.size : Int)).toNat = j := by
      rw [seqIndex_neg (by omega) h3] at h1
      rw [List.size_toArray, ← hl]
      exact Option.some.inj h1
    exact PySem.W.ki_setBack ho (by omega) (by rw [List.size_toArray, ← hl]; exact h3) (by omega) (by rw [hk]; exact ⟨_, I', q⟩)

theorem slice_bounds (lo hi : Option Int) (n : Nat) : (sliceBounds lo hi none n).1 = ((HT.sIx n 0 lo : Nat) : Int) ∧ (sliceBounds lo hi none n).2.1 = ((HT.sIx n n hi : Nat) : Int) ∧ (sliceBounds lo hi none n).2.2 = 1 := by
  refine ⟨?_, ?_, rfl⟩
  · cases lo with
    | none => simp [sliceBounds, HT.sIx]
    | some i =>
      simp only [sliceBounds, HT.sIx, Option.getD_none, show (1 : Int) > 0 by decide, if_true]
      by_cases h : i < 0
      · simp only [h, if_true] <;> omega
      · simp only [h, if_false] <;> omega
  · cases hi with
    | none => simp [sliceBounds, HT.sIx]
    | some i =>
      simp only [sliceBounds, HT.sIx, Option.getD_none, show (1 : Int) > 0 by decide, if_true]
      by_cases h : i < 0
      · simp only [h, if_true] <;> omega
      · simp only [h, if_false] <;> omega
theorem slicePick_cut (its : List Value) (lo hi : Option Int) : slicePick its.toArray lo hi none = ((its.drop (HT.sIx its.length 0 lo)).take (HT.sIx its.length its.length hi - HT.sIx its.length 0 lo)).toArray := by
  obtain ⟨h1, h2, h3⟩ := slice_bounds lo hi its.toArray.size
  unfold slicePick
  rw [h1, h2, h3]
  simp only [sliceRange_one, pick_run, List.size_toArray] <;> rfl
noncomputable def rSlL (K : PySem.W.Frag) : V → Option Int → Option Int → Hp → VK → Prop := fun x lo hi H Q => Ex2 fun a xs => x = .ref a ∧ SqL K H a xs ∧ ∀ p, H p = none → Q (.ref p) (upd H p (.lst (cutV xs lo hi)))
theorem sl_list : SlR X (rSlL X.K) := by
  intro pins s σ H x v vl vu lo hi sl Q I rx hs pl pu h
  obtain ⟨a, xs, rfl, hx, q⟩ := h
  cases rx
  obtain ⟨its, r, ht, hz⟩ := I.list hx
  have hlen := r.length
  refine ⟨"list", _, slot_list_getitem.lookup, ht.isList.typeIs, ?_⟩
  refine wpAny_getItem_list_slice ht.isList hs pl pu .none (by simp) ?_ (by rw [List.size_toArray] <;> omega)
  rw [slicePick_cut, ← hlen]
  refine ⟨.ref s.heap.objs.size, _, I.laid (t' := s.toks) (o := .lst (cutV xs lo hi)) (fun b ob q => Heap.get?_push_of_some _ q) (Nat.le_refl _) ?_, rfl, q _ (I.hok.fresh (Nat.le_refl _))⟩
  exact ⟨Nat.le_trans (cutV_length xs lo hi) hz, _, 0, (r.drop (HT.sIx xs.length 0 lo)).take (HT.sIx xs.length xs.length hi - HT.sIx xs.length 0 lo), Heap.get?_push_size _ rfl⟩

noncomputable def flatV : V → Bool
  | .non => true
  | .bl _ => true
  | .int _ => true
  | .str _ => true
  | _ => false
theorem call_len_seq : CallR X (.builtin "len") (fun xs H Q => Ex2 fun p ys => xs = [.ref p] ∧ (SqL X.K H p ys ∨ SqT X.K H p ys) ∧ Q (.int ys.length) H) := by
  intro pins s σ H xs us Q I r h
  obtain ⟨p, ys, rfl, hq, q⟩ := h
  obtain ⟨u, rfl, rx⟩ := vals1 r
  cases rx
  have hn := line63
  rcases hq with hq | hq
  · obtain ⟨its, r', pl, hz⟩ := I.list hq
    have hlen := r'.length
    exact Calls.call_len_list pl.isList (by simp only [List.size_toArray] <;> omega) ⟨.int ys.length, H, I.tok _, ⟨s.toks + 1, by rw [List.size_toArray, hlen]⟩, q⟩
  · obtain ⟨its, r', pl, hz⟩ := I.tuple hq
    have hlen := r'.length
    exact len_tuple pl (by simp only [List.size_toArray] <;> omega) ⟨.int ys.length, H, I.tok _, ⟨s.toks + 1, by rw [List.size_toArray, hlen]⟩, q⟩
theorem CallR.or {f : Value} {r r' : List V → Hp → VK → Prop} (h : CallR X f r) (h' : CallR X f r') : CallR X f (fun xs H Q => r xs H Q ∨ r' xs H Q) := by
  intro pins s σ H xs us Q I rs q
  rcases q with q | q
  · exact h pins s σ H xs us Q I rs q
  · exact h' pins s σ H xs us Q I rs q
noncomputable def tyV (K : PySem.W.Frag) (T : String) (x : V) (H : Hp) : Prop := match x with
  | .str _ => T = "str"
  | .int _ => T = "int"
  | .ref p => (T = "list" ∧ ∃ xs, SqL K H p xs) ∨ (T = "tuple" ∧ ∃ o, K.lookup p = some o ∧ o.cls = .type "tuple" ∧ o.dict = none) ∨
      (T = "dict" ∧ ((∃ kvs, H p = some (.dK kvs)) ∨ ∃ kvs, H p = some (.dT kvs))) ∨ (T = "set" ∧ ∃ S n, H p = some (.set S n))
  | _ => False
theorem tyV_is {pins : List (Addr × Obj)} {σ : St} {H : Hp} {s : Shared} {T : String} {x : V} {v : Value} (I : Inv X pins σ H s) (r : RelV x v) (ty : tyV X.K T x H) :
    s.TypeIs v T ∧ ∀ a, v = .ref a → ∃ ob, s.heap.get? a = some ob ∧ ob.dict = none := by
  cases x with
  | str z =>
    obtain ⟨t, rfl⟩ := r
    cases (show T = "str" from ty)
    exact ⟨typeIs_str s z t, fun _ e => nomatch e⟩
  | int i =>
    obtain ⟨t, rfl⟩ := r
    cases (show T = "int" from ty)
    exact ⟨typeIs_int s i t, fun _ e => nomatch e⟩
  | ref p =>
    cases r
    rcases ty with ⟨rfl, xs, hq⟩ | ⟨rfl, o, hk, hc, hd⟩ | ⟨rfl, hk⟩ | ⟨rfl, S, n, hk⟩
    · obtain ⟨its, _, pl, _⟩ := I.list hq
      refine ⟨pl.isList.typeIs, fun a e => ?_⟩
      cases e
      obtain ⟨o, n, e, c, hd, _⟩ := pl
      exact ⟨o, e, hd⟩
    · refine ⟨⟨o, I.kIn p o hk, hc⟩, fun a e => ?_⟩
      cases e
      exact ⟨o, I.kIn _ o hk, hd⟩
    · have z : ∃ o, s.heap.get? p = some o ∧ o.ExactDict := by
        rcases hk with ⟨kvs, hk⟩ | ⟨kvs, hk⟩
        · obtain ⟨_, _, _, _, o, _, _, e, ex, _⟩ := I.hok p _ hk
          exact ⟨o, e, ex⟩
        · obtain ⟨_, _, _, _, o, _, _, e, ex, _⟩ := I.hok p _ hk
          exact ⟨o, e, ex⟩
      obtain ⟨o, e, ex⟩ := z
      refine ⟨⟨o, e, ex.1⟩, fun a e2 => ?_⟩
      cases e2
      exact ⟨o, e, ex.2.1⟩
    · obtain ⟨o, _, _, _, e, ex, _⟩ := I.hok p _ hk
      refine ⟨⟨o, e, ex.1⟩, fun a e2 => ?_⟩
      cases e2
      exact ⟨o, e, ex.2.1⟩
  | _ => exact False.elim ty
noncomputable def tBM (K : PySem.W.Frag) (T : String) (r : V → List V → Hp → VK → Prop) (to : TE) (t : TA) : TE := fun σ H Q => to σ H fun x H1 => tyV K T x H1 ∧ t σ H1 fun xs H2 => r x xs H2 Q
variable {o e : Expr} {es : List Expr} {to : TE} {t : TA} {name : Str} {apos cpos : Pos} {T id : String} {r : V → List V → Hp → VK → Prop}
theorem pe_bm (pa : PlainAttrs T) (slot : Slot T name id) (hty : typeOf (.builtin id) = pure (.type "method_descriptor")) (hm : MtR X id r) (ho : PE X o to) (ha : PA X (e :: es) t)
    (hbase : attributeBase o name X.env (eval o X.env) = eval o X.env := by rfl)
    (hfew : ((backTo cpos (starEach (e :: es) X.env)).all (fun x => !x.1) && (backToKw cpos (keywordEach [] X.env)).all (fun x => x.1.isSome)
      && decide ((e :: es).length + ([] : List Keyword).length + (if ([] : List Keyword).isEmpty then 0 else 1) < 30)) = true := by rfl)
    (hline : (apos.endLine == cpos.line) = true := by rfl) (hs : starEach (e :: es) X.env = (false, eval e X.env) :: starEach es X.env := by rfl) (hplain : (backTo cpos (starEach es X.env)).any (·.1) = false := by rfl) :
    PE X (.Call (.Attribute o name apos) (e :: es) [] cpos) (tBM X.K T r to t) := by
  intro pins s σ H Q I h
  refine wpAny_Call_method_late hbase hfew hline rfl (thn (ho pins s σ H _ I h) fun v s1 ⟨x, H1, I1, r1, ty, q1⟩ => ?_)
  obtain ⟨h1, h2⟩ := tyV_is I1 r1 ty
  refine ⟨T, id, pa, slot, hty, h1, h2, ?_⟩
  have hA := ha cpos pins s1 σ H1 _ I1 q1
  rw [hs] at hA ⊢
  refine Calls.callWith_builtin (by show (false || (backTo cpos (starEach es X.env)).any (·.1)) = false; rw [hplain] <;> rfl) (Calls.evalArgs_plain ?_)
  exact thn hA fun us s2 ⟨vs, H2, I2, r2, q2⟩ => hm pins s2 σ H2 x vs v us Q I2 r1 r2 q2
/- xs.append(e), list.index on a module's tuple .. are MtR facts of 06m -/
end
end L2

namespace L2
open PySem PySem.Spec PyProof.Rows

noncomputable def MtM (X : Cx) (id : String) (r : V → List V → Hp → VK → Prop) : Prop :=
  ∀ (pins : List (Addr × Obj)) (s : Shared) (σ : St) (H : Hp) (x : V) (xs : List V) (v : Value) (us : List Value) (Q : VK), Inv X pins σ H s → RelV x v → Vals xs us → r x xs H Q →
    wpAny (model X.prog X.w) X.A (call (.builtin id) (v :: us)) (EP X pins σ Q) X.xe s

theorem Vals.one : ∀ {x : V} {us : List Value}, Vals [x] us → ∃ u, us = [u] ∧ RelV x u
  | _, _, .cons r .nil => ⟨_, rfl, r⟩
theorem Vals.two : ∀ {x y : V} {us : List Value}, Vals [x, y] us → ∃ u v, us = [u, v] ∧ RelV x u ∧ RelV y v
  | _, _, _, .cons r (.cons q .nil) => ⟨_, _, rfl, r, q⟩
theorem Vals.zero : ∀ {us : List Value}, Vals [] us → us = []
  | _, .nil => rfl
theorem Vals.eraseIdx : ∀ {xs : List V} {us : List Value} (i : Nat), Vals xs us → Vals (xs.eraseIdx i) (us.eraseIdx i)
  | _, _, _, .nil => .nil
  | _, _, 0, .cons _ t => t
  | _, _, i + 1, .cons r t => .cons r (Vals.eraseIdx i t)
theorem Vals.reverse {xs : List V} {us : List Value} (h : Vals xs us) : Vals xs.reverse us.reverse := by
  induction h with
  | nil => exact .nil
  | cons r t ih => rw [List.reverse_cons, List.reverse_cons]; exact Vals.append ih (.cons r .nil)
theorem foldl_rep (its : List Value) : ∀ (k : Nat) (acc : List Value),
    List.foldl (fun x1 x2 => x1 ++ x2) acc.toArray (List.replicate k its.toArray) = (acc ++ (List.replicate k its).flatten).toArray
  | 0, acc => by simp
  | k + 1, acc => by
    have e : acc.toArray ++ its.toArray = (acc ++ its).toArray := by simp
    have e2 : (acc ++ its) ++ (List.replicate k its).flatten = acc ++ (List.replicate (k + 1) its).flatten := by
      rw [List.replicate_succ, List.flatten_cons, List.append_assoc]
    rw [← e2, ← foldl_rep its k (acc ++ its), ← e, List.replicate_succ, List.foldl_cons]

section
variable {X : Cx} {pins : List (Addr × Obj)} {σ : St} {H : Hp} {s : Shared} {l b : Addr} {xs ys zs : List V}

theorem Inv.lset {its its' : List Value} {n : Nat} {f : Array Value → Array Value} {t' : Nat} (I : Inv X pins σ H s) (hH : H l = some (.lst xs))
    (e : s.heap.get? l = some { cls := .type "list", data := .seq its.toArray n }) (hf : f its.toArray = its'.toArray) (hv : Vals ys its') (hz : ys.length ≤ sizeLine) :
    Inv X pins σ (upd H l (.lst ys)) { s with heap := s.heap.update l (Obj.mapSeq f), toks := t' } := by
  have q := PySem.IsL.update e f
  rw [hf] at q
  refine I.write (x := l) (e := l) (by rw [hH]; exact trivial) (.inl rfl) (fun b' u hb hu => (Heap.get?_update_other s.heap (Obj.mapSeq f) (Ne.symm hb)).trans hu) ⟨_, q⟩ ?_
  exact ⟨hz, its', _, hv, q⟩
theorem Inv.lnew {its : List Value} {t' : Nat} (I : Inv X pins σ H s) (hv : Vals ys its) (hz : ys.length ≤ sizeLine) :
    Inv X pins σ (upd H s.heap.objs.size (.lst ys)) { s with heap := s.heap.push { cls := .type "list", data := .seq its.toArray }, toks := t' } :=
  I.laid (fun _ _ q => Heap.get?_push_of_some _ q) (Nat.le_refl _) ⟨hz, its, 0, hv, Heap.get?_push_size _ rfl⟩
theorem Inv.fresh (I : Inv X pins σ H s) : H s.heap.objs.size = none := I.hok.fresh (Nat.le_refl _)
theorem Inv.lstM (I : Inv X pins σ H s) (hH : H l = some (.lst xs)) : xs.length ≤ sizeLine ∧ ∃ (its : List Value) (n : Nat), Vals xs its ∧ xs.length = its.length ∧ s.heap.get? l = some { cls := .type "list", data := .seq its.toArray n } := by
  obtain ⟨z, its, n, r, e⟩ := I.hok l _ hH
  exact ⟨z, its, n, r, r.length, e⟩

end

section
variable {X : Cx}

noncomputable def rAppend : V → List V → Hp → VK → Prop := fun x vs H Q => Ex3 fun l xs y => x = .ref l ∧ vs = [y] ∧ H l = some (.lst xs) ∧ xs.length < sizeLine ∧ Q .non (upd H l (.lst (xs ++ [y])))
theorem mt_append : MtM X "list.append" rAppend := by
  intro pins s σ H x vs v us Q I rx rv h
  obtain ⟨l, xs, y, rfl, rfl, hH, hz, q⟩ := h
  cases rx
  obtain ⟨u, rfl, ru⟩ := rv.one
  obtain ⟨z, its, n, r, hl, e⟩ := I.lstM hH
  refine call_meets F.slot_list_append ⟨_, e, rfl⟩ F.entry_list_append (F.args_list_append_2 _ _) (PySem.list_append l its.toArray n u (by rw [List.size_toArray]; omega)) ⟨e, ?_⟩
  refine ⟨.non, _, I.lset (its' := its ++ [u]) hH e (by simp) (r.append (.cons ru .nil)) ?_, rfl, q⟩
  rw [List.length_append, List.length_singleton]
  omega

noncomputable def rCat : R2 := fun x y H Q => Ex4 fun l b xs zs => x = .ref l ∧ y = .ref b ∧ H l = some (.lst xs) ∧ H b = some (.lst zs) ∧ xs.length + zs.length ≤ sizeLine ∧ ∀ p, H p = none → Q (.ref p) (upd H p (.lst (xs ++ zs)))
theorem op_cat : OpR X (binaryOp .Add) rCat := by
  intro pins s σ H x y v u Q I rx ry h
  obtain ⟨l, b, xs, zs, rfl, rfl, hH, hB, hz, q⟩ := h
  cases rx
  cases ry
  obtain ⟨z, its, n, r, hl, e⟩ := I.lstM hH
  obtain ⟨z2, its2, n2, r2, hl2, e2⟩ := I.lstM hB
  refine PySem.P.add_list e e2 ?_ (by rw [List.size_toArray, List.size_toArray]; omega)
  have ea : its.toArray ++ its2.toArray = (its ++ its2).toArray := by simp
  rw [ea]
  exact ⟨.ref _, _, I.lnew (t' := s.toks) (r.append r2) (by rw [List.length_append]; omega), rfl, q _ I.fresh⟩
theorem len_rep {α : Type} (xs : List α) (k : Nat) : (List.replicate k xs).flatten.length = k * xs.length := by
  induction k with
  | zero => simp
  | succ k ih => rw [List.replicate_succ, List.flatten_cons, List.length_append, ih, Nat.succ_mul, Nat.add_comm]
end

section
variable {prog : Program} {w : World} {A : Around} {E : Value → Shared → Prop} {s : Shared}
end

section
variable {X : Cx}
end
end L2

namespace L2
open PySem PySem.Spec PyProof.Rows

section
variable {κ : Type} [DecidableEq κ]
noncomputable def valV (kvs : List (κ × V)) (k : κ) : Option V := (kvs.find? fun kv => decide (kv.1 = k)).map (·.2)
noncomputable def putK (kvs : List (κ × V)) (k : κ) (v : V) : List (κ × V) :=
  if (kvs.any fun kv => decide (kv.1 = k)) = true then kvs.map (fun kv => if kv.1 = k then (kv.1, v) else kv) else kvs ++ [(k, v)]
noncomputable def dropK (kvs : List (κ × V)) (k : κ) : List (κ × V) := kvs.filter fun kv => decide (kv.1 ≠ k)

theorem valV_pos {p : κ × V} {r : List (κ × V)} {k : κ} (e : p.1 = k) : valV (p :: r) k = some p.2 := by simp [valV, List.find?_cons, e]
theorem valV_neg {p : κ × V} {r : List (κ × V)} {k : κ} (e : ¬ p.1 = k) : valV (p :: r) k = valV r k := by simp [valV, List.find?_cons, e]
theorem valV_any (k : κ) : ∀ kvs : List (κ × V), (kvs.any fun kv => decide (kv.1 = k)) = (valV kvs k).isSome
  | [] => rfl
  | p :: r => by
    rw [List.any_cons]
    by_cases e : p.1 = k
    · simp only [valV_pos e, decide_eq_true e, Bool.true_or, Option.isSome_some]
    · rw [valV_neg e, decide_eq_false e, Bool.false_or]; exact valV_any k r
theorem RelO.isSome_eq {o : Option V} {u : Option Value} (r : RelO o u) : o.isSome = u.isSome := by
  cases o with
  | none => cases u with
    | none => rfl
    | some _ => exact (show False from r).elim
  | some _ => cases u with
    | none => exact (show False from r).elim
    | some _ => rfl
theorem RelO.getD {o : Option V} {u : Option Value} {d : V} {d' : Value} (r : RelO o u) (rd : RelV d d') : RelV (o.getD d) (u.getD d') := by
  cases o with
  | none => cases u with
    | none => exact rd
    | some _ => exact (show False from r).elim
  | some _ => cases u with
    | none => exact (show False from r).elim
    | some _ => exact r

theorem KV.val {kvs : List (κ × V)} {vs : List (κ × Value)} (r : KV kvs vs) (k : κ) : RelO (valV kvs k) (valueAt vs k) := by
  unfold KV at r
  induction r with
  | nil => exact True.intro
  | @cons p q ps qs h t ih =>
    obtain ⟨h1, h2⟩ := h
    by_cases e : p.1 = k
    · have e' : q.1 = k := h1.symm.trans e
      have b : valueAt (q :: qs) k = some q.2 := by simp [valueAt, List.find?_cons, e']
      rw [valV_pos e, b]; exact h2
    · have e' : ¬ q.1 = k := fun z => e (h1.trans z)
      have b : valueAt (q :: qs) k = valueAt qs k := by simp [valueAt, List.find?_cons, e']
      rw [valV_neg e, b]; exact ih
theorem KV.any {kvs : List (κ × V)} {vs : List (κ × Value)} (r : KV kvs vs) (k : κ) : (kvs.any fun kv => decide (kv.1 = k)) = vs.any fun kv => decide (kv.1 = k) := by
  unfold KV at r
  induction r with
  | nil => rfl
  | cons h t ih => rw [List.any_cons, List.any_cons, ih, h.1]
theorem KV.repl {kvs : List (κ × V)} {vs : List (κ × Value)} (r : KV kvs vs) (k : κ) {y : V} {u : Value} (ry : RelV y u) :
    KV (kvs.map fun kv => if kv.1 = k then (kv.1, y) else kv) (vs.map fun kv => if kv.1 = k then (kv.1, u) else kv) := by
  unfold KV at r ⊢
  induction r with
  | nil => exact .nil
  | @cons p q ps qs h t ih =>
    rw [List.map_cons, List.map_cons]
    refine .cons ?_ ih
    obtain ⟨h1, h2⟩ := h
    by_cases e : p.1 = k
    · rw [if_pos e, if_pos (h1.symm.trans e)]; exact ⟨h1, ry⟩
    · rw [if_neg e, if_neg (fun z => e (h1.trans z))]; exact ⟨h1, h2⟩
theorem KV.put {kvs : List (κ × V)} {vs : List (κ × Value)} (r : KV kvs vs) (k : κ) {y : V} {u : Value} (ry : RelV y u) : KV (putK kvs k y) (stored vs k u) := by
  unfold putK stored
  rw [r.any k]
  by_cases e : (vs.any fun kv => decide (kv.1 = k)) = true
  · rw [if_pos e, if_pos e]; exact r.repl k ry
  · rw [if_neg e, if_neg e]; exact Paired.snoc r ⟨rfl, ry⟩
theorem KV.drop {kvs : List (κ × V)} {vs : List (κ × Value)} (r : KV kvs vs) (k : κ) : KV (dropK kvs k) (without vs k) := by
  unfold KV at r ⊢
  unfold dropK without
  induction r with
  | nil => exact .nil
  | @cons p q ps qs h t ih =>
    obtain ⟨h1, h2⟩ := h
    rw [List.filter_cons, List.filter_cons]
    by_cases e : p.1 = k
    · have a : ¬ decide (p.1 ≠ k) = true := by simp [e]
      have b : ¬ decide (q.1 ≠ k) = true := by simp [h1.symm.trans e]
      rw [if_neg a, if_neg b]; exact ih
    · have e' : ¬ q.1 = k := fun z => e (h1.trans z)
      have a : decide (p.1 ≠ k) = true := by simp [e]
      have b : decide (q.1 ≠ k) = true := by simp [e']
      rw [if_pos a, if_pos b]; exact .cons ⟨h1, h2⟩ ih
theorem KV.keys {kvs : List (κ × V)} {vs : List (κ × Value)} (r : KV kvs vs) : kvs.map (·.1) = vs.map (·.1) := by
  unfold KV at r
  induction r with
  | nil => rfl
  | cons h t ih => rw [List.map_cons, List.map_cons, ih, h.1]
theorem KV.length {kvs : List (κ × V)} {vs : List (κ × Value)} (r : KV kvs vs) : kvs.length = vs.length := Paired.length r
end


noncomputable abbrev KT (H : Hp) : List (List Key × V) → List (List Key × Addr × Value) → Prop := Paired fun p q => p.1 = q.1 ∧ H q.2.1 = some (.tup (p.1.map kV)) ∧ RelV p.2 q.2.2
theorem KT.val {H : Hp} {kvs : List (List Key × V)} {xs : List (List Key × Addr × Value)} (r : KT H kvs xs) (k : List Key) : RelO (valV kvs k) ((atKey xs k).map (·.2)) := by
  induction r with
  | nil => exact True.intro
  | @cons p q ps qs h t ih =>
    obtain ⟨h1, _, h2⟩ := h
    by_cases e : p.1 = k
    · have e' : q.1 = k := h1.symm.trans e
      have b : atKey (q :: qs) k = some q.2 := by simp [atKey, List.find?_cons, e']
      rw [valV_pos e, b]; exact h2
    · have e' : ¬ q.1 = k := fun z => e (h1.trans z)
      have b : atKey (q :: qs) k = atKey qs k := by simp [atKey, List.find?_cons, e']
      rw [valV_neg e, b]; exact ih
theorem KT.repl {H : Hp} {kvs : List (List Key × V)} {xs : List (List Key × Addr × Value)} (r : KT H kvs xs) (k : List Key) {y : V} {u : Value} (ry : RelV y u) :
    KT H (kvs.map fun kv => if kv.1 = k then (kv.1, y) else kv) (xs.map (putAt k u)) := by
  induction r with
  | nil => exact .nil
  | @cons p q ps qs h t ih =>
    rw [List.map_cons, List.map_cons]
    refine .cons ?_ ih
    obtain ⟨h1, h2, h3⟩ := h
    unfold putAt
    by_cases e : p.1 = k
    · rw [if_pos e, if_pos (h1.symm.trans e)]; exact ⟨h1, h2, ry⟩
    · rw [if_neg e, if_neg (fun z => e (h1.trans z))]; exact ⟨h1, h2, h3⟩
theorem KT.put {H : Hp} {kvs : List (List Key × V)} {xs : List (List Key × Addr × Value)} (r : KT H kvs xs) (k : List Key) {b : Addr} {y : V} {u : Value} (hb : H b = some (.tup (k.map kV))) (ry : RelV y u) :
    KT H (putK kvs k y) (storedH xs k b u) := by
  have e : (kvs.any fun kv => decide (kv.1 = k)) = (atKey xs k).isSome := by
    rw [valV_any, (r.val k).isSome_eq, Option.isSome_map]
  unfold putK storedH
  rw [e]
  by_cases q : (atKey xs k).isSome = true
  · rw [if_pos q, if_pos q]; exact r.repl k ry
  · rw [if_neg q, if_neg q]; exact Paired.snoc r ⟨rfl, hb, ry⟩
theorem KT.keeps {H H' : Hp} {kvs : List (List Key × V)} {xs : List (List Key × Addr × Value)} (r : KT H kvs xs) (ht : ∀ b ys, H b = some (.tup ys) → H' b = some (.tup ys)) : KT H' kvs xs :=
  Paired.mapP r fun _ _ z => ⟨z.1, ht _ _ z.2.1, z.2.2⟩

section
variable {P : Program} {w : World} {H : Hp} {h : Heap} {a : Addr}
end

noncomputable def DGet (H : Hp) (a : Addr) (y : V) (r : Option V) : Prop :=
  (∃ kvs k, Rd H a (.dK kvs) ∧ y = kV k ∧ r = valV kvs k) ∨ ∃ kvs k b, Rd H a (.dT kvs) ∧ y = .ref b ∧ H b = some (.tup (k.map kV)) ∧ r = valV kvs k
noncomputable def DPut (H : Hp) (a : Addr) (y v : V) (H' : Hp) : Prop :=
  (∃ kvs k, H a = some (.dK kvs) ∧ y = kV k ∧ kvs.length < sizeLine ∧ H' = upd H a (.dK (putK kvs k v))) ∨
  ∃ kvs k b, H a = some (.dT kvs) ∧ y = .ref b ∧ H b = some (.tup (k.map kV)) ∧ kvs.length < sizeLine ∧ H' = upd H a (.dT (putK kvs k v))
theorem DGet.k {H : Hp} {a : Addr} {kvs : List (Key × V)} {k : Key} (e : H a = some (.dK kvs)) : DGet H a (kV k) (valV kvs k) := .inl ⟨kvs, k, .inl e, rfl, rfl⟩
theorem DGet.t {H : Hp} {a b : Addr} {kvs : List (List Key × V)} {k : List Key} (e : H a = some (.dT kvs)) (eb : H b = some (.tup (k.map kV))) : DGet H a (.ref b) (valV kvs k) := .inr ⟨kvs, k, b, .inl e, rfl, eb, rfl⟩
theorem DPut.k {H : Hp} {a : Addr} {kvs : List (Key × V)} {k : Key} {v : V} (e : H a = some (.dK kvs)) (hl : kvs.length < sizeLine) : DPut H a (kV k) v (upd H a (.dK (putK kvs k v))) := .inl ⟨kvs, k, e, rfl, hl, rfl⟩
theorem DPut.t {H : Hp} {a b : Addr} {kvs : List (List Key × V)} {k : List Key} {v : V} (e : H a = some (.dT kvs)) (eb : H b = some (.tup (k.map kV))) (hl : kvs.length < sizeLine) :
    DPut H a (.ref b) v (upd H a (.dT (putK kvs k v))) := .inr ⟨kvs, k, b, e, rfl, eb, hl, rfl⟩


section
variable {X : Cx} {pins : List (Addr × Obj)} {σ : St} {H : Hp} {s : Shared} {a : Addr} {y v : V} {u r : Value} {o : Option V} {A : Around} {E : Value → Shared → Prop}

end

section
variable {X : Cx} {pins : List (Addr × Obj)} {σ : St} {H : Hp} {s : Shared} {a : Addr} {kvs : List (Key × V)} {k : Key} {u : Value} {A : Around} {E : Value → Shared → Prop}
end


section
variable {X : Cx} {o i e value : Expr} {pos pos' tpos : Pos} {td ty tv : TE}
end


section
variable {X : Cx} {pos : Pos}
end

structure M1 (X : Cx) (o : Expr) (m : Str) (apos : Pos) (e : Expr) (cpos : Pos) : Prop where
  base : attributeBase o m X.env (eval o X.env) = eval o X.env
  few : ((backTo cpos (starEach [e] X.env)).all (fun x => !x.1) && (backToKw cpos (keywordEach [] X.env)).all (fun x => x.1.isSome)
    && decide (([e] : List Expr).length + ([] : List Keyword).length + (if ([] : List Keyword).isEmpty then 0 else 1) < 30)) = true
  line : (apos.endLine == cpos.line) = true
  trees : backTo cpos (starEach [e] X.env) = [(false, eval e X.env)]
structure M2 (X : Cx) (o : Expr) (m : Str) (apos : Pos) (e f : Expr) (cpos : Pos) : Prop where
  base : attributeBase o m X.env (eval o X.env) = eval o X.env
  few : ((backTo cpos (starEach [e, f] X.env)).all (fun x => !x.1) && (backToKw cpos (keywordEach [] X.env)).all (fun x => x.1.isSome)
    && decide (([e, f] : List Expr).length + ([] : List Keyword).length + (if ([] : List Keyword).isEmpty then 0 else 1) < 30)) = true
  line : (apos.endLine == cpos.line) = true
  trees : backTo cpos (starEach [e, f] X.env) = [(false, eval e X.env), (false, eval f X.env)]

section
variable {X : Cx} {pins : List (Addr × Obj)} {σ : St} {H : Hp} {s : Shared} {a : Addr} {y d : V} {u r : Value} {o : Option V} {A : Around} {E : Value → Shared → Prop}
end

section
variable {X : Cx} {o e f : Expr} {apos cpos : Pos} {td ty tx : TE}
end

section
variable {X : Cx} {pins : List (Addr × Obj)} {σ : St} {H : Hp} {s : Shared} {a : Addr} {kvs : List (Key × V)} {A : Around} {E : Value → Shared → Prop}
end


section
variable {X : Cx} {pins : List (Addr × Obj)} {σ : St} {H : Hp} {s : Shared} {a : Addr} {y : V} {u : Value} {A : Around} {E : Value → Shared → Prop}
end
end L2

namespace Att
open PySem PySem.W PySem.Calls PyProof.Rows

theorem ints_of_wellAll {P : Params} {h : Heap} : ∀ (ns : List Int) (vs : List Value), WellAll P h vs (ns.map WData.int) → IntsAre vs ns := by
  intro ns
  induction ns with
  | nil =>
    intro vs w
    rw [List.map_nil] at w
    cases w
    exact .nil
  | cons n ns ih =>
    intro vs w
    rw [List.map_cons] at w
    cases w with
    | cons a b =>
      cases a
      exact .cons _ _ (ih _ b)

theorem script_of {l : OpenLaw} {n : Nat} (hn : l.most = some n) {P : Params} {h : Heap} {args : List WData} {vals : List Value}
    (hpre : l.row.toRowW.claim.pre args = true) (hwl : WellAll P h vals args) :
    ∃ a vs ns, vals = [Value.ref a] ∧ args = [WData.list (ns.map WData.int)] ∧ h.get? a = some { cls := .type "list", data := .seq vs.toArray } ∧ IntsAre vs ns ∧ ns.length ≤ n := by
  have hsh : WShape.hasAll [] args [.list .int] = true := (pre_splitW hpre).1
  have hc : l.pre.holds [] { args := args } = true := (pre_splitW hpre).2
  obtain ⟨d, r, rfl, h1, h2⟩ := hasAllW_cons hsh
  obtain rfl := hasAllW_nil h2
  obtain ⟨xs, rfl, h3⟩ := hasW_list h1
  obtain ⟨ns, rfl⟩ := items_int h3
  have hlen : ns.length ≤ n := by
    unfold OpenLaw.pre at hc
    have h4 : (WTm.not (.lt (.lit (.int (n : Int))) (.len (.arg 0)))).holds [] { args := [.list (ns.map .int)] } = true := by
      have h4 := (holds_andW hc).1
      rw [hn] at h4
      exact h4
    have h5 := condW_of h4 (w_not (w_lt w_lit (w_len_list (w_arg rfl))))
    rw [List.length_map] at h5
    refine Nat.le_of_not_lt fun q => ?_
    have q' : (n : Int) < ((ns.length : Nat) : Int) := by omega
    first
      | (rw [decide_eq_true q'] at h5; exact absurd h5 (by decide))
      | (simp at h5; omega)
  cases hwl with
  | cons w1 w2 =>
    cases w2
    cases w1 with
    | list ho hall => exact ⟨_, _, ns, rfl, rfl, ho, ints_of_wellAll ns _ hall, hlen⟩

theorem post_true (l : OpenLaw) (args : List WData) : l.row.toRowW.claim.post args (.bool true) args = true :=
  postW_of (r := l.row.toRowW) (X := (true == true))
    (show WShape.has [] (.bool true) .bool = true by first | rfl | decide | simp [WShape.has, WShape.arms, WShape.armsAll])
    (show (WTm.eq .res (.lit (.bool true))).value [] { args := args, res := some (.bool true), after := args } = some (.bool (true == true)) from w_eq_bool (w_res rfl) w_lit) rfl

theorem attach_call {l : OpenLaw} {n : Nat} {q : Program} {loose : List Str} {XP : (Str → Option Value) → Heap → Prop} {YP : World → Heap → Prop} {d : DefRec}
    (hn : l.most = some n) (hdf : d.params.defaults = [])
    (call : ∀ (w : World) (s₀ s₁ : Shared) (mg mb : Str → Option Value) (fa : Addr) (o : Obj) (pm cd doc : Value) (a : Addr) (vs : List Value) (ns : List Int),
      Ground q loose [] XP w s₀ mg mb s₁.heap → YP w s₁.heap →
      s₁.heap.get? fa = some o → o.data = .func (docDef d.name d.params d.body d.scope pm cd doc) → s₁.heap.CodeRec cd d.name → mg d.name = some (.ref fa) →
      s₁.heap.get? a = some { cls := .type "list", data := .seq vs.toArray } → IntsAre vs ns → ns.length ≤ n → s₁.gens = #[] →
      codeAny (model l.prog w) callerA (.call (.ref fa) ⟨[.ref a], []⟩) (fun r s' => r = .ok (.ret (.bool true)) ∧ OldK s₁.heap s'.heap ∧ s'.os = s₁.os ∧ AllBare s'.gens) s₁) :
    WalkO q loose XP YP l.row.toRowW d [] (fun f vs => PySem.call f vs) := by
  intro w s₀ s₁ mg mb G Y fa o pm cd doc dV kV ho hd hcd hD hmg hg args vals as hpre hlay hrd hwl hlo
  obtain rfl : dV = .none := Dflts.none hD hdf
  obtain rfl : kV = .none := Dflts.noKw hD
  obtain ⟨a, vs, ns, rfl, rfl, hobj, hints, hlen⟩ := script_of hn hpre hwl
  refine enter_call (codeAny_mono (call w s₀ s₁ mg mb fa o pm cd doc a vs ns G Y ho (fd_plain hd) hcd hmg hobj hints hlen hg) fun r s' hq => ?_)
  obtain ⟨rfl, h2, h3, h4⟩ := hq
  exact ⟨.inl ⟨.bool true, .bool true, [], rfl, fun _ => rfl, .bool true, post_true l _, fun _ => ⟨List.Pairwise.nil, fun _ hm => (nomatch hm)⟩⟩, h2, h3, h4⟩

section
variable {prog : Program} {w : World} {A : Around} {E : Value → Shared → Prop} {s : Shared} {K : Frag}

noncomputable def ledger (h : Heap) (L d : Addr) : List (Addr × Obj) := (List.range h.objs.size).filterMap fun a => if a = L ∨ a = d then none else (h.get? a).map fun o => (a, o)
end
end Att

namespace L2
open PySem PySem.Spec PyProof.Rows

theorem vals_ints : ∀ {vs : List Value} {ns : List Int}, IntsAre vs ns → Vals (ns.map V.int) vs
  | _, _, .nil => .nil
  | _, _, .cons n t h => .cons ⟨t, rfl⟩ (vals_ints h)

noncomputable def Only (H : Hp) : Prop := ∀ b, H b = none ∨ ∃ o xs, H b = some (.frz o (.lst xs))

theorem law_call {P : Program} {w : World} {K : PySem.W.Frag} {mg mb : Str → Option Value} {CX : CXT} {k : Nat} {fa a : Addr} {fd : FuncData} {x : Str} {sp : Sp} {s₁ : Shared} {vs : List Value} {ns : List Int}
    (KX : K.In s₁.heap) (hns : s₁.heap.Ns mainGlobals mg) (hb : s₁.heap.Ns builtinsNs mb) (hbb : ∀ x : Str, x ≠ "__name__" → mb x = bootBuiltins x) (hlim : s₁.heap.NoLimit) (hg : s₁.gens = #[])
    (ha : s₁.heap.get? a = some { cls := .type "list", data := .seq vs.toArray }) (hi : IntsAre vs ns) (hl : ns.length ≤ sizeLine) (hr : Room k callerA)
    (F : ∀ base : Heap, K.In base → base.Ns mainGlobals mg → FnOk P w K mg base CX k fa fd [x] sp) (hbind : ∀ (s : Shared) (u : Value), BindsTo s fd ⟨[u], []⟩ [(x, u)])
    (hsp : ∀ H : Hp, Only H → SqL K H a (ns.map V.int) → sp [.ref a] H (fun v _ => v = .bl true) fun _ _ _ => False)
    (hCX : ∀ H e s', CX [] H s₁ (fun _ _ _ => False) e s' → False) :
    codeAny (model P w) callerA (.call (.ref fa) ⟨[.ref a], []⟩) (fun r s' => r = .ok (.ret (.bool true)) ∧ OldK s₁.heap s'.heap ∧ s'.os = s₁.os ∧ AllBare s'.gens) s₁ := by
  have rv := vals_ints hi
  have lenV := hi.length
  -- from an abstract heap in which nothing but the script may be tracked
  have core : ∀ H : Hp, Only H → SqL K H a (ns.map V.int) → HOk P w H s₁.heap → (∀ b, H b ≠ none → b = a) → (H a ≠ none → K.lookup a = none) →
      codeAny (model P w) callerA (.call (.ref fa) ⟨[.ref a], []⟩) (fun r s' => r = .ok (.ret (.bool true)) ∧ OldK s₁.heap s'.heap ∧ s'.os = s₁.os ∧ AllBare s'.gens) s₁ := by
    intro H hO hS hok hA hK
    have base_of : ∀ {b : Addr} {o : Obj}, s₁.heap.get? b = some o → H b = none → (hidT s₁.heap H).get? b = some o := fun e n => hidT_get e n
    have noA : ∀ {b : Addr} {o : Obj} {es : Array DictEntry} {ep : Nat}, s₁.heap.get? b = some o → o.data = .dict es ep → H b = none := fun {b o es ep} e d => by
      cases q : H b with
      | none => rfl
      | some u =>
        have e' : b = a := hA b (by rw [q]; simp)
        subst e'
        rw [ha] at e; cases e
        have d' : Data.seq vs.toArray _ = Data.dict es ep := d
        cases d'
    have nsK : ∀ {b : Addr} {m : Str → Option Value}, s₁.heap.Ns b m → (hidT s₁.heap H).Ns b m := fun {b m} ⟨o, es, ep, e, d, r⟩ => ⟨o, es, ep, base_of e (noA e d), d, r⟩
    have hKb : K.In (hidT s₁.heap H) := fun b o e => base_of (KX b o e) (by
      cases q : H b with
      | none => rfl
      | some u =>
        have e' : b = a := hA b (by rw [q]; simp)
        subst e'
        rw [hK (by rw [q]; simp)] at e; cases e)
    have hM : Mod K mg (hidT s₁.heap H) := ⟨hKb, nsK hns, ⟨mb, nsK hb, hbb⟩, let ⟨mc, h1, h2⟩ := hlim; ⟨mc, nsK h1, h2⟩⟩
    have e0 : Env0 P w K mg (hidT s₁.heap H) callerA [] s₁ H := ⟨rfl, hM, fun b o e => of_hidT e, Nat.le_of_eq (hidT_size _ _), trivial, fun b hb => absurd (show b ∈ ([] : List Addr) from hb) (by simp), hok, .of_eq hg⟩
    refine codeAny_mono ((F _ hKb (nsK hns)).run callerA [] s₁ H ⟨[.ref a], []⟩ [.ref a] [.ref a] _ _ hr e0 (hbind s₁ (.ref a)) (.cons rfl .nil) (hsp H hO hS)) fun r s' h => ?_
    cases r with
    | error e => exact (hCX H e s' h).elim
    | ok fl =>
      cases fl with
      | next => exact False.elim h
      | brk => exact False.elim h
      | cont => exact False.elim h
      | ret u =>
        obtain ⟨v, H', os, bare, un, hok', r', q⟩ := h
        have q' : v = .bl true := q
        subst q'
        obtain rfl : u = Value.bool true := r'
        refine ⟨rfl, OldK.of_keep fun b o e => ?_, os, bare⟩
        cases q : H b with
        | none => exact un.keep b o e q (by intro z; exact absurd (show b ∈ ([] : List Addr) from z) (by simp)) (by simp)
        | some u =>
          rcases hO b with z | ⟨ob, xs, z⟩
          · rw [q] at z; cases z
          · have z2 := un.frzs b ob _ z
            obtain ⟨e1, _⟩ := hok b _ z
            obtain ⟨e2, _⟩ := hok' b _ z2
            rw [e] at e1; cases e1
            exact e2
  cases hk : K.lookup a with
  | some o =>
    -- the script is one of the module's own objects
    have e := KX a o hk
    rw [ha] at e
    cases e
    refine core (fun _ => none) (fun _ => .inl rfl) (.inr ⟨_, vs.toArray, _, hk, rfl, rfl, rfl, by rw [List.size_toArray, lenV]; exact hl, by simpa using rv⟩) (fun b u z => by have z' : (none : Option HO) = some u := z; cases z') (fun b z => absurd rfl z) fun z => absurd rfl z
  | none =>
    refine core (fun b => if b = a then some (.frz { cls := .type "list", data := .seq vs.toArray } (.lst (ns.map V.int))) else none) (fun b => ?_) (.inl (.inr ⟨{ cls := .type "list", data := .seq vs.toArray }, if_pos rfl⟩)) (fun b u z => ?_) (fun b z => ?_) fun _ => hk
    · by_cases hb : b = a
      · exact .inr ⟨_, _, if_pos hb⟩
      · exact .inl (if_neg hb)
    · by_cases hb : b = a
      · have z' := (if_pos hb).symm.trans z
        cases z'
        subst hb
        exact ⟨ha, by rw [List.length_map]; exact hl, vs, _, rv, ha⟩
      · have z' := (if_neg hb).symm.trans z
        cases z'
    · by_cases hb : b = a
      · exact hb
      · exact absurd (if_neg hb) z
end L2

namespace L2
open PySem PySem.Spec PyProof.Rows

theorem walk_of {l : PySem.W.OpenLaw} {n k : Nat} {q : Program} {loose : List Str} {XP : (Str → Option Value) → Heap → Prop} {YP : World → Heap → Prop} {d : DefRec} {K : Params → PySem.W.Frag} {CX : World → CXT} {sp : World → Sp} {x : Str}
    (hn : l.most = some n) (hn2 : n ≤ sizeLine) (hdf : d.params.defaults = []) (hr : Room k callerA)
    (hY : ∀ (w : World) (h : Heap), YP w h → (K w.params).In h)
    (F : ∀ (w : World) (mg : Str → Option Value) (fa : Addr) (h : Heap), (K w.params).In h → h.Ns mainGlobals mg → mg d.name = some (.ref fa) →
      ∃ fd : FuncData, (∀ (s : Shared) (u : Value), BindsTo s fd ⟨[u], []⟩ [(x, u)]) ∧
        ∀ base : Heap, (K w.params).In base → base.Ns mainGlobals mg → FnOk l.prog w (K w.params) mg base (CX w) k fa fd [x] (sp w))
    (hsp : ∀ (w : World) (H : Hp) (a : Addr) (ns : List Int), ns.length ≤ n → Only H → SqL (K w.params) H a (ns.map V.int) → sp w [.ref a] H (fun v _ => v = .bl true) fun _ _ _ => False)
    (hCX : ∀ (w : World) (H : Hp) (s : Shared) (e : Value) (s' : Shared), CX w [] H s (fun _ _ _ => False) e s' → False) :
    PySem.W.WalkO q loose XP YP l.row.toRowW d [] (fun f vs => PySem.call f vs) := by
  refine Att.attach_call hn hdf fun w s₀ s₁ mg mb fa o pm cd doc a vs ns G Y ho hd hcd hmg hobj hints hlen hg => ?_
  have KX := hY w _ Y
  obtain ⟨fd, hb, hF⟩ := F w mg fa _ KX G.T.g hmg
  exact law_call KX G.T.g G.T.b G.T.builtins G.T.nolimit hg hobj hints (Nat.le_trans hlen hn2) hr hF hb (fun H hO hS => hsp w H a ns hlen hO hS) fun H e s' => hCX w H s₁ e s'
end L2

namespace L2
open PySem PySem.Spec PyProof.Rows

noncomputable def inClass (s : Stmt) (j : Nat) : Stmt := match s with
  | .ClassDef _ _ _ body _ _ _ _ _ _ _ => body.getD j (.Pass ⟨0, 0, 0, 0⟩)
  | _ => .Pass ⟨0, 0, 0, 0⟩
noncomputable def defArgs (s : Stmt) : Arguments := match s with
  | .FunctionDef _ a _ _ _ _ _ _ _ _ => a
  | _ => { posonlyargs := [], args := [], vararg := none, kwonlyargs := [], kw_defaults := [], kwarg := none, defaults := [] }
noncomputable def defBody (s : Stmt) : List Stmt := match s with
  | .FunctionDef _ _ b _ _ _ _ _ _ _ => b
  | _ => []
noncomputable def defScope (s : Stmt) : Scope := match s with
  | .FunctionDef _ _ _ _ _ _ sc _ _ _ => sc
  | _ => { kind := .function, names := [], isGenerator := false, isCoroutine := false }

noncomputable abbrev CX0 : CXT := fun _ _ _ _ _ _ => False
noncomputable abbrev E0 : XK := fun _ _ _ => False
theorem pass0 {X : Cx} : Passes CX0 X E0 := fun _ _ _ _ _ _ _ h => h.elim

structure Fun (K : PySem.W.Frag) (x qual : Str) (st : Stmt) (f : Addr) (fd : FuncData) : Prop where
  ex : ∃ (oc : Value) (od : Option Addr) (kV doc pm : Value) (an : Option Addr) (cdv ct : Value) (osl : Array (Option Value)),
    fd = PySem.W.fnOf x qual (defArgs st) (defBody st) (defScope st) .none kV doc pm an cdv ct ∧ K.lookup f = some ⟨oc, od, .func fd, osl⟩ ∧ PySem.W.codeIn K cdv qual = true
  kp : PySem.W.keepIn K (.ref f) = true
section
variable {P : Program} {w : World} {K : PySem.W.Frag} {mg : Str → Option Value} {base : Heap}
theorem Fun.ok {x qual : Str} {st : Stmt} {f : Addr} {fd : FuncData} {N ps : List Str} {k : Nat} {sp : Sp} (F : Fun K x qual st f fd) (S : FnScope N ps (defScope st)) (len : ∀ vs H Q E, sp vs H Q E → vs.length = ps.length)
    (hbody : ∀ (cdv : Value) (A : Around) (outer : List Env) (s : Shared) (H : Hp) (vs : List V) (Q : VK) (E : XK), Room k (A.deeper (envOfC qual (defScope st) s.heap.objs.size f cdv)) → sp vs H Q E →
      ∃ t, PSs (cxOf CX0 P w K mg base N qual (defScope st) f cdv A outer s H E).nox (defBody st) t ∧ t { nx := fun _ H' => Q .non H', rt := Q } (start N vs) H) : FnOk P w K mg base CX0 (k + 1) f fd ps sp := by
  obtain ⟨oc, od, kV, doc, pm, an, cdv, ct, osl, rfl, lk, hcd⟩ := F.ex
  refine fn_of lk hcd S len fun A outer s H vs Q E hr hsp => ?_
  obtain ⟨t, h, q⟩ := hbody cdv A outer s H vs Q E hr hsp
  exact ⟨t, h.nox, q⟩
theorem Fun.binds {x qual : Str} {st : Stmt} {f : Addr} {fd : FuncData} {ps : List Str} (F : Fun K x qual st f fd)
    (h : ∀ (kV doc pm : Value) (an : Option Addr) (cdv ct : Value) (us : List Value), us.length = ps.length → bindArgs (PySem.W.fnOf x qual (defArgs st) (defBody st) (defScope st) .none kV doc pm an cdv ct) ⟨us, []⟩ = pure (ps.zip us)) : Binds K fd ps [] := by
  obtain ⟨oc, od, kV, doc, pm, an, cdv, ct, osl, rfl, lk, hcd⟩ := F.ex
  exact .all (h kV doc pm an cdv ct)
theorem fun_mk {x qual : Str} {st : Stmt} {f : Addr} {oc : Value} {od an : Option Addr} {osl : Array (Option Value)} {kV doc pm cdv ct : Value} (l : K.lookup f = some ⟨oc, od, .func (PySem.W.fnOf x qual (defArgs st) (defBody st) (defScope st) .none kV doc pm an cdv ct), osl⟩)
    (c : PySem.W.codeIn K cdv qual = true) (k : PySem.W.keepIn K (.ref f) = true) : Fun K x qual st f (PySem.W.fnOf x qual (defArgs st) (defBody st) (defScope st) .none kV doc pm an cdv ct) := ⟨⟨oc, od, kV, doc, pm, an, cdv, ct, osl, rfl, l, c⟩, k⟩
end
theorem small1000 {n : Nat} (h : n ≤ 1000) : n < sizeLine := Nat.lt_of_le_of_lt h (by decide)

section
variable {X : Cx}
theorem pv (i : Nat) {x : Str} {pos : Pos} (hN : X.N[i]? = some x := by rfl) (hv : Vis X.env.scope x := by first | exact Or.inl rfl | exact Or.inr (Or.inl rfl) | exact Or.inr (Or.inr rfl)) (hd : (x == ("__debug__" : Str)) = false := by decide)
    (hcd : (x == ("__classdict__" : Str)) = false := by decide) : PE X (.Name x pos) (tVar i) := pe_var hN hv hd hcd
end

theorem iteF {A B : Prop} (h : B) : if false = true then A else B := by
  rw [if_neg Bool.false_ne_true]
  exact h
theorem iteT {A B : Prop} (h : A) : if true = true then A else B := by
  rw [if_pos rfl]
  exact h
theorem ite2 {c A B : Prop} [Decidable c] (h1 : c → A) (h2 : ¬ c → B) : if c then A else B := by
  by_cases h : c
  · rw [if_pos h]
    exact h1 h
  · rw [if_neg h]
    exact h2 h
theorem iteNS {c A B : Prop} [Decidable c] (hc : c) (h : B) : if (!decide c) = true then A else B := by
  rw [decide_eq_true hc]
  exact iteF h

noncomputable def Same (H H' : Hp) : Prop := ∀ b o, H b = some o → H' b = some o
theorem Same.refl (H : Hp) : Same H H := fun _ _ h => h
theorem Same.trans {H H1 H2 : Hp} (a : Same H H1) (b : Same H1 H2) : Same H H2 := fun c o h => b c o (a c o h)
theorem Same.free {H H' : Hp} (e : Same H H') {l : Addr} (h : H' l = Option.none) : H l = Option.none := by
  cases q : H l with
  | none => rfl
  | some o =>
    rw [e l o q] at h
    cases h
theorem Same.seq {K : PySem.W.Frag} {H H' : Hp} {a : Addr} {xs : List V} (e : Same H H') (h : SqL K H a xs) : SqL K H' a xs := by
  rcases h with (h | ⟨o, h⟩) | h
  · exact .inl (.inl (e _ _ h))
  · exact .inl (.inr ⟨o, e _ _ h⟩)
  · exact .inr h

section
variable {κ : Type} [DecidableEq κ]
end
end L2

namespace GM

noncomputable abbrev Tx := List Nat
noncomputable abbrev Ru := List Tx

noncomputable def once (R : Ru) (x : Tx) : Tx := x.flatMap fun c => R.getD (c - 97) []
noncomputable def OkTx (n : Nat) (x : Tx) : Prop := ∀ c ∈ x, 97 ≤ c ∧ c < 97 + n
structure OkRu (R : Ru) : Prop where
  pos : 1 ≤ R.length
  top : R.length ≤ 26
  all : ∀ r ∈ R, OkTx R.length r
noncomputable def lets (n : Nat) : Tx := (List.range n).map (97 + ·)
noncomputable def cnt (n : Nat) (x : Tx) : List Int := (lets n).map fun c => (x.count c : Int)
noncomputable def grow (R : Ru) : Nat → Tx → Tx
  | 0, x => x
  | t + 1, x => grow R t (once R x)
noncomputable def weigh (u v : List Int) : Int := (List.zipWith (· * ·) u v).sum
noncomputable def hstep (told : List Int) (p : Int × List Int) : List Int := if p.1 = 0 then told else List.zipWith (fun s e => s + p.1 * e) told p.2
noncomputable def hnext (T : List (List Int)) (h : List Int) : List Int := (List.zip h T).foldl hstep (List.replicate T.length 0)
noncomputable def table (R : Ru) : List (List Int) := R.map (cnt R.length)

theorem grow_succ' (R : Ru) : ∀ t x, grow R (t + 1) x = once R (grow R t x)
  | 0, x => rfl
  | t + 1, x => by show grow R (t + 1) (once R x) = _; rw [grow_succ' R t (once R x)]; rfl
theorem once_nil (R : Ru) : once R [] = [] := rfl
theorem once_cons (R : Ru) (c : Nat) (x : Tx) : once R (c :: x) = R.getD (c - 97) [] ++ once R x := by simp [once]
theorem once_append (R : Ru) (x y : Tx) : once R (x ++ y) = once R x ++ once R y := by simp [once, List.flatMap_append]
theorem getD_mem {R : Ru} {k : Nat} (h : k < R.length) : R.getD k [] ∈ R := by
  rw [List.getD_eq_getElem?_getD, List.getElem?_eq_getElem h]; exact List.getElem_mem h
theorem OkTx.once {R : Ru} (hR : OkRu R) {x : Tx} (hx : OkTx R.length x) : OkTx R.length (once R x) := by
  intro c hc
  obtain ⟨d, hd, hc⟩ := List.mem_flatMap.mp hc
  have := hx d hd
  exact hR.all _ (getD_mem (by omega)) c hc
theorem OkTx.grow {R : Ru} (hR : OkRu R) : ∀ {t : Nat} {x : Tx}, OkTx R.length x → OkTx R.length (grow R t x)
  | 0, _, h => h
  | t + 1, _, h => OkTx.grow hR (t := t) (OkTx.once hR h)
theorem OkTx.tail {n : Nat} {c : Nat} {x : Tx} (h : OkTx n (c :: x)) : OkTx n x := fun d hd => h d (List.mem_cons_of_mem _ hd)
theorem OkTx.append {n : Nat} {x y : Tx} (h : OkTx n x) (k : OkTx n y) : OkTx n (x ++ y) := fun d hd => (List.mem_append.mp hd).elim (h d) (k d)

theorem lets_length (n : Nat) : (lets n).length = n := by simp [lets]
theorem cnt_length (n : Nat) (x : Tx) : (cnt n x).length = n := by simp [cnt, lets_length]
theorem lets_succ (n : Nat) : lets (n + 1) = lets n ++ [97 + n] := by simp [lets, List.range_succ]
theorem mem_lets {n c : Nat} : c ∈ lets n ↔ 97 ≤ c ∧ c < 97 + n := by
  simp only [lets, List.mem_map, List.mem_range]
  constructor
  · rintro ⟨k, h, rfl⟩; omega
  · rintro ⟨h1, h2⟩; exact ⟨c - 97, by omega, by omega⟩
theorem lets_nodup (n : Nat) : (lets n).Nodup := by
  induction n with
  | zero => exact List.nodup_nil
  | succ n ih =>
    rw [lets_succ, List.nodup_append]
    refine ⟨ih, by simp, ?_⟩
    intro a ha b hb
    simp at hb; subst hb
    have := (mem_lets.mp ha).2
    omega
theorem lets_get {n k : Nat} (h : k < n) : (lets n)[k]? = some (97 + k) := by
  simp [lets, h]
theorem cnt_get {n k : Nat} (x : Tx) (h : k < n) : (cnt n x)[k]? = some (x.count (97 + k) : Int) := by
  simp [cnt, lets_get h]
theorem cnt_nil (n : Nat) : cnt n [] = List.replicate n 0 := by
  apply List.ext_getElem?
  intro k
  by_cases h : k < n
  · rw [cnt_get _ h]; simp [h]
  · rw [List.getElem?_eq_none (by rw [cnt_length]; omega), List.getElem?_eq_none (by simp; omega)]
theorem cnt_sum {n : Nat} : ∀ {x : Tx}, OkTx n x → (cnt n x).sum = (x.length : Int)
  | [], _ => by
    rw [cnt_nil]
    have : ∀ k : Nat, (List.replicate k (0 : Int)).sum = 0 := fun k => by induction k with | zero => rfl | succ k ih => rw [List.replicate_succ, List.sum_cons, ih]; rfl
    simpa using this n
  | c :: x, h => by
    have ih := cnt_sum h.tail
    have hc := h c List.mem_cons_self
    have key : ∀ l : Tx, l.Nodup → (l.map fun d => ((c :: x).count d : Int)).sum = (l.map fun d => (x.count d : Int)).sum + (if c ∈ l then 1 else 0) := by
      intro l
      induction l with
      | nil => intro _; simp
      | cons d l il =>
        intro hn
        obtain ⟨h1, h2⟩ := List.nodup_cons.mp hn
        have il := il h2
        simp only [List.map_cons, List.sum_cons, il]
        by_cases e : c = d
        · subst e
          rw [List.count_cons_self, if_pos List.mem_cons_self, if_neg h1]
          omega
        · have e1 : (c :: x).count d = x.count d := List.count_cons_of_ne (by simpa using e)
          have e2 : (c ∈ d :: l) ↔ c ∈ l := by simp [e]
          rw [e1]
          by_cases hm : c ∈ l
          · rw [if_pos hm, if_pos (e2.mpr hm)]; omega
          · rw [if_neg hm, if_neg (fun z => hm (e2.mp z))]; omega
    have := key (lets n) (lets_nodup n)
    unfold cnt
    rw [this, if_pos (mem_lets.mpr hc)]
    have ih' : ((lets n).map fun d => (x.count d : Int)).sum = (x.length : Int) := ih
    rw [ih']; simp

theorem foldl_hstep_get (n : Nat) : ∀ (ps : List (Int × List Int)) (told : List Int), told.length = n → (∀ p ∈ ps, p.2.length = n) →
    (ps.foldl hstep told).length = n ∧ ∀ k, k < n → (ps.foldl hstep told)[k]? = some ((told.getD k 0) + (ps.map fun p => p.1 * p.2.getD k 0).sum)
  | [], told, h, _ => ⟨h, fun k hk => by simp [List.getD_eq_getElem?_getD, List.getElem?_eq_getElem (h ▸ hk : k < told.length)]⟩
  | p :: ps, told, h, hp => by
    have hl : (hstep told p).length = n := by
      unfold hstep
      split
      · exact h
      · rw [List.length_zipWith, h, hp p List.mem_cons_self]; omega
    obtain ⟨i1, i2⟩ := foldl_hstep_get n ps (hstep told p) hl fun q hq => hp q (List.mem_cons_of_mem _ hq)
    refine ⟨i1, fun k hk => ?_⟩
    rw [List.foldl_cons, i2 k hk]
    have e : (hstep told p).getD k 0 = told.getD k 0 + p.1 * p.2.getD k 0 := by
      unfold hstep
      split
      · rename_i z; rw [z]; omega
      · have q := hp p List.mem_cons_self
        rw [List.getD_eq_getElem?_getD, List.getElem?_zipWith, List.getD_eq_getElem?_getD, List.getD_eq_getElem?_getD,
          List.getElem?_eq_getElem (h ▸ hk : k < told.length), List.getElem?_eq_getElem (q ▸ hk : k < p.2.length)]
        simp
    rw [e, List.map_cons, List.sum_cons]
    congr 1
    omega

theorem hnext_length {T : List (List Int)} {h : List Int} (hT : ∀ l ∈ T, l.length = T.length) : (hnext T h).length = T.length := by
  unfold hnext
  exact (foldl_hstep_get T.length _ _ (by simp) fun p hp => hT _ (List.of_mem_zip hp).2).1
theorem hnext_get {T : List (List Int)} {h : List Int} (hT : ∀ l ∈ T, l.length = T.length) {k : Nat} (hk : k < T.length) :
    (hnext T h)[k]? = some ((List.zip h T).map fun p => p.1 * p.2.getD k 0).sum := by
  unfold hnext
  rw [(foldl_hstep_get T.length _ _ (by simp) fun p hp => hT _ (List.of_mem_zip hp).2).2 k hk]
  simp [List.getD_eq_getElem?_getD, hk]

theorem sum_by_letters {n : Nat} (f : Nat → Int) : ∀ {x : Tx}, OkTx n x → ((lets n).map fun c => (x.count c : Int) * f c).sum = (x.map f).sum
  | [], _ => by
    have : ∀ l : Tx, (l.map fun c => (([] : Tx).count c : Int) * f c).sum = 0 := fun l => by
      induction l with
      | nil => rfl
      | cons d l il => rw [List.map_cons, List.sum_cons, il]; simp
    simpa using this (lets n)
  | c :: x, h => by
    have ih := sum_by_letters f h.tail
    have hc := h c List.mem_cons_self
    have key : ∀ l : Tx, l.Nodup → (l.map fun d => ((c :: x).count d : Int) * f d).sum = (l.map fun d => (x.count d : Int) * f d).sum + (if c ∈ l then f c else 0) := by
      intro l
      induction l with
      | nil => intro _; simp
      | cons d l il =>
        intro hn
        obtain ⟨h1, h2⟩ := List.nodup_cons.mp hn
        have il := il h2
        simp only [List.map_cons, List.sum_cons, il]
        by_cases e : c = d
        · subst e
          rw [List.count_cons_self, if_pos List.mem_cons_self, if_neg h1]
          have : ((x.count c + 1 : Nat) : Int) * f c = (x.count c : Int) * f c + f c := by rw [Int.natCast_add, Int.add_mul]; simp
          omega
        · have e1 : (c :: x).count d = x.count d := List.count_cons_of_ne (by simpa using e)
          have e2 : (c ∈ d :: l) ↔ c ∈ l := by simp [e]
          rw [e1]
          by_cases hm : c ∈ l
          · rw [if_pos hm, if_pos (e2.mpr hm)]; omega
          · rw [if_neg hm, if_neg (fun z => hm (e2.mp z))]; omega
    rw [key (lets n) (lets_nodup n), if_pos (mem_lets.mpr hc), ih, List.map_cons, List.sum_cons]
    omega

theorem zipWith_cnt {α β : Type} {n : Nat} (x : Tx) (v : List α) (d : α) (hv : v.length = n) (g : Int → α → β) :
    List.zipWith g (cnt n x) v = (lets n).map fun c => g (x.count c : Int) (v.getD (c - 97) d) := by
  apply List.ext_getElem?
  intro k
  by_cases h : k < n
  · rw [List.getElem?_zipWith, cnt_get _ h, List.getElem?_map, lets_get h, List.getElem?_eq_getElem (hv ▸ h : k < v.length)]
    have : 97 + k - 97 = k := by omega
    simp [this, List.getD_eq_getElem?_getD, List.getElem?_eq_getElem (hv ▸ h : k < v.length)]
  · rw [List.getElem?_eq_none (by rw [List.length_zipWith, cnt_length]; omega), List.getElem?_eq_none (by rw [List.length_map, lets_length]; omega)]
theorem zip_cnt {α β : Type} {n : Nat} (x : Tx) (v : List α) (d : α) (hv : v.length = n) (g : Int × α → β) :
    (List.zip (cnt n x) v).map g = (lets n).map fun c => g ((x.count c : Int), v.getD (c - 97) d) := by
  rw [List.zip_eq_zipWith, List.map_zipWith]
  exact zipWith_cnt x v d hv fun a b => g (a, b)

theorem sum_congr_int {l : Tx} {f g : Nat → Int} (h : ∀ c ∈ l, f c = g c) : (l.map f).sum = (l.map g).sum := by
  rw [List.map_congr_left h]
theorem count_flatMap_int (x : Tx) (F : Nat → Tx) (d : Nat) : ((x.flatMap F).count d : Int) = (x.map fun c => ((F c).count d : Int)).sum := by
  induction x with
  | nil => rfl
  | cons c x ih => rw [List.flatMap_cons, List.count_append, List.map_cons, List.sum_cons, ← ih]; simp
theorem getD_map {α β : Type} (l : List α) (f : α → β) (d : α) (e : β) {k : Nat} (h : k < l.length) : (l.map f).getD k e = f (l.getD k d) := by
  rw [List.getD_eq_getElem?_getD, List.getD_eq_getElem?_getD, List.getElem?_map, List.getElem?_eq_getElem h]; rfl

theorem table_length (R : Ru) : (table R).length = R.length := by simp [table]
theorem table_rows (R : Ru) : ∀ l ∈ table R, l.length = (table R).length := by
  intro l hl
  obtain ⟨r, _, rfl⟩ := List.mem_map.mp hl
  rw [cnt_length, table_length]
theorem hnext_cnt {R : Ru} {x : Tx} (hx : OkTx R.length x) : hnext (table R) (cnt R.length x) = cnt R.length (once R x) := by
  apply List.ext_getElem?
  intro k
  by_cases h : k < R.length
  · rw [hnext_get (table_rows R) (by rw [table_length]; exact h), cnt_get _ h, zip_cnt x (table R) [] (table_length R) (fun p => p.1 * p.2.getD k 0), sum_by_letters _ hx]
    unfold once
    rw [count_flatMap_int]
    congr 1
    refine sum_congr_int fun c hc => ?_
    have hk : c - 97 < R.length := by have := hx c hc; omega
    unfold table
    rw [getD_map R _ [] [] hk, List.getD_eq_getElem?_getD, cnt_get _ h]
    rfl
  · rw [List.getElem?_eq_none (by rw [hnext_length (table_rows R), table_length]; omega), List.getElem?_eq_none (by rw [cnt_length]; omega)]
noncomputable def beh (R S : Ru) : Ru := R.map (once S)
theorem beh_length (R S : Ru) : (beh R S).length = R.length := by simp [beh]
theorem OkRu.beh {R S : Ru} (hR : OkRu R) (hS : OkRu S) (e : S.length = R.length) : OkRu (beh R S) where
  pos := by rw [beh_length]; exact hR.pos
  top := by rw [beh_length]; exact hR.top
  all := by
    rintro r hr
    rw [beh_length]
    obtain ⟨q, hq, rfl⟩ := List.mem_map.mp hr
    rw [← e]
    exact OkTx.once hS (by rw [e]; exact hR.all q hq)
theorem once_len {R : Ru} {b : Nat} (hb : ∀ r ∈ R, r.length ≤ b) : ∀ {x : Tx}, OkTx R.length x → (once R x).length ≤ x.length * b
  | [], _ => by simp [once]
  | c :: x, h => by
    rw [once_cons, List.length_append, List.length_cons, Nat.succ_mul]
    have h1 := hb _ (getD_mem (R := R) (k := c - 97) (by have := h c List.mem_cons_self; omega))
    have h2 := once_len hb h.tail
    omega
end GM

namespace GS
open PySem PySem.Spec PyProof.Rows

noncomputable def fm (val : Nat → Str) : Nat → List Str
  | 0 => []
  | i + 1 => if val i ∈ fm val i then fm val i else fm val i ++ [val i]
theorem mem_fm (val : Nat → Str) : ∀ (i : Nat) (k : Str), k ∈ fm val i ↔ ∃ j, j < i ∧ val j = k
  | 0, k => by simp [fm]
  | i + 1, k => by
    have ih := mem_fm val i k
    have key : k ∈ fm val (i + 1) ↔ (k ∈ fm val i ∨ k = val i) := by
      show k ∈ (if val i ∈ fm val i then fm val i else fm val i ++ [val i]) ↔ _
      split
      · rename_i h
        exact ⟨.inl, fun z => z.elim id fun e => e ▸ h⟩
      · simp
    rw [key, ih]
    constructor
    · rintro (⟨j, h, e⟩ | e)
      · exact ⟨j, by omega, e⟩
      · exact ⟨i, by omega, e.symm⟩
    · rintro ⟨j, h, e⟩
      by_cases q : j = i
      · subst q; exact .inr e.symm
      · exact .inl ⟨j, by omega, e⟩
theorem fm_nodup (val : Nat → Str) : ∀ i, (fm val i).Nodup
  | 0 => List.nodup_nil
  | i + 1 => by
    show (if val i ∈ fm val i then fm val i else fm val i ++ [val i]).Nodup
    split
    · exact fm_nodup val i
    · rename_i h
      rw [List.nodup_append]
      refine ⟨fm_nodup val i, by simp, fun a ha b hb => ?_⟩
      simp at hb; subst hb
      exact fun e => h (e ▸ ha)
theorem fm_step (val : Nat → Str) (i : Nat) (k : Str) : decide (k ∈ fm val (i + 1)) = (decide (k ∈ fm val i) || decide (k = val i)) := by
  rw [Bool.eq_iff_iff]
  simp only [decide_eq_true_eq, Bool.or_eq_true]
  show k ∈ (if val i ∈ fm val i then fm val i else fm val i ++ [val i]) ↔ _
  split
  · rename_i h
    exact ⟨.inl, fun z => z.elim id fun e => e ▸ h⟩
  · simp
theorem fm_len (val : Nat → Str) (i : Nat) : (fm val (i + 1)).length = if decide (val i ∈ fm val i) = true then (fm val i).length else (fm val i).length + 1 := by
  show (if val i ∈ fm val i then fm val i else fm val i ++ [val i]).length = _
  by_cases h : val i ∈ fm val i
  · simp [h]
  · simp [h]

section
variable {prog : Program} {w : World} {A : Around} {R : Result → Shared → Prop} {I : Addr} {fp wr : List Addr} {G : Array GenState → Array GenState → Prop} {n : Nat} {P : Nat → Value → Prop} {St : Nat → Shared → Prop}

theorem set_loop_str (W : WalksS prog w A.in1 I fp wr G n P St) (S : Addr) (hSf : S ∉ fp)
    (val : Nat → Str) (hval : ∀ i v, P i v → ∃ t, v = .str (val i) t) (hb : ∀ i, (fm val i).length + 1 < scanBound) :
    ∀ (k i : Nat) (s : Shared), n - i = k → i ≤ n → St i s →
      s.heap.SetOf (strKind prog w) S (fun k' => decide (k' ∈ fm val i)) (fm val i).length →
      (∀ s', Moved (S :: wr) G s s' → s'.heap.SetOf (strKind prog w) S (fun k' => decide (k' ∈ fm val n)) (fm val n).length → R (.ok (.ret .none)) s') →
      codeAny (model prog w) A (.builtin "set.update.loop" ⟨[.ref S, .ref I], []⟩) R s := by
  have hSw : S ∉ wr := fun h => hSf (W.sub _ h)
  have hsub : ∀ b ∈ wr, b ∈ S :: wr := fun b hb => List.mem_cons_of_mem _ hb
  intro k
  induction k with
  | zero =>
    intro i s hk hi hst hS hR
    have hin : i = n := by omega
    subst hin
    refine codeAny_builtin F.entry_set_update_loop ?_
    rw [Around.under_plainId F.plain_set_update_loop _]
    show wpAny _ A.in1 (pyNext (.ref I) >>= _) _ _ s
    refine wpAny_bind (W.done s _ _ hst fun s' hm => ?_)
    show wpAny _ A.in1 (ret Value.none) _ _ s'
    exact wpAny_pure (hR s' (hm.mono hsub) (by
      obtain ⟨o, es, ep, t, ho, rest⟩ := hS
      exact ⟨o, es, ep, t, hm.heap S _ hSw ho, rest⟩))
  | succ k ih =>
    intro i s hk hi hst hS hR
    have hlt : i < n := by omega
    refine codeAny_builtin F.entry_set_update_loop ?_
    rw [Around.under_plainId F.plain_set_update_loop _]
    show wpAny _ A.in1 (pyNext (.ref I) >>= _) _ _ s
    refine wpAny_bind (W.item i s _ _ hlt hst fun v s' hP hst' hm => ?_)
    obtain ⟨t, rfl⟩ := hval i v hP
    have hS' : s'.heap.SetOf (strKind prog w) S (fun k' => decide (k' ∈ fm val i)) (fm val i).length := by
      obtain ⟨o, es, ep, tb, ho, rest⟩ := hS
      exact ⟨o, es, ep, tb, hm.heap S _ hSw ho, rest⟩
    show wpAny _ A.in1 (holding [Value.str (val i) t] (setAdd S (.str (val i) t)) >>= _) _ _ s'
    refine wpAny_bind (wpAny_holding ?_)
    unfold setAdd
    refine wpAny_holding ?_
    refine wpAny_bind ((strKind prog w).pyHash (k := val i) (strKind_is _ _ _ _) ?_)
    refine wpAny_setAddHashed_of (knd := strKind prog w) (s := { s' with toks := s'.toks + 1 }) (strKind_is _ _ _ _) rfl hS' (hb i) fun h' hsb hS2 => ?_
    have hSi : h'.SetOf (strKind prog w) S (fun k' => decide (k' ∈ fm val (i + 1))) (fm val (i + 1)).length :=
      SetOf_congr hS2 (fun k' => (fm_step val i k').symm) (fm_len val i).symm
    refine wpAny_pure ⟨plainId_quiet F.plain_set_update_loop _, ih (i + 1) _ (by omega) hlt (W.frame _ s' _ _ hst' (Nat.le_succ _) fun b hb o e => ?_) hSi fun s'' hm'' hS'' => ?_⟩
    · rw [hsb.2 b (fun h : b = S => hSf (by rw [← h]; exact hb))]; exact e
    · refine hR s'' (Moved.trans W.gtrans ((hm.mono hsub).then_heap (Nat.le_succ _) fun b o hb e => ?_) hm'') hS''
      rw [hsb.2 b (fun h : b = S => hb (by rw [h]; exact List.mem_cons_self))]; exact e
end

namespace F
theorem sub_str_set : isSubtype (.type "str") (.type "set") = pure false := by rw [isSubtype_type]; kernel_rfl
theorem sub_str_frozenset : isSubtype (.type "str") (.type "frozenset") = pure false := by rw [isSubtype_type]; kernel_rfl
theorem entry_set_sub : entryFor table "set.__sub__" = some Builtin.«frozenset.__sub__» :=
  entryFor_alias (id' := "frozenset.__sub__") (by kernel_rfl) rfl (by decide +kernel) (by kernel_rfl)
end F

noncomputable def sg (x : Str) (i : Nat) : Str := ⟨#[x.cps.getD i 0]⟩

section
variable {prog : Program} {w : World} {A : Around} {E : Value → Shared → Prop} {s : Shared}

set_option maxHeartbeats 3200000 in
theorem call_set_str {x : Str} {t : Tok} {Q : Value → Shared → Prop}
    (hh : A.handled = none) (hb : ∀ i, (fm (sg x) i).length + 1 < scanBound)
    (h : ∀ (h' : Heap) (tk : Nat), h'.SetOf (strKind prog w) s.heap.objs.size (fun k' => decide (k' ∈ fm (sg x) x.cps.size)) (fm (sg x) x.cps.size).length →
      (∀ b o, b < s.heap.objs.size → s.heap.get? b = some o → h'.get? b = some o) → Q (.ref s.heap.objs.size) { s with heap := h', toks := tk }) :
    wpAny (model prog w) A (call (.type "set") [.str x t]) Q E s := by
  obtain ⟨c, tl, hmro⟩ := PySem.F.called_set.mro
  have hmade := PySem.F.called_set.made
  have hsub := PySem.F.called_set.sub
  refine wpAny_call (codeAny_of_tree ?_)
  show wpAny _ _ (callAny (.type "set") _) _ _ _
  refine wpAny_pure ⟨Code.quiet_builtin _ (by decide +kernel), codeAny_builtin PySem.F.entry_type_call ?_⟩
  rw [Around.under_plain (weight_type_call_type "set" [.str x t] []) rfl]
  have h1 := PySem.F.called_set.notType
  have h2 := PySem.F.called_set.canCreate
  have hct := PySem.F.typeCall_set_1 (.str x t)
  repeat (any_goals (first | assumption | wp_step))
  refine codeAny_mono (code_set_new_1 (.str x t) (E := E) (Q₁ := fun obj s₁ => ∃ led : Bool, obj = .ref s.heap.objs.size ∧ s₁ = { s with heap := s.heap.push { cls := .type "set", dict := none, data := .set #[] 0 (.fresh 0 0 led) } }) fun led => ⟨led, rfl, rfl⟩) fun r s₁ hr => ?_
  cases r with
  | error e => exact hr
  | ok fl =>
    cases fl with
    | ret obj =>
      obtain ⟨led, rfl, rfl⟩ := hr
      have hS : (s.heap.push { cls := .type "set", dict := none, data := .set #[] 0 (.fresh 0 0 led) }).get? s.heap.objs.size = some { cls := .type "set", dict := none, data := .set #[] 0 (.fresh 0 0 led) } := Heap.get?_push_size _ rfl
      have hT : Shared.TypeIs { s with heap := s.heap.push { cls := .type "set", dict := none, data := .set #[] 0 (.fresh 0 0 led) } } (.ref s.heap.objs.size) "set" := ⟨_, hS, rfl⟩
      have hli := PySem.F.called_set.init.lookup
      have hbi := PySem.F.called_set.init.bind (.ref s.heap.objs.size)
      repeat (any_goals (first | assumption | wp_step))
      refine codeAny_mono (codeAny_call_builtin (R := wants (fun r s₂ => r = .none ∧ ∃ h' tk, s₂ = { s with heap := h', toks := tk } ∧
          h'.SetOf (strKind prog w) s.heap.objs.size (fun k' => decide (k' ∈ fm (sg x) x.cps.size)) (fm (sg x) x.cps.size).length ∧
          (∀ b o, b < s.heap.objs.size → s.heap.get? b = some o → h'.get? b = some o)) E) PySem.F.called_set.init.plain PySem.F.entry_set_init (check_set_init_1 hT ?_)) fun r₂ s₂ hr₂ => ?_
      · have hsls := F.sub_str_set
        have hslf := F.sub_str_frozenset
        have hne : (Value.type "str" == Value.type "dict") = false := by decide
        unfold Builtin.«set.__init__» noKeywords Builtin.Frozenset.updateFrom
        generalize hPI : pyIter = PI
        wp_walk
        subst hPI
        refine wpAny_pyIter_str fun o St hW hSt => ?_
        refine wpAny_bind (wpAny_runValue ?_)
        have hh3 : A.in1.in1.in1.handled = none := by simp [hh]
        have hSf : s.heap.objs.size ∉ [(s.heap.push { cls := .type "set", dict := none, data := .set #[] 0 (.fresh 0 0 led) }).objs.size] := by
          rw [Heap.size_push]; simp only [List.mem_cons, List.not_mem_nil, or_false]
          exact Nat.ne_of_lt (Nat.lt_succ_self _)
        have hval : ∀ (i : Nat) (v : Value), SignAt x i v → ∃ t, v = .str (sg x i) t := fun i v hv => by
          obtain ⟨c, u, e, rfl⟩ := hv
          refine ⟨u, ?_⟩
          unfold sg
          rw [Array.getD_eq_getD_getElem?, e]; rfl
        refine set_loop_str ((hW _ hh3).toS) s.heap.objs.size
          hSf (sg x) hval hb (x.cps.size - 0) 0 _ (by omega) (Nat.zero_le _) hSt ?hS0 ?hR
        case hS0 =>
          have hget : ((s.heap.push { cls := .type "set", dict := none, data := .set #[] 0 (.fresh 0 0 led) }).push o).get? s.heap.objs.size
              = some { cls := .type "set", dict := none, data := .set #[] 0 (.fresh 0 0 led) } := Heap.get?_push_of_some _ hS
          exact PyProof.Rows.SetOf_congr ((PyProof.Rows.setObjOf_fresh (knd := strKind prog w) led).setOf hget (by unfold scanBound; omega)) (fun _ => by simp [fm]) rfl
        case hR =>
          intro s' hm hS'
          obtain ⟨h', g', d', tk', os'⟩ := s'
          have eg : g' = s.gens := hm.gens
          have ed : d' = s.drawn := hm.drawn
          have eo : os' = s.os := hm.os
          subst eg; subst ed; subst eo
          show wpAny _ _ _ _ _ _
          refine wpAny_pure ?_
          show wpAny _ _ (ret Value.none) _ _ _
          refine wpAny_pure ⟨rfl, h', tk', rfl, hS', fun b o hb e => ?_⟩
          have hb1 : b ≠ s.heap.objs.size := Nat.ne_of_lt hb
          have hb2 : b ≠ (s.heap.push { cls := .type "set", dict := none, data := .set #[] 0 (.fresh 0 0 led) }).objs.size := by
            rw [Heap.size_push]; exact Nat.ne_of_lt (Nat.lt_succ_of_lt hb)
          exact hm.heap b o (by simp only [List.mem_cons, List.mem_singleton, List.not_mem_nil, or_false, not_or]; exact ⟨hb1, hb2⟩) (Heap.get?_push_of_some _ (Heap.get?_push_of_some _ e))
      · cases r₂ with
        | error e => exact hr₂
        | ok fl₂ =>
          cases fl₂ with
          | ret r =>
            obtain ⟨rfl, h', tk, rfl, hS', hk'⟩ := hr₂
            repeat (any_goals (first | assumption | wp_step))
            exact h _ _ hS' hk'
          | _ => exact hr₂.elim
    | _ => exact hr.elim
end
end GS

namespace GS
open PySem PySem.Spec PyProof.Rows
namespace FB
theorem entry_set_sub : entryFor table "set.__sub__" = some Builtin.«frozenset.__sub__» :=
  entryFor_alias (id' := "frozenset.__sub__") (by kernel_rfl) rfl (by decide +kernel) (by kernel_rfl)
end FB

section
variable {prog : Program} {w : World} {K : Type} [DecidableEq K] [BEq K] [LawfulBEq K] {knd : KeyKind prog w K} {A : Around} {E : Value → Shared → Prop} {s : Shared}

theorem setsQuiet_true {Q : Bool → Shared → Prop} : ∀ (sets : List Addr), (∀ a ∈ sets, ∃ S n, s.heap.SetOf knd a S n) → Q true s → wpAny (model prog w) A (setsQuiet sets) Q E s := by
  intro sets hs h
  unfold setsQuiet
  refine wpAny_bind (wpAny_forIn_list _ (fun rest r s' => (∀ a ∈ rest, a ∈ sets) ∧ r = (none, ()) ∧ s' = s) _ ?_ ?_ sets _ ⟨fun _ h => h, rfl, rfl⟩)
  · rintro a rest r s' ⟨hm, rfl, rfl⟩
    obtain ⟨S, n, o, es, ep, t, ho, hex, hd, hel, _, _, hf, _⟩ := hs a (hm a List.mem_cons_self)
    refine wpAny_bind (wpAny_setEntries_of ho hd hf ?_)
    refine wpAny_bind (PySem.MeetsSeq2.wpAny_forIn_array _ (fun rest' r s'' => (∀ e ∈ rest', e ∈ es.toList) ∧ r = (none, ()) ∧ s'' = s') _ ?_ ?_ es _ ⟨fun _ h => h, rfl, rfl⟩)
    · rintro ⟨hh, x⟩ rest' r s'' ⟨hm', rfl, rfl⟩
      have hx := (hel _ (hm' _ List.mem_cons_self)).2
      cases x <;> first | exact wpAny_pure ⟨fun e he => hm' e (List.mem_cons_of_mem _ he), rfl, rfl⟩ | simp [Value.scannable] at hx
    · rintro r s'' ⟨_, rfl, rfl⟩
      exact wpAny_pure ⟨fun b hb => hm b (List.mem_cons_of_mem _ hb), rfl, rfl⟩
  · rintro r s' ⟨_, rfl, rfl⟩
    exact wpAny_pure h

end

section
variable {prog : Program} {w : World} {A : Around} {E : Value → Shared → Prop} {s : Shared}
theorem isAny {v : Value} {Q : Bool → Shared → Prop} (t : s.TypeIs v "set") (h : Q true s) : wpAny (model prog w) A (Builtin.Frozenset.isAnySet v) Q E s := by
  unfold Builtin.Frozenset.isAnySet
  exact wpAny_bind (wpAny_isInstance t sub_set_self (wpAny_pure h))
end
end GS

namespace GZ
open PySem

structure Nx (prog : Program) (w : World) (it : Addr) (fp : List Addr) (n : Nat) (P : Nat → Value → Prop) (St : Nat → Heap → Prop) : Prop where
  mem : it ∈ fp
  frame : ∀ i h h', St i h → (∀ b ∈ fp, ∀ o, h.get? b = some o → h'.get? b = some o) → St i h'
  obj : ∀ i h, St i h → ∀ b ∈ fp, ∃ o, h.get? b = some o ∧ o.cls ≠ .type "StopIteration"
  item : ∀ (A : Around) (i : Nat) (s : Shared) (Q : Value → Shared → Prop) (E : Value → Shared → Prop), i < n → St i s.heap →
    (∀ v h' tk, P i v → St (i + 1) h' → Heap.SameBut it s.heap h' → Q v { s with heap := h', toks := tk }) → wpAny (model prog w) A (Builtin.SmallTypes.nextOf (.ref it)) Q E s
  done : ∀ (A : Around) (i : Nat) (s : Shared) (Q : Value → Shared → Prop) (E : Value → Shared → Prop), A.handled = none → n ≤ i → St i s.heap →
    (∀ h' e, Heap.ExtBut it s.heap h' → (∃ o, h'.get? e = some o ∧ o.cls = .type "StopIteration") → E (.ref e) { s with heap := h' }) → wpAny (model prog w) A (Builtin.SmallTypes.nextOf (.ref it)) Q E s

theorem nx_list {prog : Program} {w : World} (it l : Addr) (hne : l ≠ it) (items : Array Value) :
    Nx prog w it [it, l] items.size (fun i v => items[i]? = some v) (fun i h => h.IsListIter it l i ∧ h.IsList l items) where
  mem := by simp
  frame := fun i h h' st k => ⟨st.1.at fun o e => k it (by simp) o e, st.2.at fun o e => k l (by simp) o e⟩
  obj := fun i h st b hb => by
    simp at hb
    rcases hb with rfl | rfl
    · obtain ⟨o, e, c, _⟩ := st.1; exact ⟨o, e, by rw [c]; decide⟩
    · obtain ⟨o, e, c, _⟩ := st.2; exact ⟨o, e, by rw [c]; decide⟩
  item := fun A i s Q E hi st hQ => wpAny_nextOf_list_item st.1 st.2 (Array.getElem?_eq_getElem hi) fun h' a b => hQ _ h' s.toks (Array.getElem?_eq_getElem hi) ⟨a, st.2.extBut b.extBut hne⟩ b
  done := fun A i s Q E hh hi st hE => wpAny_nextOf_list_end hh st.1 st.2 (Array.getElem?_eq_none hi) hE
theorem nx_ascii {prog : Program} {w : World} (it : Addr) (x : Str) (t : Tok) :
    Nx prog w it [it] x.cps.size (SignAt x) (fun i h => h.IsStrIter it "str_ascii_iterator" x t i) where
  mem := by simp
  frame := fun i h h' st k => by obtain ⟨o, e, r⟩ := st; exact ⟨o, k it (by simp) o e, r⟩
  obj := fun i h st b hb => by
    simp at hb; subst hb
    obtain ⟨o, e, c, _⟩ := st; exact ⟨o, e, by rw [c]; decide⟩
  item := fun A i s Q E hi st hQ => wpAny_nextOf_ascii_item st (Array.getElem?_eq_getElem hi) fun h' a b => hQ _ h' _ ⟨_, _, Array.getElem?_eq_getElem hi, rfl⟩ a b
  done := fun A i s Q E hh hi st hE => wpAny_nextOf_ascii_end hh st (Array.getElem?_eq_none hi) hE
noncomputable abbrev IsZ (h : Heap) (z TI TO : Addr) (f0 f1 : Value) : Prop :=
  h.get? z = some { cls := .type "zip", dict := none, data := .fields #[f0, f1, .bool false, .ref TI, .ref TO], slots := #[] }

structure ZA (z TI TO i1 i2 : Addr) (fp1 fp2 : List Addr) : Prop where
  TIz : TI ≠ z
  TOz : TO ≠ z
  TITO : TI ≠ TO
  z1 : z ∉ fp1
  z2 : z ∉ fp2
  o1 : TO ∉ fp1
  o2 : TO ∉ fp2
  t1 : TI ∉ fp1
  t2 : TI ∉ fp2
  i12 : i1 ∉ fp2
  i21 : i2 ∉ fp1

theorem fr_but {h h' : Heap} {a : Addr} {fp : List Addr} (k : Heap.SameBut a h h') (n : a ∉ fp) : ∀ b ∈ fp, ∀ o, h.get? b = some o → h'.get? b = some o :=
  fun b hb o e => k.extBut b o (fun q => n (q ▸ hb)) e

section
variable {prog : Program} {w : World} {A : Around} {E : Value → Shared → Prop} {s : Shared}
variable {z TI TO i1 i2 : Addr} {fp1 fp2 : List Addr} {n1 n2 : Nat} {P1 P2 : Nat → Value → Prop} {St1 St2 : Nat → Heap → Prop}

theorem zip_item_free (N1 : Nx prog w i1 fp1 n1 P1 St1) (N2 : Nx prog w i2 fp2 n2 P2 St2) (D : ZA z TI TO i1 i2 fp1 fp2) {k : Nat} {f1 a b : Value} {Q : Value → Shared → Prop}
    (hz : IsZ s.heap z TI TO .none f1) (hTI : IsPair s.heap TI (.ref i1) (.ref i2)) (hTO : IsPair s.heap TO a b) (h1 : St1 k s.heap) (h2 : St2 k s.heap) (hk1 : k < n1) (hk2 : k < n2)
    (hQ : ∀ x y h' tk, P1 k x → P2 k y → IsZ h' z TI TO (rawInt s.heap.objs.size) (.bool false) → IsPair h' TI (.ref i1) (.ref i2) → IsPair h' TO x y → St1 (k + 1) h' → St2 (k + 1) h' → IsPair h' s.heap.objs.size x y → h'.objs.size = s.heap.objs.size + 1 →
      (∀ c o, c ≠ z → c ≠ TO → c ≠ i1 → c ≠ i2 → s.heap.get? c = some o → h'.get? c = some o) → Q (.ref s.heap.objs.size) { s with heap := h', toks := tk }) :
    wpAny (model prog w) A (Builtin.«zip.__next__» ⟨[.ref z], []⟩) (fun fin s' => ∃ v, fin = .done (.ret v) ∧ Q v s') E s := by
  have n1z : i1 ≠ z := fun q => D.z1 (q ▸ N1.mem)
  have n2z : i2 ≠ z := fun q => D.z2 (q ▸ N2.mem)
  have n1o : i1 ≠ TO := fun q => D.o1 (q ▸ N1.mem)
  have n2o : i2 ≠ TO := fun q => D.o2 (q ▸ N2.mem)
  have n1t : i1 ≠ TI := fun q => D.t1 (q ▸ N1.mem)
  have n2t : i2 ≠ TI := fun q => D.t2 (q ▸ N2.mem)
  have n12 : i1 ≠ i2 := fun q => D.i12 (q ▸ N2.mem)
  show wpAny _ _ (field (.ref z) 2 >>= _) _ _ _
  refine wpAny_bind (wpAny_field hz rfl (x := .bool false) rfl ?_)
  show wpAny _ _ (field (.ref z) 3 >>= _) _ _ _
  refine wpAny_bind (wpAny_field hz rfl (x := .ref TI) rfl ?_)
  refine wpAny_bind (wpAny_seqItems hTI rfl ?_)
  show wpAny _ _ (Builtin.SmallTypes.ownedTupleIsFree (.ref z) >>= _) _ _ _
  refine wpAny_bind ?_
  unfold Builtin.SmallTypes.ownedTupleIsFree
  refine wpAny_bind (wpAny_field hz rfl (x := .none) rfl (wpAny_pure ?_))
  simp only [if_true]
  refine wpAny_bind (wpAny_rule ?_)
  refine wpAny_bind (wpAny_field hz rfl (x := .ref TO) rfl ?_)
  refine wpAny_bind (wpAny_setField_rec hz (by simp) fun hA hzA sA => ?_)
  replace hzA : IsZ hA z TI TO .ellipsis f1 := hzA
  refine wpAny_bind ?_
  simp only [List.zipIdx_cons, List.zipIdx_nil, List.forIn_cons, List.forIn_nil]
  refine wpAny_bind (wpAny_bind (wpAny_onRaise ?_))
  show wpAny _ _ (Builtin.SmallTypes.nextOf (.ref i1) >>= _) _ _ _
  refine wpAny_bind (N1.item _ k _ _ _ hk1 (N1.frame _ _ _ h1 (fr_but sA D.z1)) fun x hB tkB px st1B sB => wpAny_pure ?_)
  have oB : IsPair hB TO a b := sB.extBut _ _ n1o.symm (sA.extBut _ _ D.TOz hTO)
  refine wpAny_bind (wpAny_seqItems oB rfl ?_)
  refine wpAny_bind (wpAny_updateSeq_pair oB fun hC oC sC => ?_)
  replace oC : IsPair hC TO x b := oC
  refine wpAny_bind (wpAny_letGo (wpAny_pure ?_))
  refine wpAny_bind (wpAny_bind (wpAny_onRaise ?_))
  show wpAny _ _ (Builtin.SmallTypes.nextOf (.ref i2) >>= _) _ _ _
  have st2C : St2 k hC := N2.frame _ _ _ (N2.frame _ _ _ (N2.frame _ _ _ h2 (fr_but sA D.z2)) (fr_but sB D.i12)) (fr_but sC D.o2)
  refine wpAny_bind (N2.item _ k _ _ _ hk2 st2C fun y hE tkE py st2E sE => wpAny_pure ?_)
  have oE : IsPair hE TO x b := sE.extBut _ _ n2o.symm oC
  refine wpAny_bind (wpAny_seqItems oE rfl ?_)
  refine wpAny_bind (wpAny_updateSeq_pair oE fun hF oF sF => ?_)
  replace oF : IsPair hF TO x y := oF
  refine wpAny_bind (wpAny_letGo (wpAny_pure (wpAny_pure ?_)))
  refine wpAny_bind (wpAny_seqItems oF rfl ?_)
  refine wpAny_bind (wpAny_newTuple ?_)
  have hsz : hF.objs.size = s.heap.objs.size := by rw [sF.1, sE.1, sC.1, sB.1, sA.1]
  have hzF : IsZ hF z TI TO .ellipsis f1 := sF.extBut _ _ D.TOz.symm (sE.extBut _ _ n2z.symm (sC.extBut _ _ D.TOz.symm (sB.extBut _ _ n1z.symm hzA)))
  have hkF : ∀ c o, c ≠ z → c ≠ TO → c ≠ i1 → c ≠ i2 → s.heap.get? c = some o → hF.get? c = some o := fun c o c1 c2 c3 c4 e =>
    sF.extBut _ _ c2 (sE.extBut _ _ c4 (sC.extBut _ _ c2 (sB.extBut _ _ c3 (sA.extBut _ _ c1 e))))
  have s1F : St1 (k + 1) hF := N1.frame _ _ _ (N1.frame _ _ _ (N1.frame _ _ _ st1B (fr_but sC D.o1)) (fr_but sE D.i21)) (fr_but sF D.o1)
  have s2F : St2 (k + 1) hF := N2.frame _ _ _ st2E (fr_but sF D.o2)
  have hzlt : z < hF.objs.size := Heap.lt_size hzF
  show wpAny _ _ (Builtin.SmallTypes.ownedTupleHandOut (.ref z) (.ref hF.objs.size) >>= _) _ _ _
  refine wpAny_bind ?_
  unfold Builtin.SmallTypes.ownedTupleHandOut
  have hzG : IsZ (hF.push { cls := .type "tuple", data := .seq #[x, y] }) z TI TO .ellipsis f1 := Heap.get?_push_of_some _ hzF
  refine wpAny_bind (wpAny_setField_rec hzG (by simp) fun hI hzI sI => ?_)
  replace hzI : IsZ hI z TI TO (rawInt hF.objs.size) f1 := hzI
  refine wpAny_setField_rec hzI (by simp) fun hJ hzJ sJ => ?_
  replace hzJ : IsZ hJ z TI TO (rawInt hF.objs.size) (.bool false) := hzJ
  have up : ∀ c o, c ≠ z → hF.get? c = some o → hJ.get? c = some o := fun c o c1 e => sJ.extBut _ _ c1 (sI.extBut _ _ c1 (Heap.get?_push_of_some _ e))
  have hTJ : IsPair hJ hF.objs.size x y := sJ.extBut _ _ (Nat.ne_of_gt hzlt) (sI.extBut _ _ (Nat.ne_of_gt hzlt) (Heap.get?_push_size _ rfl))
  have hz8 : hJ.objs.size = hF.objs.size + 1 := by rw [sJ.1, sI.1, Heap.size_push]
  have u1 : ∀ b ∈ fp1, ∀ o, hF.get? b = some o → hJ.get? b = some o := fun b hb o e => up b o (fun q => D.z1 (q ▸ hb)) e
  have u2 : ∀ b ∈ fp2, ∀ o, hF.get? b = some o → hJ.get? b = some o := fun b hb o e => up b o (fun q => D.z2 (q ▸ hb)) e
  rw [hsz] at hzJ hTJ hz8
  refine wpAny_pure ⟨_, rfl, ?_⟩
  show Q (.ref hF.objs.size) _
  rw [hsz]
  exact hQ x y hJ _ px py hzJ (up _ _ D.TIz (hkF _ _ D.TIz D.TITO n1t.symm n2t.symm hTI)) (up _ _ D.TOz oF) (N1.frame _ _ _ s1F u1) (N2.frame _ _ _ s2F u2) hTJ hz8 fun c o c1 c2 c3 c4 e => up c o c1 (hkF c o c1 c2 c3 c4 e)

theorem zip_end_free (N1 : Nx prog w i1 fp1 n1 P1 St1) (D : ZA z TI TO i1 i2 fp1 fp2) {k : Nat} {f1 a b : Value} {Q : PySem.Fin → Shared → Prop} (hh : A.handled = none)
    (hz : IsZ s.heap z TI TO .none f1) (hTI : IsPair s.heap TI (.ref i1) (.ref i2)) (h1 : St1 k s.heap) (hk : n1 ≤ k)
    (hE : ∀ h' e, (∀ c o, c ≠ z → c ≠ i1 → s.heap.get? c = some o → h'.get? c = some o) → (∃ o, h'.get? e = some o ∧ o.cls = .type "StopIteration") → E (.ref e) { s with heap := h' }) :
    wpAny (model prog w) A (Builtin.«zip.__next__» ⟨[.ref z], []⟩) Q E s := by
  have n1z : i1 ≠ z := fun q => D.z1 (q ▸ N1.mem)
  show wpAny _ _ (field (.ref z) 2 >>= _) _ _ _
  refine wpAny_bind (wpAny_field hz rfl (x := .bool false) rfl ?_)
  show wpAny _ _ (field (.ref z) 3 >>= _) _ _ _
  refine wpAny_bind (wpAny_field hz rfl (x := .ref TI) rfl ?_)
  refine wpAny_bind (wpAny_seqItems hTI rfl ?_)
  show wpAny _ _ (Builtin.SmallTypes.ownedTupleIsFree (.ref z) >>= _) _ _ _
  refine wpAny_bind ?_
  unfold Builtin.SmallTypes.ownedTupleIsFree
  refine wpAny_bind (wpAny_field hz rfl (x := .none) rfl (wpAny_pure ?_))
  simp only [if_true]
  refine wpAny_bind (wpAny_rule ?_)
  refine wpAny_bind (wpAny_field hz rfl (x := .ref TO) rfl ?_)
  refine wpAny_bind (wpAny_setField_rec hz (by simp) fun hA hzA sA => ?_)
  replace hzA : IsZ hA z TI TO .ellipsis f1 := hzA
  refine wpAny_bind ?_
  simp only [List.zipIdx_cons, List.zipIdx_nil, List.forIn_cons, List.forIn_nil]
  refine wpAny_bind (wpAny_bind (wpAny_onRaise ?_))
  show wpAny _ _ (Builtin.SmallTypes.nextOf (.ref i1) >>= _) _ _ _
  refine wpAny_bind (N1.done _ k _ _ _ hh hk (N1.frame _ _ _ h1 (fr_but sA D.z1)) fun hB e sB he => ?_)
  obtain ⟨oe, hoe, hce⟩ := he
  have hzB : IsZ hB z TI TO .ellipsis f1 := sB _ _ n1z.symm hzA
  have hez : e ≠ z := fun x => by subst x; rw [hzB] at hoe; cases hoe; simp at hce
  exact wpAny_setField_rec hzB (by simp) fun hC _ sC => hE hC e (fun c o c1 c2 x => sC.extBut _ _ c1 (sB _ _ c2 (sA.extBut _ _ c1 x))) ⟨oe, sC.extBut _ _ hez hoe, hce⟩
theorem next_item {Q : Option Value → Shared → Prop} (hT : s.TypeIs (.ref z) "zip") (h : wpAny (model prog w) A.in1 (Builtin.«zip.__next__» ⟨[.ref z], []⟩) (fun fin s' => ∃ v, fin = .done (.ret v) ∧ Q (some v) s') (fun _ _ => False) s) :
    wpAny (model prog w) A (pyNext (.ref z)) Q E s := by
  unfold pyNext
  exact wpAny_bind (wpAny_attempt (wpAny_callSpecial?_slot (name := Str.ofString "__next__") hT PySem.F.slot_zip_next
    (wpAny_call_entry PySem.F.slot_zip_next hT PySem.F.entry_zip_next (wpAny_mono h (fun fin s' ⟨v, e, q⟩ => ⟨v, e, wpAny_pure q⟩) fun _ _ f => f.elim) (PySem.F.args_zip_next_1 _))))
theorem next_end {Q : Option Value → Shared → Prop} (hT : s.TypeIs (.ref z) "zip") (h : wpAny (model prog w) A.in1 (Builtin.«zip.__next__» ⟨[.ref z], []⟩) (fun _ _ => False) (fun e s' => ∃ x o, e = .ref x ∧ s'.heap.get? x = some o ∧ o.cls = .type "StopIteration" ∧ Q none s') s) :
    wpAny (model prog w) A (pyNext (.ref z)) Q E s := by
  unfold pyNext
  refine wpAny_bind (wpAny_attempt (wpAny_callSpecial?_slot (name := Str.ofString "__next__") hT PySem.F.slot_zip_next
    (wpAny_call_entry PySem.F.slot_zip_next hT PySem.F.entry_zip_next (wpAny_mono h (fun _ _ f => f.elim) fun e s' he => ?_) (PySem.F.args_zip_next_1 _))))
  obtain ⟨x, o, rfl, ho, hc, q⟩ := he
  refine wpAny_bind (wpAny_isInstance (T := "StopIteration") (b := true) ⟨o, ho, hc⟩ isSubtype_stop ?_)
  exact wpAny_pure q
theorem go_zip {elts : List Expr} {x1} {pos : Pos} {T : Addr} {f1 : Value} {Q : Unit → Shared → Prop} (hz : IsZ s.heap z TI TO (rawInt T) f1)
    (hQ : ∀ h', IsZ h' z TI TO .none f1 → Heap.SameBut z s.heap h' → Q () { s with heap := h' }) :
    wpAny (model prog w) A (letOwnedTupleGo (.Tuple elts x1 pos) (.ref z) (.ref T)) Q E s := by
  unfold letOwnedTupleGo
  refine wpAny_bind (wpAny_load hz ?_)
  show wpAny _ _ (if (["enumerate", "zip", "dict_itemiterator", "dict_reverseitemiterator", "odict_iterator", "itertools.zip_longest", "itertools.pairwise"].contains "zip" &&
      (#[rawInt T, f1, .bool false, .ref TI, .ref TO] : Array Value)[0]? == some (rawInt T)) = true then _ else _) Q E s
  rw [if_pos (by simp)]
  refine wpAny_bind (wpAny_rule ?_)
  show wpAny _ _ (setField (.ref z) 0 .none) Q E s
  exact wpAny_setField_rec hz (by simp) fun h' hz' hs' => hQ h' hz' hs'
theorem iter_zip {f0 f1 : Value} {Q : Value → Shared → Prop} (hz : IsZ s.heap z TI TO f0 f1) (h : Q (.ref z) s) : wpAny (model prog w) A (pyIter (.ref z)) Q E s := by
  have hT : s.TypeIs (.ref z) "zip" := ⟨_, hz, rfl⟩
  refine wpAny_pyIter_slot hT PySem.F.slot_zip_iter (wpAny_call_entry PySem.F.slot_zip_iter hT PySem.F.entry_zip_iter ?_ (PySem.F.args_zip_iter_1 _))
  show wpAny _ _ (ret (.ref z)) _ _ s
  exact wpAny_pure ⟨_, rfl, "zip", _, hT, PySem.F.slot_zip_next.lookup, h⟩
end

noncomputable def IterTo (v : Value) (pre : Heap → Prop) (o : Obj) : Prop :=
  ∀ (prog : Program) (w : World) (A : Around) (E : Value → Shared → Prop) (s : Shared) (Q : Value → Shared → Prop), pre s.heap → Q (.ref s.heap.objs.size) { s with heap := s.heap.push o } → wpAny (model prog w) A (pyIter v) Q E s
theorem iterTo_list (l : Addr) (xs : Array Value) : IterTo (.ref l) (fun h => h.IsList l xs) { cls := .type "list_iterator", data := .fields #[.ref l, .int 0 0] } :=
  fun _ _ _ _ _ _ hl q => wpAny_pyIter_list hl q
theorem iterTo_ascii (x : Str) (t : Tok) (ha : x.cps.all (· < 128) = true) : IterTo (.str x t) (fun _ => True) { cls := .type "str_ascii_iterator", data := .fields #[.str x t, .int 0 0] } :=
  fun _ _ _ _ _ _ _ q => wpAny_pyIter_ascii ha q

noncomputable abbrev zA (h : Heap) (o1 : Obj) : Heap := h.push o1
noncomputable abbrev zB (h : Heap) (o1 o2 : Obj) : Heap := (zA h o1).push o2
noncomputable abbrev zC (h : Heap) (o1 o2 : Obj) : Heap := (zB h o1 o2).push { cls := .type "tuple", data := .seq #[.ref h.objs.size, .ref (zA h o1).objs.size] }
noncomputable abbrev zD (h : Heap) (o1 o2 : Obj) : Heap := (zC h o1 o2).push { cls := .type "tuple", data := .seq #[.none, .none] }
noncomputable abbrev zE (h : Heap) (o1 o2 : Obj) : Heap := (zD h o1 o2).push { cls := .type "zip", data := .fields #[.none, .bool false, .bool false, .ref (zB h o1 o2).objs.size, .ref (zC h o1 o2).objs.size] }

theorem meets_zip {v1 v2 : Value} {p1 p2 : Heap → Prop} {o1 o2 : Obj} (I1 : IterTo v1 p1 o1) (I2 : IterTo v2 p2 o2) (hp : ∀ h o, p2 h → p2 (h.push o)) :
    Meets (Builtin.«zip.__new__» ⟨[.type "zip", v1, v2], []⟩) (fun _ R s => p1 s.heap ∧ p2 s.heap ∧
      R (.ok (.ret (.ref (zD s.heap o1 o2).objs.size))) { s with heap := zE s.heap o1 o2 }) :=
  .of_wp fun prog w A R s h => by
    obtain ⟨hp', g, d, tk, os⟩ := s; obtain ⟨hl1, hl2, h⟩ := h
    have hsub := sub_zip
    have k1 : ∀ {A : Around} {E : Value → Shared → Prop} {Q : Value → Shared → Prop}, Q (.ref hp'.objs.size) ⟨hp'.push o1, g, d, tk, os⟩ → wpAny (model prog w) A (pyIter v1) Q E ⟨hp', g, d, tk, os⟩ := fun q => I1 prog w _ _ ⟨hp', g, d, tk, os⟩ _ hl1 q
    have k2 : ∀ {A : Around} {E : Value → Shared → Prop} {Q : Value → Shared → Prop}, Q (.ref (hp'.push o1).objs.size) ⟨(hp'.push o1).push o2, g, d, tk, os⟩ → wpAny (model prog w) A (pyIter v2) Q E ⟨hp'.push o1, g, d, tk, os⟩ := fun q => I2 prog w _ _ ⟨hp'.push o1, g, d, tk, os⟩ _ (hp _ _ hl2) q
    wp_walk using k1, k2
    exact ⟨_, rfl, h⟩

section
variable {prog : Program} {w : World} {A : Around} {E : Value → Shared → Prop} {s : Shared}
theorem call_zip {v1 v2 : Value} {p1 p2 : Heap → Prop} {o1 o2 : Obj} {Q : Value → Shared → Prop} (I1 : IterTo v1 p1 o1) (I2 : IterTo v2 p2 o2) (hp : ∀ h o, p2 h → p2 (h.push o)) (f1 : o1.isFreed = false) (f2 : o2.isFreed = false) (h1 : p1 s.heap) (h2 : p2 s.heap)
    (h : ∀ h', IsZ h' (s.heap.objs.size + 4) (s.heap.objs.size + 2) (s.heap.objs.size + 3) .none (.bool false) → IsPair h' (s.heap.objs.size + 2) (.ref s.heap.objs.size) (.ref (s.heap.objs.size + 1)) →
      IsPair h' (s.heap.objs.size + 3) .none .none → h'.get? s.heap.objs.size = some o1 → h'.get? (s.heap.objs.size + 1) = some o2 → h'.objs.size = s.heap.objs.size + 5 →
      (∀ c o, s.heap.get? c = some o → h'.get? c = some o) → Q (.ref (s.heap.objs.size + 4)) { s with heap := h' }) :
    wpAny (model prog w) A (call (.type "zip") [v1, v2]) Q E s := by
  refine callType_new PySem.F.called_zip (by decide) (PySem.F.typeCall_zip_2 _ _) (PySem.F.newCall_zip_2 _ _) (fun obj => PySem.F.args_object_init_3 obj _ _) PySem.F.entry_zip_new
    (meets_zip I1 I2 hp) ⟨h1, h2, ?_⟩
  have z1 : (zA s.heap o1).objs.size = s.heap.objs.size + 1 := Heap.size_push ..
  have z2 : (zB s.heap o1 o2).objs.size = s.heap.objs.size + 2 := by rw [Heap.size_push, z1]
  have z3 : (zC s.heap o1 o2).objs.size = s.heap.objs.size + 3 := by rw [Heap.size_push, z2]
  have z4 : (zD s.heap o1 o2).objs.size = s.heap.objs.size + 4 := by rw [Heap.size_push, z3]
  have z5 : (zE s.heap o1 o2).objs.size = s.heap.objs.size + 5 := by rw [Heap.size_push, z4]
  have g5 : (zE s.heap o1 o2).get? (zD s.heap o1 o2).objs.size = some _ := Heap.get?_push_size _ rfl
  have g4 : (zE s.heap o1 o2).get? (zC s.heap o1 o2).objs.size = some _ := Heap.get?_push_of_some _ (Heap.get?_push_size _ rfl)
  have g3 : (zE s.heap o1 o2).get? (zB s.heap o1 o2).objs.size = some _ := Heap.get?_push_of_some _ (Heap.get?_push_of_some _ (Heap.get?_push_size _ rfl))
  have g2 : (zE s.heap o1 o2).get? (zA s.heap o1).objs.size = some _ := Heap.get?_push_of_some _ (Heap.get?_push_of_some _ (Heap.get?_push_of_some _ (Heap.get?_push_size _ f2)))
  have g1 : (zE s.heap o1 o2).get? s.heap.objs.size = some _ := Heap.get?_push_of_some _ (Heap.get?_push_of_some _ (Heap.get?_push_of_some _ (Heap.get?_push_of_some _ (Heap.get?_push_size _ f1))))
  show _ ∧ _
  rw [z2, z3, z4] at g5
  rw [z1, z2] at g3
  rw [z3] at g4
  rw [z1] at g2
  rw [z4]
  exact ⟨⟨_, g5, rfl⟩, h _ g5 g3 g4 g1 g2 z5 fun c o x =>
    Heap.get?_push_of_some _ (Heap.get?_push_of_some _ (Heap.get?_push_of_some _ (Heap.get?_push_of_some _ (Heap.get?_push_of_some _ x))))⟩
end

end GZ

namespace GZ
open PySem

namespace F
end F

section
variable {prog : Program} {w : World} {A : Around} {E : Value → Shared → Prop} {s : Shared} {z TI TO : Addr}
end
section
variable {prog : Program} {w : World} {K : Type} [DecidableEq K] {knd : KeyKind prog w K} {A : Around} {s : Shared} {z TI TO d : Addr}
variable {i1 i2 : Addr} {fp1 fp2 : List Addr} {n : Nat} {P1 P2 : Nat → Value → Prop} {St1 St2 : Nat → Heap → Prop}
noncomputable def Zs (d z TI TO i1 i2 : Addr) (St1 St2 : Nat → Heap → Prop) (i : Nat) (h : Heap) : Prop :=
  IsPair h TI (.ref i1) (.ref i2) ∧ St1 i h ∧ St2 i h ∧ ((IsZ h z TI TO .none (.bool false) ∧ ∃ a b, IsPair h TO a b) ∨ ∃ (T : Addr) (oT : Obj) (f : Bool), IsZ h z TI TO (rawInt T) (.bool f) ∧ h.get? T = some oT ∧ T ≠ z ∧ T ≠ i1 ∧ T ≠ i2 ∧ T ≠ d)
theorem Zs.frame (N1 : Nx prog w i1 fp1 n P1 St1) (N2 : Nx prog w i2 fp2 n P2 St2) {i : Nat} {h h' : Heap} (st : Zs d z TI TO i1 i2 St1 St2 i h) (k : ∀ b o, b ≠ d → h.get? b = some o → h'.get? b = some o)
    (e1 : d ∉ fp1) (e2 : d ∉ fp2) (ez : d ≠ z) (et : d ≠ TI) (eo : d ≠ TO) : Zs d z TI TO i1 i2 St1 St2 i h' := by
  obtain ⟨hTI, h1, h2, hz⟩ := st
  refine ⟨k _ _ et.symm hTI, N1.frame _ _ _ h1 fun b hb o e => k b o (fun q => e1 (q ▸ hb)) e, N2.frame _ _ _ h2 fun b hb o e => k b o (fun q => e2 (q ▸ hb)) e, ?_⟩
  rcases hz with ⟨hz, a, b, hTO⟩ | ⟨T, oT, f, hz, hT, t1, t2, t3, t4⟩
  · exact .inl ⟨k _ _ ez.symm hz, a, b, k _ _ eo.symm hTO⟩
  · exact .inr ⟨T, oT, f, k _ _ ez.symm hz, k _ _ t4 hT, t1, t2, t3, t4⟩

end
end GZ

namespace GZ
open PySem
section
variable {prog : Program} {w : World} {K : Type} [DecidableEq K] {knd : KeyKind prog w K} {A : Around} {E : Value → Shared → Prop} {s : Shared} {z TI TO : Addr}
variable {i1 i2 : Addr} {fp1 fp2 : List Addr} {n : Nat} {P1 P2 : Nat → Value → Prop} {St1 St2 : Nat → Heap → Prop}
end
end GZ

namespace GT
open PySem PySem.Builtin PySem.Builtin.Str

noncomputable def tx (l : List Nat) : Str := ⟨l.toArray⟩
theorem tx_cps (l : List Nat) : (tx l).cps.toList = l := rfl
theorem tx_len (l : List Nat) : (tx l).length = l.length := by simp [tx, Str.length]
theorem tx_inj {a b : List Nat} (h : tx a = tx b) : a = b := by
  have := congrArg (fun x : Str => x.cps.toList) h
  exact this
theorem tx_app (a b : List Nat) : tx a ++ tx b = tx (a ++ b) := by
  show (⟨a.toArray ++ b.toArray⟩ : Str) = ⟨(a ++ b).toArray⟩
  simp
theorem cnt_count (c : Nat) : ∀ l : List Nat, PyProof.Rows.cnt c l = (l.count c : Int)
  | [] => rfl
  | n :: r => by
    rw [PyProof.Rows.cnt_cons, cnt_count c r, List.count_cons]
    by_cases h : n = c <;> simp [h] <;> omega
theorem count_tx (l : List Nat) (c : Nat) : Txt.count (tx l) (tx [c]) = (l.count c : Int) := by
  have := PyProof.Rows.count_is (tx l) c
  exact this.trans (cnt_count c l)
theorem in_tx (l : List Nat) (c : Nat) : (!(occurrences (tx l) (tx [c]) 0 (tx l).length 1).isEmpty) = decide (c ∈ l) := StrLaws.found_one (tx l) c
theorem index_tx {l : List Nat} {c i : Nat} (h : l[i]? = some c) (hn : ∀ k, k < i → l[k]? ≠ some c) : ∃ rest, occurrences (tx l) (tx [c]) 0 (tx l).length 1 = i :: rest := by
  have at_iff : ∀ k, StrLaws.At (tx l) (tx [c]) (tx l).length k ↔ l[k]? = some c := fun k => StrLaws.subAt_one (tx l) c k
  rcases StrLaws.occ_head (tx l) (tx [c]) 1 (Nat.le_refl _) with ⟨_, h0⟩ | ⟨j, r, e, h1, h2⟩
  · exact absurd ((at_iff i).mpr h) (h0 i)
  · have hj := (at_iff j).mp h1
    have e1 : ¬ j < i := fun q => hn j q hj
    have e2 : ¬ i < j := fun q => h2 i q ((at_iff i).mpr h)
    have : j = i := by omega
    subst this
    exact ⟨r, e⟩
theorem foldl_app (xs : List (List Nat)) : ∀ acc : List Nat, (xs.map tx).foldl (fun a p => a ++ (tx []).cps ++ p.cps) acc.toArray = (acc ++ xs.flatten).toArray := by
  induction xs with
  | nil => intro acc; simp
  | cons x xs ih =>
    intro acc
    rw [List.map_cons, List.foldl_cons]
    have e : acc.toArray ++ (tx []).cps ++ (tx x).cps = (acc ++ x).toArray := by
      show acc.toArray ++ ([] : List Nat).toArray ++ x.toArray = _
      simp
    rw [e, ih, List.flatten_cons, List.append_assoc]
theorem join_tx (ls : List (List Nat)) : Txt.join (tx []) (ls.map tx) = tx ls.flatten := by
  unfold Txt.join glued
  cases ls with
  | nil => rfl
  | cons x xs =>
    show (⟨((xs.map tx)).foldl (fun acc p => acc ++ (tx []).cps ++ p.cps) (tx x).cps⟩ : Str) = _
    have := foldl_app xs x
    rw [show (tx x).cps = x.toArray from rfl, this]
    rfl
theorem foldl_rep (l : List Nat) : ∀ (n : Nat) (acc : List Nat), (List.replicate n l.toArray).foldl (· ++ ·) acc.toArray = (acc ++ (List.replicate n l).flatten).toArray
  | 0, acc => by simp
  | n + 1, acc => by
    rw [List.replicate_succ, List.foldl_cons]
    have e : acc.toArray ++ l.toArray = (acc ++ l).toArray := by simp
    rw [e, foldl_rep l n (acc ++ l), List.replicate_succ, List.flatten_cons, List.append_assoc]
theorem mul_tx (l : List Nat) (n : Nat) : Txt.mul (tx l) (n : Int) = tx (List.replicate n l).flatten := by
  unfold Txt.mul
  by_cases h : (n : Int) < 1
  · rw [if_pos h]
    have : n = 0 := by omega
    subst this; rfl
  · rw [if_neg h]
    split
    · rename_i h2
      rw [Bool.or_eq_true] at h2
      rcases h2 with h2 | h2
      · have : n = 1 := by have := eq_of_beq h2; omega
        subst this; simp
      · have : l = [] := by
          have := eq_of_beq h2
          rw [tx_len] at this
          exact List.length_eq_zero_iff.mp this
        subst this
        have : ∀ k : Nat, (List.replicate k ([] : List Nat)).flatten = [] := fun k => by induction k with | zero => rfl | succ k ih => simp [List.replicate_succ]
        rw [this]
    · have := foldl_rep l n []
      rw [Int.toNat_natCast]
      show (⟨(List.replicate n l.toArray).foldl (· ++ ·) ([] : List Nat).toArray⟩ : Str) = _
      rw [this]
      rfl
theorem sliceIdx_clip (a b n : Nat) : strSliceIndices (some (a : Int)) (some (b : Int)) 1 n = strSliceIndices (some ((min a n : Nat) : Int)) (some ((min b n : Nat) : Int)) 1 n := by
  unfold strSliceIndices
  have e : ∀ k : Nat, max 0 (min ((if (k : Int) < 0 then (k : Int) + n else k)) (n : Int)) = max 0 (min ((if ((min k n : Nat) : Int) < 0 then ((min k n : Nat) : Int) + n else ((min k n : Nat) : Int))) (n : Int)) := fun k => by
    rw [if_neg (by omega), if_neg (by omega)]
    omega
  have h1 : (1 : Int) > 0 := by decide
  simp only [h1, if_true]
  rw [e a, e b]
theorem slice_tx (l : List Nat) (a b : Nat) : Txt.slice (tx l) (some (a : Int)) (some (b : Int)) = tx ((l.take b).drop a) := by
  show StrLaws.sliceText (tx l) (some (a : Int)) (some (b : Int)) = _
  have e : StrLaws.sliceText (tx l) (some (a : Int)) (some (b : Int)) = StrLaws.sliceText (tx l) (some ((min a (tx l).length : Nat) : Int)) (some ((min b (tx l).length : Nat) : Int)) := by
    unfold StrLaws.sliceText
    rw [sliceIdx_clip a b]
  rw [e, tx_len]
  by_cases h : min a l.length ≤ min b l.length
  · rw [StrLaws.sliceText_nat (tx l) h (by rw [tx_len]; omega), tx_cps]
    show tx _ = tx _
    congr 1
    apply List.ext_getElem?
    intro k
    rw [List.getElem?_take, List.getElem?_drop, List.getElem?_drop, List.getElem?_take]
    by_cases h1 : k < min b l.length - min a l.length
    · rw [if_pos h1]
      by_cases h2 : a ≤ l.length
      · rw [if_pos (by omega)]
        congr 1; omega
      · rw [if_pos (by omega)]
        rw [List.getElem?_eq_none (by omega), List.getElem?_eq_none (by omega)]
    · rw [if_neg h1]
      split
      · rw [List.getElem?_eq_none (by omega)]
      · rfl
  · have hd : (l.take b).drop a = [] := List.drop_eq_nil_of_le (by rw [List.length_take]; omega)
    rw [hd]
    unfold StrLaws.sliceText
    have z : (strSliceIndices (some ((min a l.length : Nat) : Int)) (some ((min b l.length : Nat) : Int)) 1 (tx l).length) = [] := by
      rw [tx_len]
      unfold strSliceIndices
      have h1 : (1 : Int) > 0 := by decide
      simp only [h1, if_true]
      rw [if_neg (by omega), if_neg (by omega)]
      unfold sliceRange
      simp only [h1, if_true]
      rw [if_neg (by omega)]
      rfl
    rw [z]
    have hl : l.length ≠ 0 := by omega
    rw [if_neg (by simp [tx_len]; omega)]
    rfl
theorem slice_to (l : List Nat) (b : Nat) : Txt.slice (tx l) none (some (b : Int)) = tx (l.take b) := by
  have := slice_tx l 0 b
  rw [List.drop_zero] at this
  rw [← this]
  show StrLaws.sliceText _ _ _ = StrLaws.sliceText _ _ _
  unfold StrLaws.sliceText
  rw [StrLaws.sliceIdx_none_lo]
  rfl
theorem slice_from (l : List Nat) (a : Nat) : Txt.slice (tx l) (some (a : Int)) none = tx (l.drop a) := by
  have := slice_tx l a l.length
  rw [List.take_length] at this
  rw [← this]
  show StrLaws.sliceText _ _ _ = StrLaws.sliceText _ _ _
  unfold StrLaws.sliceText
  rw [StrLaws.sliceIdx_none_hi, tx_len]
end GT

namespace L2
open PySem PySem.Spec PyProof.Rows

noncomputable def ccx (X : Cx) (scope : Scope) (cl : List (Str × Addr)) (C : Addr) (ns : List Str) (fp : List Addr) (s : Shared) (H : Hp) : Cx where
  prog := X.prog
  w := X.w
  K := X.K
  mg := X.mg
  base := X.base
  A := X.A
  N := ns
  s₀ := s
  H₀ := H
  env := compEnvC scope cl C X.env
  outer := X.stack
  stack := X.stack
  ex := fp
  fn := fun _ => false
  calm := X.calm
  pn := []
  xe := fun _ _ => False

theorem closure_of (scope : Scope) (env : Env) : (∀ x, (x, NameKind.free) ∈ scope.names → ∃ c, env.cells.lookup x = some c) →
    ∃ cl, closureFor scope env = pure cl ∧ (∀ x c, (x, c) ∈ cl → env.cells.lookup x = some c) ∧ ∀ x, (x, NameKind.free) ∈ scope.names → ∃ c, (x, c) ∈ cl := by
  intro h
  unfold closureFor
  have key : ∀ (l : List (Str × NameKind)) (acc : List (Str × Addr)), (∀ x, (x, NameKind.free) ∈ l → ∃ c, env.cells.lookup x = some c) → (∀ x c, (x, c) ∈ acc → env.cells.lookup x = some c) →
      ∃ cl, (forIn l acc fun (p : Str × NameKind) cs => (do
        if p.2 == .free then do
          let a ← cellOf env p.1
          pure (ForInStep.yield ((p.1, a) :: cs))
        else pure (ForInStep.yield cs) : Sem (ForInStep (List (Str × Addr))))) = pure cl ∧ (∀ x c, (x, c) ∈ cl → env.cells.lookup x = some c) ∧ (∀ x, (x, NameKind.free) ∈ l → ∃ c, (x, c) ∈ cl) ∧ ∀ p ∈ acc, p ∈ cl := by
    intro l
    induction l with
    | nil => intro acc _ ha; exact ⟨acc, rfl, ha, fun x hx => by simp at hx, fun _ h => h⟩
    | cons p l ih =>
      intro acc hl ha
      obtain ⟨x, k⟩ := p
      rw [List.forIn_cons]
      by_cases hk : k = .free
      · subst hk
        obtain ⟨c, hc⟩ := hl x List.mem_cons_self
        obtain ⟨cl, e, h1, h2, h3⟩ := ih ((x, c) :: acc) (fun y hy => hl y (List.mem_cons_of_mem _ hy)) fun y d hd => by
          rcases List.mem_cons.mp hd with q | q
          · cases q; exact hc
          · exact ha y d q
        refine ⟨cl, ?_, h1, fun y hy => ?_, fun q hq => h3 q (List.mem_cons_of_mem _ hq)⟩
        · simp only [beq_self_eq_true, if_true]
          have ec : cellOf env x = pure c := by unfold cellOf; rw [hc]
          rw [ec, pure_bind, pure_bind]
          exact e
        · rcases List.mem_cons.mp hy with q | q
          · cases q; exact ⟨c, h3 _ List.mem_cons_self⟩
          · exact h2 y q
      · obtain ⟨cl, e, h1, h2, h3⟩ := ih acc (fun y hy => hl y (List.mem_cons_of_mem _ hy)) ha
        have hb : (k == NameKind.free) = false := by simpa using hk
        refine ⟨cl, ?_, h1, fun y hy => ?_, h3⟩
        · simp only [hb, Bool.false_eq_true, if_false]
          rw [pure_bind]
          exact e
        · rcases List.mem_cons.mp hy with q | q
          · cases q; exact absurd rfl hk
          · exact h2 y q
  obtain ⟨cl, e, h1, h2, _⟩ := key scope.names [] h fun _ _ hd => by simp at hd
  exact ⟨cl, by rw [show (fun (p : Str × NameKind) cs => (do
        if p.2 == .free then do
          let a ← cellOf env p.1
          pure (ForInStep.yield ((p.1, a) :: cs))
        else pure (ForInStep.yield cs) : Sem (ForInStep (List (Str × Addr))))) = _ from rfl] at e; exact (congrArg (· >>= pure) e).trans (by rw [pure_bind]), h1, h2⟩

theorem lookup_of_mem {α : Type} : ∀ {l : List (Str × α)} {x : Str} {c : α}, (x, c) ∈ l → ∃ c', l.lookup x = some c' ∧ (x, c') ∈ l
  | [], _, _, h => by simp at h
  | (y, d) :: l, x, c, h => by
    by_cases e : x = y
    · subst e; exact ⟨d, by simp [List.lookup_cons], List.mem_cons_self⟩
    · have h' : (x, c) ∈ l := by
        rcases List.mem_cons.mp h with q | q
        · cases q; exact absurd rfl e
        · exact q
      obtain ⟨c', e1, e2⟩ := lookup_of_mem h'
      have hb : (x == y) = false := by simpa using e
      exact ⟨c', by rw [List.lookup_cons, hb]; exact e1, List.mem_cons_of_mem _ e2⟩

structure CScope (X : Cx) (scope : Scope) (ns : List Str) (nt : Nat) (cap : List Nat) : Prop where
  kind : scope.kind = .function
  nocell : ∀ y ∈ scope.names, y.2 ≠ .cell
  names : ∀ y ∈ scope.names, y.2 = .local → scope.names.lookup y.1 = some .local
  frees : ∀ y ∈ scope.names, y.2 = .free → X.env.kindOf y.1 = some .cell ∨ X.env.kindOf y.1 = some .free
  nlen : ns.length = nt + cap.length
  caps : ∀ (j k : Nat), cap[j]? = some k → ∃ x, X.N[k]? = some x ∧ ns[nt + j]? = some x ∧ Vis X.env.scope x ∧ (X.env.kindOf x = some .cell ∨ X.env.kindOf x = some .free) ∧ scope.names.lookup x = some .free

noncomputable def cst (nt : Nat) (cap : List Nat) (σ : St) : St := List.replicate nt none ++ cap.map fun k => (σ[k]?).getD none

noncomputable def PIf (X : Cx) (ifs : List Expr) (t : TT) : Prop :=
  ∀ (pins : List (Addr × Obj)) (s : Shared) (σ : St) (H : Hp) (Q : Bool → Hp → Prop), Inv X pins σ H s → t σ H Q →
    wpAny (model X.prog X.w) X.A (forIn ifs true fun c r => if r = true then do let ok ← isTrue c X.env (eval c X.env); pure (ForInStep.yield ok) else pure (ForInStep.yield r)) (TP X pins σ Q) X.xe s
noncomputable def tYes : TT := fun _ H Q => Q true H
theorem pif_nil {X : Cx} : PIf X [] tYes := fun pins s σ H Q I h => wpAny_tests_nil ⟨H, I, h⟩
theorem pif_one {X : Cx} {c : Expr} {t : TT} (h : PT X c t) : PIf X [c] t := fun pins s σ H Q I q => wpAny_tests_one (h pins s σ H Q I q)

noncomputable def LCB (nt : Nat) (cap : List Nat) (g : TG) (tc : TT) (te : TE) (J : It) (σ : St) (H1 : Hp) (Q : VK) : Prop := ∀ D, H1 D = none →
  ∃ W : Nat → Nat → St → Hp → Prop, (∃ m, W 0 m (cst nt cap σ) (upd H1 D (.lst []))) ∧ ∀ i m σ' H', W i m σ' H' →
    (J.stop i H' ∧ Q (.ref D) H') ∨ (J.go i H' ∧ ∃ N : St → Hp → Prop, (∀ σ'' H'', N σ'' H'' → ∃ m', m' < m ∧ W (i + 1) m' σ'' H'') ∧ ∀ x H2, J.yld i H' x H2 → g x σ' H2 fun σ2 H3 => tc σ2 H3 fun b H4 =>
      if b = true then te σ2 H4 fun v H5 => ∃ ys, H5 D = some (.lst ys) ∧ ys.length < sizeLine ∧ N σ2 (upd H5 D (.lst (ys ++ [v]))) else N σ2 H4)
noncomputable def tLC (nt : Nat) (cap : List Nat) (wi : TI) (g : TG) (tc : TT) (te : TE) : TE := fun σ H Q => wi σ H fun J H1 => LCB nt cap g tc te J σ H1 Q

theorem comp_ok {X : Cx} {scope : Scope} {cl : List (Str × Addr)} {C : Addr} {ns : List Str} {nt : Nat} {cap : List Nat} {fp : List Addr} {s : Shared} {H : Hp} {pins : List (Addr × Obj)} {σ : St}
    (I : Inv X pins σ H s) (S : CScope X scope ns nt cap) (hcl1 : ∀ x c, (x, c) ∈ cl → X.env.cells.lookup x = some c) (hcl2 : ∀ x, (x, NameKind.free) ∈ scope.names → ∃ c, (x, c) ∈ cl)
    (hC : s.heap.objs.size ≤ C) (hf : ∀ b ∈ fp, FpOk X pins H b) (hfs : ∀ b ∈ fp, b < s.heap.objs.size) : (ccx X scope cl C ns fp s H).Ok := by
  have lk : ∀ x c, cl.lookup x = some c → X.env.cells.lookup x = some c := fun x c e => hcl1 x c (PySem.mem_of_lookup e)
  refine ⟨I.ok.mod, S.kind, I.ok.glob, I.ok.blt, hC, fun x y c h1 h2 => I.ok.inj x y c (lk x c h1) (lk y c h2), fun x hx => ?_, fun x c h => Bool.noConfusion (show false = true from h), I.ok.hd, I.ok.frames, .inl rfl, fun b hb => ⟨?_, fun x c e z => ?_⟩, I.bs, Nat.le_trans I.ok.bsz I.sz, fun b o e hb => ?_, fun b hb z => ?_, I.stack, I.stkFree⟩
  · have hx' : (relabel scope X.env).names.lookup x = some .cell ∨ (relabel scope X.env).names.lookup x = some .free := hx
    have mem : ∃ k, (x, k) ∈ scope.names ∧ k = .free := by
      have aux : ∀ k, (relabel scope X.env).names.lookup x = some k → k = .cell ∨ k = .free → (x, NameKind.free) ∈ scope.names := fun k e hk => by
        have hm := PySem.mem_of_lookup e
        obtain ⟨⟨y, k0⟩, hy, e2⟩ := List.mem_map.mp hm
        simp only at e2
        split at e2
        · rename_i hc
          cases e2
          have : k0 = .free := by
            simp only [Bool.and_eq_true, beq_iff_eq] at hc
            exact hc.1.1
          subst this
          exact hy
        · cases e2
          rcases hk with rfl | rfl
          · exact absurd rfl (S.nocell _ hy)
          · exact hy
      rcases hx' with e | e
      · exact ⟨_, aux _ e (.inl rfl), rfl⟩
      · exact ⟨_, aux _ e (.inr rfl), rfl⟩
    obtain ⟨k, hm, rfl⟩ := mem
    obtain ⟨c, hc⟩ := hcl2 x hm
    obtain ⟨c', e, _⟩ := lookup_of_mem hc
    exact ⟨c', e⟩
  · exact Nat.ne_of_lt (Nat.lt_of_lt_of_le (hfs b hb) hC)
  · exact (hf b hb).2.2.2.2.1 x c (lk x c e) z
  · obtain ⟨f0, f1, f2, f3, f4, f5⟩ := hf b hb
    rcases f3 with z | z
    · exact I.ok.noex b o e z
    · exact absurd (Nat.lt_of_lt_of_le (Heap.lt_size e) (Nat.le_trans I.ok.bsz z)) (Nat.lt_irrefl _)
  · obtain ⟨f0, f1, f2, f3, f4, f5⟩ := hf b hb
    rcases List.mem_cons.mp (I.stkSub b z) with q | q
    · exact f1 q
    · exact f2 q

theorem lookup_relabel_free {env : Env} : ∀ {names : List (Str × NameKind)} {x : Str}, names.lookup x = some .free →
    (names.map fun (n, k) => if (k == NameKind.free && env.scope.kind == .function && env.kindOf n == some .cell) then (n, NameKind.cell) else (n, k)).lookup x = some .cell ∨
    (names.map fun (n, k) => if (k == NameKind.free && env.scope.kind == .function && env.kindOf n == some .cell) then (n, NameKind.cell) else (n, k)).lookup x = some .free
  | [], _, h => by simp at h
  | (n, k) :: r, x, h => by
    have ih := @lookup_relabel_free env r x
    rw [List.map_cons]
    by_cases e : (x == n) = true
    · rw [List.lookup_cons, e] at h
      have hk : k = .free := Option.some.inj h
      subst hk
      simp only
      split
      · left; rw [List.lookup_cons, e]
      · right; rw [List.lookup_cons, e]
    · have e' : (x == n) = false := by simpa using e
      rw [List.lookup_cons, e'] at h
      simp only
      split
      · rw [List.lookup_cons, e']; exact ih h
      · rw [List.lookup_cons, e']; exact ih h

theorem comp_inv {X : Cx} {scope : Scope} {cl : List (Str × Addr)} {ns : List Str} {nt : Nat} {cap : List Nat} {fp : List Addr} {s : Shared} {H : Hp} {pins : List (Addr × Obj)} {σ : St} {C : Addr} {h₁ : Heap} {m₁ : Str → Option Value} {tk : Nat}
    (I : Inv X pins σ H s) (S : CScope X scope ns nt cap) (hcl1 : ∀ x c, (x, c) ∈ cl → X.env.cells.lookup x = some c) (hcl2 : ∀ x, (x, NameKind.free) ∈ scope.names → ∃ c, (x, c) ∈ cl)
    (hC : s.heap.objs.size < C) (hf : ∀ b ∈ fp, FpOk X pins H b) (hfs : ∀ b ∈ fp, b < s.heap.objs.size) (k : ∀ b o, s.heap.get? b = some o → h₁.get? b = some o) (hns : h₁.Ns C m₁)
    (hD : h₁.get? s.heap.objs.size = some { cls := .type "list", data := .seq ([] : List Value).toArray }) :
    Inv (ccx X scope cl C ns fp s H) [] (cst nt cap σ) (upd H s.heap.objs.size (.lst [])) { s with heap := h₁, toks := tk } := by
  have fr := I.fresh
  have lk : ∀ x c, cl.lookup x = some c → X.env.cells.lookup x = some c := fun x c e => hcl1 x c (PySem.mem_of_lookup e)
  have cellK : ∀ c v, s.heap.IsCell c v → h₁.IsCell c v := fun c v ⟨o, e, d⟩ => ⟨o, k c o e, d⟩
  refine ⟨comp_ok I S hcl1 hcl2 (Nat.le_of_lt hC) hf hfs, rfl, I.bare, Un.laid k (Nat.le_refl _) fr, ⟨m₁, hns, fun i x v e1 e2 e3 => ?_⟩, fun x c e => ?_, ?_, fun x c e => ?_, fun p hp => absurd (show p ∈ ([] : List (Addr × Obj)) from hp) (by simp), I.hok.laid k (Nat.le_refl _) ⟨by decide, [], _, .nil, hD⟩, ?_⟩
  · have e1 : ns[i]? = some x := e1
    by_cases hi : i < nt
    · exfalso
      unfold cst at e2
      rw [List.getElem?_append_left (by simpa using hi), List.getElem?_replicate, if_pos hi] at e2
      cases e2
    · obtain ⟨j, rfl⟩ : ∃ j, i = nt + j := ⟨i - nt, by omega⟩
      unfold cst at e2
      rw [List.getElem?_append_right (by simp), List.length_replicate, Nat.add_sub_cancel_left, List.getElem?_map] at e2
      cases hk : cap[j]? with
      | none => rw [hk] at e2; cases e2
      | some kk =>
        rw [hk] at e2
        obtain ⟨x', c1, c2, c3, c4, c5⟩ := S.caps j kk hk
        rw [c2] at e1
        cases e1
        have e2' : (σ[kk]?).getD none = some v := Option.some.inj e2
        have e3' : σ[kk]? = some (some v) := by
          cases hq : σ[kk]? with
          | none => rw [hq] at e2'; cases e2'
          | some q => rw [hq] at e2'; exact congrArg some e2'
        obtain ⟨m, hm, hl⟩ := I.loc
        obtain ⟨u, r, l⟩ := hl kk x v c1 e3' c3
        refine ⟨u, ⟨r.1, fun h => by cases h⟩, ?_⟩
        rcases l with ⟨l1, _⟩ | ⟨l1, c, l2, l3⟩
        · exfalso
          rw [l1] at c4
          rcases c4 with z | z <;> cases z
        · obtain ⟨c', hc'⟩ := hcl2 x (PySem.mem_of_lookup c5)
          obtain ⟨c'', e4, e5⟩ := lookup_of_mem hc'
          have e6 := hcl1 x c'' e5
          rw [l2] at e6
          cases e6
          exact .inr ⟨lookup_relabel_free c5, c, e4, cellK c _ l3⟩
  · obtain ⟨v, q⟩ := I.cell x c (lk x c e)
    exact ⟨v, cellK c v q⟩
  · show upd H s.heap.objs.size (.lst []) C = none
    rw [upd_ne (Nat.ne_of_gt hC)]
    exact I.hok.fresh (Nat.le_of_lt hC)
  · have e' := lk x c e
    obtain ⟨v, o, ho, _⟩ := I.cell x c e'
    rw [upd_ne (Nat.ne_of_lt (Heap.lt_size ho))]
    exact I.freeC x c e'
  · show (cst nt cap σ).length = ns.length
    unfold cst
    rw [List.length_append, List.length_replicate, List.length_map, S.nlen]

theorem lc_block {X : Cx} {scope : Scope} {ns : List Str} {nt : Nat} {cap : List Nat} {elt tg iter : Expr} {ifs : List Expr} {pos p : Pos} {wi : TI} {g : TG} {tc : TT} {te : TE} {use : Option (Value → Sem Unit)} {Qf : Value → Shared → Prop} {pins : List (Addr × Obj)} {σ : St} {H : Hp} {s : Shared} {Q : VK}
    (hc : X.calm = true) (S : CScope X scope ns nt cap) (hi : PI X tg iter wi) (hg : ∀ cl C fp s H, PG (ccx X scope cl C ns fp s H) tg g) (hif : ∀ cl C fp s H, PIf (ccx X scope cl C ns fp s H) ifs tc) (he : ∀ cl C fp s H, PE (ccx X scope cl C ns fp s H) elt te)
    (hs : ∀ x, foldedSetIterable iter X.env x = pure x) (I : Inv X pins σ H s) (h : tLC nt cap wi g tc te σ H Q)
    (hfin : ∀ (D C : Addr) (m : Str → Option Value) (H' : Hp) (s' : Shared), Inv X pins σ H' s' → s'.heap.Ns C m → FpOk X pins H' C → Q (.ref D) H' → compPost (model X.prog X.w) X.A X.xe use Qf (.ref D) C (.ok .next) s') :
    wpAny (model X.prog X.w) X.A (comprehension (.ListComp elt [⟨tg, iter, ifs, 0⟩] scope pos) scope X.env p (newList []) false (eval iter X.env) use) Qf X.xe s := by
  obtain ⟨cl, hclos, hcl1, hcl2⟩ := closure_of scope X.env fun x hx => I.ok.has x (S.frees _ hx rfl)
  refine wpAny_comprehension_free (use := use) rfl hs hclos S.kind S.names ?_
  refine thn (hi pins s σ H _ I h) fun v s1 h1 => thn h1 fun itv s2 h2 => ?_
  obtain ⟨it, fp, tn, J, H2, rfl, I2, T, st2, f2, q⟩ := h2
  obtain ⟨W, ⟨m0, w0⟩, turn⟩ := q s2.heap.objs.size I2.fresh
  have hfs : ∀ b ∈ fp, b < s2.heap.objs.size := fun b hb => by obtain ⟨o, e, _⟩ := T.obj 0 _ st2 b hb; exact Heap.lt_size e
  refine wpAny_newObj_type (wpAny_newFunctionEnv S.nocell (by intro y hy; simp at hy) (fun h₁ hns₁ hsb₁ => ?_) S.kind)
  dsimp only at hns₁ hsb₁ ⊢
  generalize hH3 : s2.heap.push { cls := .type "list", dict := none, data := .seq ([] : List Value).toArray } = H3 at hns₁ hsb₁ ⊢
  have hCs : H3.objs.size = s2.heap.objs.size + 1 := by rw [← hH3, Heap.size_push]
  have old : ∀ b o, s2.heap.get? b = some o → h₁.get? b = some o := fun b o e => hsb₁.extBut b o (Nat.ne_of_lt (by rw [hCs]; exact Nat.lt_succ_of_lt (Heap.lt_size e))) (Heap.get?_push_of_some _ (hH3 ▸ Heap.get?_push_of_some _ e))
  have hacc : h₁.get? s2.heap.objs.size = some { cls := .type "list", data := .seq ([] : List Value).toArray } := hsb₁.extBut _ _ (by rw [hCs]; exact Nat.ne_of_lt (Nat.lt_succ_self _)) (Heap.get?_push_of_some _ (hH3 ▸ Heap.get?_push_size _ rfl))
  have hCgt : s2.heap.objs.size < H3.objs.size := by rw [hCs]; exact Nat.lt_succ_self _
  have Ic := comp_inv (tk := s2.toks + ([] : List (Str × Value)).length) (ns := ns) I2 S hcl1 hcl2 hCgt f2 hfs old hns₁ hacc
  have stat : ∀ {H' : Hp} {pins' : List (Addr × Obj)}, (∀ b ∈ fp, H' b = none) → (∀ p ∈ pins', ∀ b ∈ fp, p.1 ≠ b) → ∀ b ∈ fp, FpOk (ccx X scope cl H3.objs.size ns fp s2 H2) pins' H' b := fun hn hp b hb => by
    obtain ⟨f0, f1, f2', f3, f4, f5⟩ := f2 b hb
    refine ⟨hn b hb, Nat.ne_of_lt (Nat.lt_trans (hfs b hb) hCgt), fun z => ?_, .inl hb, fun x c e z => f4 x c (hcl1 x c (PySem.mem_of_lookup e)) z, fun p hp' => hp p hp' b hb⟩
    rcases List.mem_cons.mp (I2.stkSub b z) with q | q
    · exact f1 q
    · exact f2' q
  have loop : codeAny (model X.prog X.w) X.A (.compLoop (.ListComp elt [⟨tg, iter, ifs, 0⟩] scope pos) 0 (.ref it) (.ref s2.heap.objs.size) (compEnvC scope cl H3.objs.size X.env))
      (compPost (model X.prog X.w) X.A X.xe use Qf (.ref s2.heap.objs.size) H3.objs.size) { s2 with heap := h₁, toks := s2.toks + ([] : List (Str × Value)).length } := by
    refine codeAny_loop rfl (fun n s' => ∃ i σ' H', Inv (ccx X scope cl H3.objs.size ns fp s2 H2) [] σ' H' s' ∧ tn i s'.heap ∧ (∀ b ∈ fp, H' b = none) ∧ W i n σ' H') ?_ m0
      ⟨0, _, _, Ic, T.keep _ _ _ st2 (fun b hb o e => old b o e), fun b hb => ?_, w0⟩
    · rintro n s3 ⟨i, σ3, Hc, I3, st3, fr3, w3⟩
      show wpAny _ X.A ((compTurn (.ListComp elt [⟨tg, iter, ifs, 0⟩] scope pos) 0 (.ref it) (.ref s2.heap.objs.size) (compEnvC scope cl H3.objs.size X.env)).onRaise (fun x => do noteFrame x _; theTreesLotGoes x)) _ _ s3
      refine wpAny_noted ?_
      rw [compTurn_list]
      refine wpAny_bind (wpAny_standAt (wpAny_bind ?_))
      rcases turn i n σ3 Hc w3 with ⟨stop, qn⟩ | ⟨go, N, hN, step⟩
      · refine thn (T.done (ccx X scope cl H3.objs.size ns fp s2 H2) rfl rfl rfl hc i [] s3 σ3 Hc _ I3 (stat fr3 (by simp)) st3 stop) fun r s4 ⟨hr, I4⟩ => ?_
        subst hr
        refine wpAny_pure ?_
        obtain ⟨m4, hn4, _⟩ := I4.loc
        have IX : Inv X pins σ Hc s4 := I2.call' I4.os I4.base I4.hok I4.bare fun b hb => by
          obtain ⟨f0, f1, f2', f3, f4, f5⟩ := f2 b hb
          exact ⟨f3, f1, f4, f5⟩
        exact hfin _ _ m4 Hc s4 IX hn4 (I2.fpOk (Nat.le_of_lt hCgt) I4.free) qn
      · refine thn (T.item (ccx X scope cl H3.objs.size ns fp s2 H2) rfl rfl rfl hc i [] s3 σ3 Hc _ I3 (stat fr3 (by simp)) st3 go) fun r s4 ⟨u, hr, h4⟩ => ?_
        subst hr
        refine wpAny_bind (thn h4 fun _ s5 ⟨x, H5, I5, r5, y5, st5, fr5⟩ => ?_)
        have I5' := I5.pinned (stat fr5 (by simp)) (T.obj _ _ st5)
        refine wpAny_bind (wpAny_mono (hg _ _ _ _ _ _ s5 σ3 H5 x u _ I5' r5 (step x H5 y5)) (fun _ s6 ⟨σ6, H6, I6, q6⟩ => ?_) fun _ _ f => f.elim)
        have again : ∀ {σ7 : St} {H7 : Hp} {s7 : Shared}, Inv (ccx X scope cl H3.objs.size ns fp s2 H2) ([] ++ pinsAt fp s5.heap) σ7 H7 s7 → N σ7 H7 → ∃ m, m < n ∧ ∃ i σ' H', Inv (ccx X scope cl H3.objs.size ns fp s2 H2) [] σ' H' s7 ∧ tn i s7.heap ∧ (∀ b ∈ fp, H' b = none) ∧ W i m σ' H' := fun {σ7 H7 s7} I7 n7 => by
          obtain ⟨m', hm, w7⟩ := hN σ7 H7 n7
          refine ⟨m', hm, i + 1, σ7, H7, I7.unpinned, T.keep _ _ _ st5 fun b hb o e => (I7.pin (b, o) (List.mem_append_right _ (List.mem_append_right _ (mem_pinsAt hb e)))).1, fun b hb => ?_, w7⟩
          obtain ⟨o, e, d⟩ := T.obj _ _ st5 b hb
          exact (I7.pin (b, o) (List.mem_append_right _ (List.mem_append_right _ (mem_pinsAt hb e)))).2.1
        refine wpAny_bind (wpAny_mono (hif _ _ _ _ _ _ s6 σ6 H6 _ I6 q6) (fun b s7 ⟨H7, I7, q7⟩ => ?_) fun _ _ f => f.elim)
        cases b with
        | true =>
          rw [if_pos rfl] at q7
          simp only [if_true]
          refine wpAny_bind (wpAny_bind (wpAny_mono (he _ _ _ _ _ _ s7 σ6 H7 _ I7 q7) (fun y s8 ⟨v8, H8, I8, r8, ys, hD8, hl8, q8⟩ => ?_) fun _ _ f => f.elim))
          refine wpAny_bind (wpAny_mono (mt_append (X := ccx X scope cl H3.objs.size ns fp s2 H2) _ s8 σ6 H8 (.ref s2.heap.objs.size) [v8] (.ref s2.heap.objs.size) [y] (fun _ H' => N σ6 H') I8 rfl (.cons r8 .nil) ⟨_, ys, v8, rfl, rfl, hD8, hl8, q8⟩) (fun _ s9 ⟨_, H9, I9, _, q9⟩ => ?_) fun _ _ f => f.elim)
          exact wpAny_pure (wpAny_pure ⟨rfl, again I9 q9⟩)
        | false =>
          rw [if_neg Bool.false_ne_true] at q7
          simp only [Bool.false_eq_true, if_false]
          exact wpAny_pure ⟨rfl, again I7 q7⟩
    · obtain ⟨f0, _⟩ := f2 b hb
      rw [upd_ne (Nat.ne_of_lt (hfs b hb))]
      exact f0
  exact codeAny_compStart_list loop (T.self _ 0 _ _ _ (T.keep _ _ _ st2 fun b hb o e => old b o e) loop)

theorem pe_lc {X : Cx} {scope : Scope} {ns : List Str} {nt : Nat} {cap : List Nat} {elt tg iter : Expr} {ifs : List Expr} {pos : Pos} {wi : TI} {g : TG} {tc : TT} {te : TE}
    (hc : X.calm = true) (S : CScope X scope ns nt cap) (hi : PI X tg iter wi) (hg : ∀ cl C fp s H, PG (ccx X scope cl C ns fp s H) tg g) (hif : ∀ cl C fp s H, PIf (ccx X scope cl C ns fp s H) ifs tc) (he : ∀ cl C fp s H, PE (ccx X scope cl C ns fp s H) elt te)
    (hs : ∀ x, foldedSetIterable iter X.env x = pure x := by intro _; rfl) : PE X (.ListComp elt [⟨tg, iter, ifs, 0⟩] scope pos) (tLC nt cap wi g tc te) := by
  intro pins s σ H Q I h
  rw [eval_ListComp]
  refine lc_block (use := none) hc S hi hg hif he hs I h fun D C m H' s' I' hn f q => ⟨m, hn, fun h' hs' => ?_⟩
  obtain ⟨f0, f1, f2, f3, f4, f5⟩ := f
  exact ⟨.ref D, H', I'.turned (t' := s'.toks) (fun b o hb e => hs'.extBut b o hb e) f0 f1 f3 f4 f5, rfl, q⟩
theorem ps_lc {X : Cx} {scope : Scope} {ns : List Str} {nt : Nat} {cap : List Nat} {elt tg iter : Expr} {ifs : List Expr} {pos spos py : Pos} {wi : TI} {g : TG} {tc : TT} {te : TE} {i : Nat} {y : Str}
    (hc : X.calm = true) (hN : X.N.Nodup) (hi' : X.N[i]? = some y) (hy : X.env.scope.names.lookup y = some .local) (S : CScope X scope ns nt cap) (hi : PI X tg iter wi) (hg : ∀ cl C fp s H, PG (ccx X scope cl C ns fp s H) tg g) (hif : ∀ cl C fp s H, PIf (ccx X scope cl C ns fp s H) ifs tc) (he : ∀ cl C fp s H, PE (ccx X scope cl C ns fp s H) elt te)
    (hsw : swapsWith (.ListComp elt [⟨tg, iter, ifs, 0⟩] scope pos) (some (.Name y py)) spos.line X.env = pure true := by rfl)
    (hs : ∀ x, foldedSetIterable iter X.env x = pure x := by intro _; rfl) : PS X (.Assign [.Name y py] (.ListComp elt [⟨tg, iter, ifs, 0⟩] scope pos) spos) (tAsg (tLC nt cap wi g tc te) (gName i)) := by
  intro pins s σ H Dn I h
  rw [exec_Assign_Name_used _ _ _ _ hsw]
  refine wpAny_bind (wpAny_standAt (wpAny_bind ?_))
  show wpAny _ X.A (do let _ ← comprehension (.ListComp elt [⟨tg, iter, ifs, 0⟩] scope pos) scope X.env _ (newList []) false (eval iter X.env) (some (assign (.Name y py) X.env))) _ _ s
  refine wpAny_bind (thn (lc_block (use := some (assign (.Name y py) X.env)) (Qf := fun _ s' => SP X pins Dn .next s') hc S hi hg hif he hs I h fun D C m H' s' I' hn f q => ?_) fun _ s' hq => wpAny_pure (wpAny_pure hq))
  show wpAny _ _ (assign (.Name y py) X.env (.ref D)) _ _ _
  refine wpAny_assign_Name (store_ok2 I' hN hi' (.inl hy) (v := .ref D) rfl (fun s'' I'' ⟨a, sb, ha⟩ => ?_) (.inr hy) (fun _ z t e => by cases e))
  obtain ⟨f0, f1, f2, f3, f4, f5⟩ := f
  have hCa : C ≠ a := fun z => by
    rcases ha with e | e
    · exact f1 (z.trans e)
    · exact f4 _ _ e z.symm
  refine ⟨m, hn.sameBut sb hCa, fun h' hs' => ⟨_, H', I''.turned (t' := s''.toks) (fun b o hb e => hs'.extBut b o hb e) f0 f1 f3 f4 f5, q⟩⟩
end L2

namespace L2
open PySem PySem.Spec PyProof.Rows GT

section
variable {X : Cx}

noncomputable def rSlS : V → Option Int → Option Int → Hp → VK → Prop := fun x lo hi H Q => ∃ z, x = .str z ∧ z.length ≤ sizeLine ∧ Q (.str (Txt.slice z lo hi)) H
theorem sl_str : SlR X rSlS := by
  intro pins s σ H x v vl vu lo hi sl Q I rx hs pl pu h
  obtain ⟨z, rfl, hz, q⟩ := h
  obtain ⟨t, rfl⟩ := rx
  refine ⟨"str", _, PySem.F.slot_str_getitem.lookup, typeIs_str s z t, ?_⟩
  have key : ∃ l u : Option (Int × Tok), vl = partValue l ∧ vu = partValue u ∧ l.map (·.1) = lo ∧ u.map (·.1) = hi := by
    cases pl with
    | none => cases pu with
      | none => exact ⟨none, none, rfl, rfl, rfl, rfl⟩
      | int j t2 => exact ⟨none, some (j, t2), rfl, rfl, rfl, rfl⟩
    | int i t1 => cases pu with
      | none => exact ⟨some (i, t1), none, rfl, rfl, rfl, rfl⟩
      | int j t2 => exact ⟨some (i, t1), some (j, t2), rfl, rfl, rfl, rfl⟩
  obtain ⟨l, u, rfl, rfl, rfl, rfl⟩ := key
  refine wpAny_getItem_str_slice (l := l) (u := u) (st := none) hs rfl ?_
  refine post_val_or_made (fun hc => ?_) fun t' k => ⟨.str (Txt.slice z (l.map (·.1)) (u.map (·.1))), H, I.tok k, ⟨t', rfl⟩, q⟩
  refine Nat.le_trans ?_ hz
  have := PyProof.Txt.length_slice_le z (l.map (·.1)) (u.map (·.1))
  unfold Txt.slice at this
  rw [if_neg (show ¬ ((1 : Int) == 1 && (Builtin.Str.strSliceIndices (l.map (·.1)) (u.map (·.1)) 1 z.length).length == z.length) = true from hc)] at this
  exact this

noncomputable def sty (z : Str) : String := if z.cps.all (· < 128) = true then "str_ascii_iterator" else "str_iterator"
noncomputable def Its (l : List Nat) : It := ⟨fun i _ => i < l.length, fun i H x H' => H' = H ∧ ∃ c, l[i]? = some c ∧ x = .str (tx [c]), fun i _ => l.length ≤ i⟩
theorem sty_go (z : Str) : ["enumerate", "zip", "dict_itemiterator", "dict_reverseitemiterator", "odict_iterator", "itertools.zip_longest", "itertools.pairwise"].contains (sty z) = false := by
  unfold sty
  split <;> decide
theorem str_walks {P : Program} {w : World} {A : Around} (hh : A.handled = none) (it : Addr) (z : Str) (t : Tok) : Walks P w A it [it] [it] z.cps.size (SignAt z) (fun i h => h.IsStrIter it (sty z) z t i) := by
  unfold sty
  by_cases h : z.cps.all (· < 128) = true
  · rw [if_pos h]; exact Walks.strAscii hh it z t
  · rw [if_neg h]; exact Walks.strWide hh it z t
theorem turn_str {P : Program} {w : World} {K : PySem.W.Frag} {tg : Expr} (it : Addr) (z : Str) (t : Tok) : Turn P w K tg (Its z.cps.toList) [it] it (fun i h => h.IsStrIter it (sty z) z t i) where
  mem := by simp
  obj := fun i h st b hb => by
    have e : b = it := by simpa using hb
    subst e
    obtain ⟨o, e, c, d⟩ := st
    exact ⟨o, e, fun v z => by rw [d] at z; cases z⟩
  keep := fun i h h' st k => by obtain ⟨o, e, r⟩ := st; exact ⟨o, k it (by simp) o e, r⟩
  item := by
    intro X hP hw hK hc i pins s σ H E I hf st hg
    subst hP hw hK
    obtain ⟨f0, f1, f2, f3, f4, f5⟩ := hf it (by simp)
    have hi : i < z.cps.size := by have : i < z.cps.toList.length := hg; simpa using this
    refine (str_walks (I.ok.hd hc) it z t).item i s _ _ hi st fun v h' tk hv st' kk => ?_
    obtain ⟨c, u, hc', rfl⟩ := hv
    have I1 : Inv X pins σ H { s with heap := h', toks := tk } := I.turned (fun b o hb e => kk b o (by simpa using hb) e) f0 f1 f3 f4 f5
    obtain ⟨o, e, c1, d⟩ := id st'
    exact ⟨_, rfl, go_of (s := { s with heap := h', toks := tk }) e c1 d (sty_go z) ⟨.str (tx [c]), H, I1, ⟨u, rfl⟩, ⟨rfl, c, by simpa using hc', rfl⟩, st', fun b hb => (hf b hb).1⟩⟩
  done := by
    intro X hP hw hK hc i pins s σ H E I hf st hg
    subst hP hw hK
    obtain ⟨f0, f1, f2, f3, f4, f5⟩ := hf it (by simp)
    have hi : z.cps.size ≤ i := by have : z.cps.toList.length ≤ i := hg; simpa using this
    have hx : z.cps[i]? = none := Array.getElem?_eq_none hi
    unfold sty at st
    by_cases h : z.cps.all (· < 128) = true
    · rw [if_pos h] at st
      exact wpAny_pyNext_ascii_end (I.ok.hd hc) st hx fun h' eb => ⟨rfl, I.turned (t' := s.toks) (fun b o hb e => eb b o hb e) f0 f1 f3 f4 f5⟩
    · rw [if_neg h] at st
      exact wpAny_pyNext_wide_end (I.ok.hd hc) st hx fun h' eb => ⟨rfl, I.turned (t' := s.toks) (fun b o hb e => eb b o hb e) f0 f1 f3 f4 f5⟩
  self := fun A i s Q E st h => by
    unfold sty at st
    by_cases hh : z.cps.all (· < 128) = true
    · rw [if_pos hh] at st; exact wpAny_pyIter_striter_ascii st h
    · rw [if_neg hh] at st; exact wpAny_pyIter_striter_wide st h
noncomputable def iStr (tl : TE) : TI := fun σ H R => tl σ H fun x H1 => ∃ z : Str, x = .str z ∧ R (Its z.cps.toList) H1
theorem pi_str {tg l : Expr} {tl : TE} (hl : PE X l tl) : PI X tg l (iStr tl) := by
  intro pins s σ H R I h
  refine thn (hl pins s σ H _ I h) fun v s1 ⟨x, H1, I1, r1, q1⟩ => ?_
  obtain ⟨z, e, q⟩ := q1
  subst e
  obtain ⟨t, rfl⟩ := r1
  have fin : ∀ o : Obj, o.cls = .type (sty z) → o.data = .fields #[.str z t, .int 0 0] → PIE X pins σ tg R (.ref s1.heap.objs.size) { s1 with heap := s1.heap.push o } := fun o oc od => by
    refine ⟨s1.heap.objs.size, [s1.heap.objs.size], _, _, H1, rfl, I1.kept (t' := s1.toks) fun b o e => Heap.get?_push_of_some _ e, turn_str _ z t, ⟨o, Heap.get?_push_size _ (by obtain ⟨a, b, c, d⟩ := o; simp only at od; subst od; rfl), oc, od⟩, fun b hb => ?_, q⟩
    have e : b = s1.heap.objs.size := by simpa using hb
    subst e
    exact I1.fpOk (Nat.le_refl _) (I1.hok.fresh (Nat.le_refl _))
  by_cases h : z.cps.all (· < 128) = true
  · exact wpAny_pyIter_ascii h (fin _ (by unfold sty; rw [if_pos h]) rfl)
  · exact wpAny_pyIter_wide (by simpa using h) (fin _ (by unfold sty; rw [if_neg h]) rfl)

noncomputable def rCount : V → List V → Hp → VK → Prop := fun x vs H Q => Ex2 fun (l : List Nat) (c : Nat) => x = .str (tx l) ∧ vs = [.str (tx [c])] ∧ Q (.int (l.count c)) H
theorem mt_count : MtR X "str.count" rCount := by
  intro pins s σ H x vs v us Q I rx rv h
  obtain ⟨l, c, rfl, rfl, q⟩ := h
  obtain ⟨t, rfl⟩ := rx
  obtain ⟨u, rfl, t', rfl⟩ := rv.one
  refine SC.count (y := tx [c]) ?_
  rw [count_tx]
  exact ⟨.int _, H, I.tok _, ⟨_, rfl⟩, q⟩
noncomputable def rIndex : V → List V → Hp → VK → Prop := fun x vs H Q => Ex3 fun (l : List Nat) (c i : Nat) => x = .str (tx l) ∧ vs = [.str (tx [c])] ∧ l[i]? = some c ∧ (∀ k, k < i → l[k]? ≠ some c) ∧ Q (.int i) H
theorem mt_index : MtR X "str.index" rIndex := by
  intro pins s σ H x vs v us Q I rx rv h
  obtain ⟨l, c, i, rfl, rfl, h1, h2, q⟩ := h
  obtain ⟨t, rfl⟩ := rx
  obtain ⟨u, rfl, t', rfl⟩ := rv.one
  obtain ⟨rest, e⟩ := index_tx h1 h2
  exact SC.index (y := tx [c]) e ⟨.int _, H, I.tok _, ⟨_, rfl⟩, q⟩
theorem strsAre_of : ∀ {ls : List (List Nat)} {us : List Value}, Vals (ls.map fun l => V.str (tx l)) us → StrsAre us (ls.map tx)
  | [], us, r => by cases r; exact .nil
  | l :: ls, us, r => by
    cases r with
    | cons a b => obtain ⟨t, rfl⟩ := a; exact .cons _ t (strsAre_of b)
noncomputable def rJoin (K : PySem.W.Frag) : V → List V → Hp → VK → Prop := fun x vs H Q => Ex2 fun (p : Addr) (ls : List (List Nat)) => x = .str (tx []) ∧ vs = [.ref p] ∧ SqL K H p (ls.map fun l => V.str (tx l)) ∧ ls.flatten.length ≤ 16777216 ∧ Q (.str (tx ls.flatten)) H
theorem mt_join : MtR X "str.join" (rJoin X.K) := by
  intro pins s σ H x vs v us Q I rx rv h
  obtain ⟨p, ls, rfl, rfl, hq, hz, q⟩ := h
  obtain ⟨t, rfl⟩ := rx
  obtain ⟨u, rfl, ru⟩ := rv.one
  cases ru
  obtain ⟨its, r, pl, _⟩ := I.list hq
  refine join_list (ys := ls.map tx) pl.isList (strsAre_of r) ?_ fun t' k => ⟨.str (tx ls.flatten), H, I.tok k, ⟨t', by rw [join_tx]⟩, q⟩
  have e : ((ls.map tx).map (·.length)).sum = ls.flatten.length := by
    rw [List.length_flatten, List.map_map]
    congr 1
  rw [e, tx_len]
  show _ + _ * 0 ≤ _
  rw [Nat.mul_zero, Nat.add_zero]
  exact hz
noncomputable def rMulS : R2 := fun x y H Q => Ex2 fun (l : List Nat) (n : Nat) => x = .str (tx l) ∧ y = .int n ∧ l.length * n ≤ 16777216 ∧ n ≤ 16777216 ∧ Q (.str (tx (List.replicate n l).flatten)) H
theorem op_mul_str : OpR X (binaryOp .Mult) rMulS := by
  intro pins s σ H x y v u Q I rx ry h
  obtain ⟨l, n, rfl, rfl, hz, hn, q⟩ := h
  obtain ⟨t, rfl⟩ := rx
  obtain ⟨t', rfl⟩ := ry
  refine SB.mul ⟨?_, fun h1 h2 => ?_, fun h1 h2 => ?_⟩ fun t' k => ⟨.str (tx (List.replicate n l).flatten), H, I.tok k, ⟨t', by rw [mul_tx]⟩, q⟩
  · rw [decide_eq_false (by omega), decide_eq_false (by omega)]; rfl
  · rw [tx_len]
    have : (l.length : Int) * n ≤ 16777216 := by
      have := Int.ofNat_le.mpr hz
      rw [Int.natCast_mul] at this
      exact this
    intro hgt
    have h3 : (2 ^ 63 - 1) / (n : Int) < l.length := hgt
    have h4 : (n : Int) > 0 := by omega
    have h5 := Int.lt_mul_of_ediv_lt h4 h3
    omega
  · rw [tx_len, Int.toNat_natCast]
    unfold PySem.Builtin.Str.tooLong
    exact decide_eq_false (by rw [sizeLine_eq]; omega)

theorem call_all : CallR X (.builtin "all") (fun xs H Q => Ex2 fun (p : Addr) (bs : List Bool) => xs = [.ref p] ∧ X.calm = true ∧ SqL X.K H p (bs.map V.bl) ∧ Q (.bl (bs.all id)) H) := by
  intro pins s σ H xs us Q I r h
  obtain ⟨p, bs, rfl, hc, hq, q⟩ := h
  obtain ⟨u, rfl, ru⟩ := vals1 r
  cases ru
  obtain ⟨its, rv, pl, hz⟩ := I.list hq
  have hh := I.ok.hd hc
  have hlt : p < s.heap.objs.size := by obtain ⟨o, n, e, _⟩ := pl; exact Heap.lt_size e
  refine call_all_walk (wpAny_pyIter_list pl.isList ⟨s.heap.objs.size, _, _, _, _, _, fun i => bs.getD i true, rfl, Walks.list (A := X.A.in1) hh _ p (Nat.ne_of_lt hlt) its.toArray, ⟨⟨_, Heap.get?_push_size _ rfl, rfl, rfl⟩, pl.isList.push _⟩, ?_, fun h' tk hk => ?_⟩)
  · intro i v s' Q' E' hv hQ
    have hv' : its[i]? = some v := by simpa using hv
    have hl := rv.length
    have hi : i < bs.length := by have := (List.getElem?_eq_some_iff.mp hv').1; rw [List.length_map] at hl; omega
    obtain ⟨u', e1, r1⟩ := rv.get (i := i) (x := V.bl bs[i]) (by simp [hi])
    rw [hv'] at e1
    cases e1
    have r1' : v = Value.bool bs[i] := r1
    subst r1'
    refine wpAny_truthy_bool ?_
    have : bs.getD i true = bs[i] := by simp [List.getD_eq_getElem?_getD, hi]
    have hQ' : Q' (bs.getD i true) s' := hQ
    rw [this] at hQ'
    exact hQ'
  · have e : (List.range its.toArray.size).all (fun i => bs.getD i true) = bs.all id := by
      have hl := rv.length
      rw [List.length_map] at hl
      rw [List.size_toArray, ← hl, Bool.eq_iff_iff, List.all_eq_true, List.all_eq_true]
      constructor
      · intro a b hb
        obtain ⟨i, hi, rfl⟩ := List.getElem_of_mem hb
        have := a i (List.mem_range.mpr hi)
        simpa [List.getD_eq_getElem?_getD, hi] using this
      · intro a i hi
        have hi := List.mem_range.mp hi
        have := a bs[i] (List.getElem_mem hi)
        simpa [List.getD_eq_getElem?_getD, hi] using this
    rw [e]
    exact ⟨.bl (bs.all id), H, I.kept (fun b o eb => hk b o (by simpa using Nat.ne_of_lt (Heap.lt_size eb)) (Heap.get?_push_of_some _ eb)), rfl, q⟩
theorem preSum_list (ns : List Int) : ∀ n, preSum (fun i => ns.getD i 0) n = (ns.take n).sum
  | 0 => by simp [preSum]
  | n + 1 => by
    rw [preSum, preSum_list ns n, List.take_add_one]
    cases h : ns[n]? with
    | none => simp [List.getD_eq_getElem?_getD, h]
    | some a => simp [List.getD_eq_getElem?_getD, h]
theorem call_sum : CallR X (.builtin "sum") (fun xs H Q => Ex2 fun (p : Addr) (ns : List Int) => xs = [.ref p] ∧ X.calm = true ∧ SqL X.K H p (ns.map V.int) ∧ Q (.int ns.sum) H) := by
  intro pins s σ H xs us Q I r h
  obtain ⟨p, ns, rfl, hc, hq, q⟩ := h
  obtain ⟨u, rfl, ru⟩ := vals1 r
  cases ru
  obtain ⟨its, rv, pl, hz⟩ := I.list hq
  have hh := I.ok.hd hc
  have hlt : p < s.heap.objs.size := by obtain ⟨o, n, e, _⟩ := pl; exact Heap.lt_size e
  have hl := rv.length
  rw [List.length_map] at hl
  refine call_sum_walkG (wpAny_pyIter_list pl.isList ⟨s.heap.objs.size, _, _, _, _, _, fun i => ns.getD i 0, rfl, Walks.list (A := X.A.in1) hh _ p (Nat.ne_of_lt hlt) its.toArray, ⟨⟨_, Heap.get?_push_size _ rfl, rfl, rfl⟩, pl.isList.push _⟩, ?_, ?_, fun h' tk t' hk => ?_⟩)
  · intro b hb
    show b < (s.heap.push _).objs.size
    rw [Heap.size_push]
    simp at hb
    rcases hb with rfl | rfl
    · exact Nat.lt_succ_self _
    · exact Nat.lt_succ_of_lt hlt
  · intro i v hv
    have hv' : its[i]? = some v := by simpa using hv
    have hi : i < ns.length := by have := (List.getElem?_eq_some_iff.mp hv').1; omega
    obtain ⟨u', e1, r1⟩ := rv.get (i := i) (x := V.int ns[i]) (by simp [hi])
    rw [hv'] at e1
    cases e1
    obtain ⟨t, rfl⟩ := r1
    exact ⟨t, by simp [List.getD_eq_getElem?_getD, hi]⟩
  · refine ⟨.int ns.sum, H, I.kept (fun b o eb => hk b o (by simpa using Nat.ne_of_lt (Heap.lt_size eb)) (Heap.get?_push_of_some _ eb)), ⟨t', ?_⟩, q⟩
    rw [preSum_list, List.size_toArray, ← hl, List.take_length]
end
end L2

namespace L2
open PySem PySem.Spec PyProof.Rows GT GZ

section
variable {X : Cx} {pins : List (Addr × Obj)} {σ : St} {H : Hp} {s : Shared} {h' : Heap}
theorem Inv.turnedAll {t' : Nat} {ch : List Addr} (I : Inv X pins σ H s) (hch : ∀ b ∈ ch, FpOk X pins H b) (k : ∀ b o, b ∉ ch → s.heap.get? b = some o → h'.get? b = some o) : Inv X pins σ H { s with heap := h', toks := t' } := by
  have nch : ∀ b u, H b = some u → b ∉ ch := fun b u e z => by rw [(hch b z).1] at e; cases e
  refine I.step (g' := s.gens) (d' := s.drawn) (ch := ch) (fun b hb => ?_) (fun b o _ _ hc e _ => k b o hc e) (fun b o _ _ hc e _ => ⟨o.slots, k b o hc e⟩) (fun _ _ _ _ n => n)
    (fun b o hc e => ⟨o, k b o hc e⟩) (fun _ _ e => e) (fun _ _ _ e => e) (fun b ps e => ⟨#[], by rw [e]; simp⟩) (fun m hm => ?_) (fun b u e => ?_) I.bare
  · obtain ⟨f0, f1, f2, f3, f4, f5⟩ := hch b hb
    exact ⟨f3, f1, f4, f5⟩
  · obtain ⟨o, es, ep, ho, r⟩ := hm
    exact ⟨o, es, ep, k _ o (fun z => (hch _ z).2.1 rfl) ho, r⟩
  · refine (I.hok b u e).stay (fun c v hc q => k c v ?_ q) (fun _ q => q) fun _ _ q => q
    rcases hc with z | z
    · rw [z]; exact nch b u e
    · exact nch c _ z
theorem Inv.turnedNew {t' : Nat} {ch : List Addr} {p : Addr} {o : HO} (I : Inv X pins σ H s) (hch : ∀ b ∈ ch, FpOk X pins H b) (k : ∀ b u, b ∉ ch → s.heap.get? b = some u → h'.get? b = some u)
    (hp : s.heap.objs.size ≤ p) (new : ObjOk X.prog X.w (upd H p o) h' p o) : Inv X pins σ (upd H p o) { s with heap := h', toks := t' } := by
  have hn : H p = none := I.hok.fresh hp
  have nch : ∀ b u, H b = some u → b ∉ ch := fun b u e z => by rw [(hch b z).1] at e; cases e
  have ne : ∀ b u, s.heap.get? b = some u → b ≠ p := fun b u e => Nat.ne_of_lt (Nat.lt_of_lt_of_le (Heap.lt_size e) hp)
  refine I.step (g' := s.gens) (d' := s.drawn) (ch := ch) (fun b hb => ?_) (fun b o _ _ hc e _ => k b o hc e) (fun b o _ _ hc e _ => ⟨o.slots, k b o hc e⟩) (fun b u _ e n => by rw [upd_ne (ne b u e)]; exact n)
    (fun b o hc e => ⟨o, k b o hc e⟩) (fun b xs e => by rw [upd_ne (ne_of_none e hn)]; exact e) (fun b u xs e => by rw [upd_ne (ne_of_none e hn)]; exact e) (fun b ps e => ⟨#[], by rw [upd_ne (ne_of_none e hn), e]; simp⟩) (fun m hm => ?_) (fun b u e => ?_) I.bare
  · obtain ⟨f0, f1, f2, f3, f4, f5⟩ := hch b hb
    exact ⟨f3, f1, f4, f5⟩
  · obtain ⟨o, es, ep, ho, r⟩ := hm
    exact ⟨o, es, ep, k _ o (fun z => (hch _ z).2.1 rfl) ho, r⟩
  · by_cases hb : b = p
    · subst hb; rw [upd_same] at e; cases e; exact new
    · rw [upd_ne hb] at e
      refine (I.hok b u e).stay (fun c v hc q => k c v ?_ q) (fun c q => by rw [upd_ne (ne_of_none q hn)]; exact q) fun c xs q => by rw [upd_ne (ne_of_none q hn)]; exact q
      rcases hc with z | z
      · rw [z]; exact nch b u e
      · exact nch c _ z
end

inductive Src where
  | lst (a : Addr)
  | str (z : Str)
noncomputable def Src.v : Src → V
  | .lst a => .ref a
  | .str z => .str z
noncomputable def Src.iter : Src → Addr → Nat → Heap → Prop
  | .lst a, it, i, h => h.IsListIter it a i
  | .str z, it, i, h => ∃ t, h.IsStrIter it "str_ascii_iterator" z t i
noncomputable def Src.items : Src → Hp → List V → Prop
  | .lst a, H, xs => H a = some (.lst xs)
  | .str z, _, xs => z.cps.all (· < 128) = true ∧ xs = z.cps.toList.map fun c => V.str (tx [c])
theorem Src.items_inj {S : Src} {H : Hp} {xs ys : List V} (h : S.items H xs) (h' : S.items H ys) : xs = ys := by
  cases S with
  | lst a => have h : H a = _ := h; have h' : H a = _ := h'; rw [h] at h'; cases h'; rfl
  | str z => exact h.2.trans h'.2.symm
theorem Src.keep {S : Src} {it : Addr} {i : Nat} {h h' : Heap} (st : S.iter it i h) (k : ∀ o, h.get? it = some o → h'.get? it = some o) : S.iter it i h' := by
  cases S with
  | lst a => exact Heap.IsListIter.at (show h.IsListIter it a i from st) k
  | str z => obtain ⟨t, o, e, r⟩ := st; exact ⟨t, o, k o e, r⟩
theorem Src.obj {S : Src} {it : Addr} {i : Nat} {h : Heap} (st : S.iter it i h) : ∃ o, h.get? it = some o ∧ ∀ v, o.data ≠ .cell v := by
  cases S with
  | lst a => obtain ⟨o, e, c, d⟩ := (show h.IsListIter it a i from st); exact ⟨o, e, fun v z => by rw [d] at z; cases z⟩
  | str z => obtain ⟨t, o, e, c, d⟩ := st; exact ⟨o, e, fun v z => by rw [d] at z; cases z⟩

section
variable {X : Cx} {pins : List (Addr × Obj)} {σ : St} {H : Hp} {s : Shared}
theorem Vals.inv {xs : List V} {us : List Value} {i : Nat} {u : Value} (r : Vals xs us) (e : us[i]? = some u) : ∃ x, xs[i]? = some x ∧ RelV x u := by
  have hl := r.length
  have hi : i < xs.length := by have := (List.getElem?_eq_some_iff.mp e).1; omega
  obtain ⟨u', e1, r1⟩ := r.get (i := i) (x := xs[i]) (by simp [hi])
  rw [e] at e1; cases e1
  exact ⟨_, by simp [hi], r1⟩
theorem Src.nx {S : Src} {it : Addr} {xs : List V} {i0 : Nat} (I : Inv X pins σ H s) (hx : S.items H xs) (hf : FpOk X pins H it) (st : S.iter it i0 s.heap) :
    ∃ (fp : List Addr) (P : Nat → Value → Prop) (St : Nat → Heap → Prop), Nx X.prog X.w it fp xs.length P St ∧ (∀ b ∈ fp, b = it ∨ ∃ o, H b = some o) ∧ (∀ i v, P i v → ∃ x, xs[i]? = some x ∧ RelV x v) ∧ St i0 s.heap ∧ (∀ i h, St i h → S.iter it i h) := by
  cases S with
  | lst a =>
    have hx : H a = some (.lst xs) := hx
    obtain ⟨its, rv, pl, hz⟩ := I.list (SqL.of (K := X.K) hx)
    have hne : a ≠ it := ne_of_none hx hf.1
    have hl := rv.length
    have N := nx_list (prog := X.prog) (w := X.w) it a hne its.toArray
    rw [List.size_toArray, ← hl] at N
    refine ⟨_, _, _, N, fun b hb => ?_, fun i v hv => rv.inv (by simpa using hv), ⟨st, pl.isList⟩, fun i h z => z.1⟩
    simp at hb
    rcases hb with rfl | rfl
    · exact .inl rfl
    · exact .inr ⟨_, hx⟩
  | str z =>
    obtain ⟨t, st⟩ := st
    have N := nx_ascii (prog := X.prog) (w := X.w) it z t
    have hl : z.cps.size = xs.length := by rw [hx.2]; simp
    rw [hl] at N
    refine ⟨_, _, _, N, fun b hb => .inl (by simpa using hb), fun i v hv => ?_, st, fun i h q => ⟨t, q⟩⟩
    obtain ⟨c, u, e, rfl⟩ := hv
    refine ⟨.str (tx [c]), ?_, ⟨u, rfl⟩⟩
    rw [hx.2]
    simp [e]
theorem Src.iterTo {S : Src} {xs : List V} {u : Value} (I : Inv X pins σ H s) (hx : S.items H xs) (r : RelV S.v u) :
    ∃ (pre : Heap → Prop) (o : Obj), IterTo u pre o ∧ pre s.heap ∧ (∀ h o', pre h → pre (h.push o')) ∧ o.isFreed = false ∧ ∀ (h : Heap) (it : Addr), h.get? it = some o → S.iter it 0 h := by
  cases S with
  | lst a =>
    have hx : H a = some (.lst xs) := hx
    obtain ⟨its, rv, pl, hz⟩ := I.list (SqL.of (K := X.K) hx)
    cases (show u = Value.ref a from r)
    exact ⟨_, _, iterTo_list a its.toArray, pl.isList, fun h o' z => z.push _, rfl, fun h it e => ⟨_, e, rfl, rfl⟩⟩
  | str z =>
    obtain ⟨t, rfl⟩ := (show ∃ t, u = Value.str z t from r)
    exact ⟨_, _, iterTo_ascii z t hx.1, True.intro, fun _ _ z => z, rfl, fun h it e => ⟨t, _, e, rfl, rfl⟩⟩
end

noncomputable def Itz (A B : Src) : It :=
  ⟨fun i H => ∃ xs ys x y, A.items H xs ∧ B.items H ys ∧ xs[i]? = some x ∧ ys[i]? = some y,
   fun i H v H' => ∃ p x y, v = .ref p ∧ H p = none ∧ H' = upd H p (.tup [x, y]) ∧ (∀ xs, A.items H xs → xs[i]? = some x) ∧ (∀ ys, B.items H ys → ys[i]? = some y),
   fun i H => ∃ xs, A.items H xs ∧ xs.length ≤ i⟩
theorem za_of {H : Hp} {z TI TO i1 i2 : Addr} {fp1 fp2 : List Addr} (nd : [z, TI, TO, i1, i2].Nodup) (fr : ∀ b ∈ [z, TI, TO, i1, i2], H b = none) (k1 : ∀ b ∈ fp1, b = i1 ∨ ∃ o, H b = some o) (k2 : ∀ b ∈ fp2, b = i2 ∨ ∃ o, H b = some o) : ZA z TI TO i1 i2 fp1 fp2 := by
  simp only [List.nodup_cons, List.mem_cons, List.not_mem_nil, or_false, not_or, List.nodup_nil, and_true, not_false_eq_true] at nd
  obtain ⟨⟨a1, a2, a3, a4⟩, ⟨a5, a6, a7⟩, ⟨a8, a9⟩, a10⟩ := nd
  have no1 : ∀ b ∈ [z, TI, TO, i1, i2], b ≠ i1 → b ∉ fp1 := fun b hb hn z => by
    rcases k1 b z with e | ⟨o, e⟩
    · exact hn e
    · rw [fr b hb] at e; cases e
  have no2 : ∀ b ∈ [z, TI, TO, i1, i2], b ≠ i2 → b ∉ fp2 := fun b hb hn z => by
    rcases k2 b z with e | ⟨o, e⟩
    · exact hn e
    · rw [fr b hb] at e; cases e
  exact ⟨Ne.symm a1, Ne.symm a2, a5, no1 _ (by simp) a3, no2 _ (by simp) a4, no1 _ (by simp) a8, no2 _ (by simp) a9, no1 _ (by simp) a6, no2 _ (by simp) a7, no2 _ (by simp) a10, no1 _ (by simp) (Ne.symm a10)⟩
theorem turn_zip {P : Program} {w : World} {K : PySem.W.Frag} {elts : List Expr} {x1 : Nat} {pos : Pos} (A B : Src) (z TI TO i1 i2 : Addr) (nd : [z, TI, TO, i1, i2].Nodup) :
    Turn P w K (.Tuple elts x1 pos) (Itz A B) [z, TI, TO, i1, i2] z (fun i h => (∃ f, IsZ h z TI TO .none f) ∧ IsPair h TI (.ref i1) (.ref i2) ∧ (∃ a b, IsPair h TO a b) ∧ A.iter i1 i h ∧ B.iter i2 i h) where
  mem := by simp
  obj := fun i h st b hb => by
    obtain ⟨⟨f, hz⟩, hTI, ⟨a, b', hTO⟩, s1, s2⟩ := st
    simp only [List.mem_cons, List.not_mem_nil, or_false] at hb
    rcases hb with rfl | rfl | rfl | rfl | rfl
    · exact ⟨_, hz, fun v z => nomatch z⟩
    · exact ⟨_, hTI, fun v z => nomatch z⟩
    · exact ⟨_, hTO, fun v z => nomatch z⟩
    · exact Src.obj (S := A) s1
    · exact Src.obj (S := B) s2
  keep := fun i h h' st k => by
    obtain ⟨⟨f, hz⟩, hTI, ⟨a, b', hTO⟩, s1, s2⟩ := st
    exact ⟨⟨f, k z (by simp) _ hz⟩, k TI (by simp) _ hTI, ⟨a, b', k TO (by simp) _ hTO⟩, Src.keep (S := A) s1 fun o e => k i1 (by simp) o e, Src.keep (S := B) s2 fun o e => k i2 (by simp) o e⟩
  item := by
    intro X hP hw hK hc i pins s σ H E I hf st hg
    subst hP hw hK
    obtain ⟨⟨f1, hz⟩, hTI, ⟨a, b, hTO⟩, s1, s2⟩ := st
    obtain ⟨xs, ys, x, y, hx, hy, ex, ey⟩ := hg
    obtain ⟨fp1, P1, St1, N1, k1, r1, t1, u1⟩ := Src.nx I hx (hf i1 (by simp)) s1
    obtain ⟨fp2, P2, St2, N2, k2, r2, t2, u2⟩ := Src.nx I hy (hf i2 (by simp)) s2
    have D : ZA z TI TO i1 i2 fp1 fp2 := za_of nd (fun b hb => (hf b hb).1) k1 k2
    have hi1 : i < xs.length := (List.getElem?_eq_some_iff.mp ex).1
    have hi2 : i < ys.length := (List.getElem?_eq_some_iff.mp ey).1
    refine next_item ⟨_, hz, rfl⟩ (zip_item_free N1 N2 D hz hTI hTO t1 t2 hi1 hi2 fun u v h1 tk p1 p2 hz1 hTI1 hTO1 st1 st2 hp hsz kp => ⟨_, rfl, ?_⟩)
    refine go_zip (s := { s with heap := h1, toks := tk }) hz1 fun h2 hz2 sb => ?_
    obtain ⟨x', ex', rx⟩ := r1 _ _ p1
    obtain ⟨y', ey', ry⟩ := r2 _ _ p2
    rw [ex] at ex'; cases ex'
    rw [ey] at ey'; cases ey'
    have lz : z < s.heap.objs.size := Heap.lt_size hz
    have hp2 : IsPair h2 s.heap.objs.size u v := sb.extBut _ _ (Nat.ne_of_gt lz) hp
    have ne1 : TI ≠ z := D.TIz
    have nei1 : i1 ≠ z := fun q => D.z1 (q ▸ N1.mem)
    have nei2 : i2 ≠ z := fun q => D.z2 (q ▸ N2.mem)
    have I2 : Inv X pins σ (upd H s.heap.objs.size (.tup [x, y])) { s with heap := h2, toks := tk } := I.turnedNew (ch := [z, TI, TO, i1, i2]) hf (fun c o hc e => by
      simp only [List.mem_cons, List.not_mem_nil, or_false, not_or] at hc
      exact sb.extBut c o hc.1 (kp c o hc.1 hc.2.2.1 hc.2.2.2.1 hc.2.2.2.2 e)) (Nat.le_refl _) ⟨by show 2 ≤ sizeLine; decide, [u, v], .cons rx (.cons ry .nil), ⟨_, hp2, rfl, _, rfl⟩⟩
    have lt : ∀ b ∈ [z, TI, TO, i1, i2], b < s.heap.objs.size := fun b hb => by
      simp only [List.mem_cons, List.not_mem_nil, or_false] at hb
      rcases hb with rfl | rfl | rfl | rfl | rfl
      · exact lz
      · exact Heap.lt_size hTI
      · exact Heap.lt_size hTO
      · obtain ⟨o, e, _⟩ := Src.obj (S := A) s1; exact Heap.lt_size e
      · obtain ⟨o, e, _⟩ := Src.obj (S := B) s2; exact Heap.lt_size e
    refine ⟨.ref s.heap.objs.size, _, I2, rfl, ⟨_, x, y, rfl, I.fresh, rfl, fun xs' q => ?_, fun ys' q => ?_⟩, ⟨⟨_, hz2⟩, sb.extBut _ _ ne1 hTI1, ⟨_, _, sb.extBut _ _ D.TOz hTO1⟩, Src.keep (S := A) (u1 _ _ st1) fun o e => sb.extBut _ _ nei1 e, Src.keep (S := B) (u2 _ _ st2) fun o e => sb.extBut _ _ nei2 e⟩, fun b hb => ?_⟩
    · rw [Src.items_inj q hx]; exact ex
    · rw [Src.items_inj q hy]; exact ey
    · rw [upd_ne (Nat.ne_of_lt (lt b hb))]; exact (hf b hb).1
  done := by
    intro X hP hw hK hc i pins s σ H E I hf st hg
    subst hP hw hK
    obtain ⟨⟨f1, hz⟩, hTI, ⟨a, b, hTO⟩, s1, s2⟩ := st
    obtain ⟨xs, hx, hle⟩ := hg
    obtain ⟨fp1, P1, St1, N1, k1, r1, t1, u1⟩ := Src.nx I hx (hf i1 (by simp)) s1
    have D : ZA z TI TO i1 i2 fp1 [i2] := za_of nd (fun b hb => (hf b hb).1) k1 fun b hb => .inl (by simpa using hb)
    have hh : X.A.in1.handled = none := by simpa using I.ok.hd hc
    refine next_end ⟨_, hz, rfl⟩ (zip_end_free (a := a) (b := b) N1 D hh hz hTI t1 hle fun h' e kp ⟨o, ho, hoc⟩ => ⟨e, o, rfl, ho, hoc, rfl, ?_⟩)
    exact I.turnedAll (t' := s.toks) (ch := [z, TI, TO, i1, i2]) hf fun c o hc e => by
      simp only [List.mem_cons, List.not_mem_nil, or_false, not_or] at hc
      exact kp c o hc.1 hc.2.2.2.1 e
  self := fun A i s Q E st h => by
    obtain ⟨⟨f1, hz⟩, _⟩ := st
    exact iter_zip hz h

section
variable {X : Cx}
noncomputable def iZip (ta : TA) : TI := fun σ H R => ta σ H fun vs H1 => Ex4 fun A B xs ys => vs = [Src.v A, Src.v B] ∧ A.items H1 xs ∧ B.items H1 ys ∧ R (Itz A B) H1
theorem pi_zip {elts : List Expr} {x1 : Nat} {tpos : Pos} {a b : Expr} {ta : TA} {p pos : Pos} (hg : Gl X "zip") (hm : X.mg "zip" = none) (ha : PA X [a, b] ta) (hs : starEach [a, b] X.env = [(false, eval a X.env), (false, eval b X.env)] := by rfl) (hs2 : starEach [b] X.env = [(false, eval b X.env)] := by rfl) :
    PI X (.Tuple elts x1 tpos) (.Call (.Name "zip" p) [a, b] [] pos) (iZip ta) := by
  intro pins s σ H R I h
  refine Call_ (ld_blt I hg hm (show bootBuiltins "zip" = some (.type "zip") from by decide +kernel) (PyProof.Rows.callWith_type1 (thn (ha pos pins s σ H _ I h) fun us s1 ⟨vs, H1, I1, r1, q1⟩ => ?_) (by rw [hs, hs2]) (by rw [hs2]; rfl)))
  obtain ⟨A, B, xs, ys, e, hA, hB, q⟩ := q1
  subst e
  obtain ⟨u, v, rfl, ru, rv⟩ := vals2 r1
  obtain ⟨p1, o1, T1, h1, _, f1, g1⟩ := Src.iterTo I1 hA ru
  obtain ⟨p2, o2, T2, h2, m2, f2, g2⟩ := Src.iterTo I1 hB rv
  refine call_zip T1 T2 m2 f1 f2 h1 h2 fun h' hz hTI hTO e1 e2 hsz k => iter_zip (s := { s1 with heap := h' }) hz ?_
  have nd : [s1.heap.objs.size + 4, s1.heap.objs.size + 2, s1.heap.objs.size + 3, s1.heap.objs.size, s1.heap.objs.size + 1].Nodup := by
    simp only [List.nodup_cons, List.mem_cons, List.not_mem_nil, or_false, not_or, List.nodup_nil, and_true, not_false_eq_true]
    refine ⟨⟨?_, ?_, ?_, ?_⟩, ⟨?_, ?_, ?_⟩, ⟨?_, ?_⟩, ?_⟩ <;> (show (_ : Nat) ≠ _) <;> omega
  refine ⟨s1.heap.objs.size + 4, _, _, _, H1, rfl, I1.kept (t' := s1.toks) k, turn_zip A B _ (s1.heap.objs.size + 2) (s1.heap.objs.size + 3) s1.heap.objs.size (s1.heap.objs.size + 1) nd, ⟨⟨_, hz⟩, hTI, ⟨_, _, hTO⟩, g1 _ _ e1, g2 _ _ e2⟩, fun b hb => ?_, q⟩
  have hle : s1.heap.objs.size ≤ b := by
    simp only [List.mem_cons, List.not_mem_nil, or_false] at hb
    rcases hb with rfl | rfl | rfl | rfl | rfl
    all_goals first | exact Nat.le_refl _ | exact Nat.le_add_right _ _
  exact I1.fpOk hle (I1.hok.fresh hle)

noncomputable def Ite (a : Addr) : It :=
  ⟨fun i H => ∃ xs x, H a = some (.lst xs) ∧ xs[i]? = some x,
   fun i H v H' => ∃ p x, v = .ref p ∧ H p = none ∧ H' = upd H p (.tup [.int i, x]) ∧ (∀ xs, H a = some (.lst xs) → xs[i]? = some x),
   fun i H => ∃ xs, H a = some (.lst xs) ∧ xs.length = i⟩
theorem turn_enum {P : Program} {w : World} {K : PySem.W.Frag} {elts : List Expr} {x1 : Nat} {pos : Pos} (a e it : Addr) (hei : e ≠ it) :
    Turn P w K (.Tuple elts x1 pos) (Ite a) [e, it] e (fun i h => (∃ old, IsEnum h e it i old) ∧ h.IsListIter it a i) where
  mem := by simp
  obj := fun i h st b hb => by
    obtain ⟨⟨old, he⟩, hi⟩ := st
    simp only [List.mem_cons, List.not_mem_nil, or_false] at hb
    rcases hb with rfl | rfl
    · exact ⟨_, he, fun v z => nomatch z⟩
    · obtain ⟨o, e, c, d⟩ := hi; exact ⟨o, e, fun v z => by rw [d] at z; cases z⟩
  keep := fun i h h' st k => by
    obtain ⟨⟨old, he⟩, hi⟩ := st
    exact ⟨⟨old, k e (by simp) _ he⟩, hi.at fun o x => k it (by simp) o x⟩
  item := by
    intro X hP hw hK hc i pins s σ H E I hf st hg
    subst hP hw hK
    obtain ⟨xs, x, hx, ex⟩ := hg
    obtain ⟨⟨old, he⟩, hit⟩ := st
    obtain ⟨its, rv, pl, hz⟩ := I.list (SqL.of (K := X.K) hx)
    have hle : a ≠ e := ne_of_none hx (hf e (by simp)).1
    have hli : a ≠ it := ne_of_none hx (hf it (by simp)).1
    have W := WalksT.enumerate (prog := X.prog) (w := X.w) (I.ok.hd hc) e it a hei hle hli its.toArray
    have hl := rv.length
    have hi : i < its.toArray.size := by have := (List.getElem?_eq_some_iff.mp ex).1; simp; omega
    refine W.item i s _ _ hi ⟨⟨old, he⟩, hit, pl.isList⟩ fun T vals h1 tk hP hT tup mid kp => ⟨_, rfl, ?_⟩
    refine W.go _ _ _ i T { s with heap := h1, toks := tk } _ _ mid fun h2 st2 kp2 => ?_
    obtain ⟨t, u, hu, rfl⟩ := hP
    obtain ⟨x', ex', rx⟩ := rv.inv (i := i) (u := u) (by simpa using hu)
    rw [ex] at ex'; cases ex'
    have hTw : T ∉ [e, it] := W.apart i T h1 mid
    obtain ⟨oT, eT, cT, nT, dT⟩ := tup
    have lt : ∀ b ∈ [e, it], b < s.heap.objs.size := fun b hb => by
      simp only [List.mem_cons, List.not_mem_nil, or_false] at hb
      rcases hb with rfl | rfl
      · exact Heap.lt_size he
      · obtain ⟨o, e, _⟩ := hit; exact Heap.lt_size e
    have I2 : Inv X pins σ (upd H T (.tup [.int i, x])) { s with heap := h2, toks := tk } := I.turnedNew (ch := [e, it]) hf (fun c o hc e => kp2 c o hc (kp c o hc e)) hT
      ⟨by show 2 ≤ sizeLine; decide, [_, u], .cons ⟨t, rfl⟩ (.cons rx .nil), ⟨oT, kp2 _ _ hTw eT, cT, nT, dT⟩⟩
    refine ⟨.ref T, _, I2, rfl, ⟨_, x, rfl, I.hok.fresh hT, rfl, fun ys q => ?_⟩, ⟨st2.1, st2.2.1⟩, fun b hb => ?_⟩
    · rw [hx] at q; cases q; exact ex
    · rw [upd_ne (Nat.ne_of_lt (Nat.lt_of_lt_of_le (lt b hb) hT))]; exact (hf b hb).1
  done := by
    intro X hP hw hK hc i pins s σ H E I hf st hg
    subst hP hw hK
    obtain ⟨xs, hx, hle'⟩ := hg
    obtain ⟨⟨old, he⟩, hit⟩ := st
    obtain ⟨its, rv, pl, hz⟩ := I.list (SqL.of (K := X.K) hx)
    have hle : a ≠ e := ne_of_none hx (hf e (by simp)).1
    have hli : a ≠ it := ne_of_none hx (hf it (by simp)).1
    have W := WalksT.enumerate (prog := X.prog) (w := X.w) (I.ok.hd hc) e it a hei hle hli its.toArray
    have hl := rv.length
    have hn : its.toArray.size = i := by simp; omega
    refine W.done s _ _ (by rw [hn]; exact ⟨⟨old, he⟩, hit, pl.isList⟩) fun h' tk kp => ⟨rfl, I.turnedAll (ch := [e, it]) hf kp⟩
  self := fun A i s Q E st h => by
    obtain ⟨⟨old, he⟩, _⟩ := st
    exact wpAny_pyIter_enum he h
noncomputable def iEnum (ta : TA) : TI := fun σ H R => ta σ H fun vs H1 => Ex2 fun a xs => vs = [.ref a] ∧ H1 a = some (.lst xs) ∧ R (Ite a) H1
theorem pi_enum {elts : List Expr} {x1 : Nat} {tpos : Pos} {a : Expr} {ta : TA} {p pos : Pos} (hg : Gl X "enumerate") (hm : X.mg "enumerate" = none) (ha : PA X [a] ta) (hs : starEach [a] X.env = [(false, eval a X.env)] := by rfl) :
    PI X (.Tuple elts x1 tpos) (.Call (.Name "enumerate" p) [a] [] pos) (iEnum ta) := by
  intro pins s σ H R I h
  refine Call_ (ld_blt I hg hm (show bootBuiltins "enumerate" = some (.type "enumerate") from by decide +kernel) (PyProof.Rows.callWith_type1 (thn (ha pos pins s σ H _ I h) fun us s1 ⟨vs, H1, I1, r1, q1⟩ => ?_) hs rfl))
  obtain ⟨l, xs, e, hl, q⟩ := q1
  subst e
  obtain ⟨u, rfl, ru⟩ := vals1 r1
  cases ru
  obtain ⟨its, rv, pl, hz⟩ := I1.list (SqL.of (K := X.K) hl)
  refine call_enumerate_list pl.isList fun h' he hit hsz k => wpAny_pyIter_enum (s := { s1 with heap := h' }) he ?_
  have nd : s1.heap.objs.size + 1 ≠ s1.heap.objs.size := Nat.succ_ne_self _
  refine ⟨s1.heap.objs.size + 1, _, _, _, H1, rfl, I1.kept (t' := s1.toks) k, turn_enum l (s1.heap.objs.size + 1) s1.heap.objs.size nd, ⟨⟨_, he⟩, hit⟩, fun b hb => ?_, q⟩
  have hle : s1.heap.objs.size ≤ b := by
    simp only [List.mem_cons, List.not_mem_nil, or_false] at hb
    rcases hb with rfl | rfl
    · exact Nat.le_succ _
    · exact Nat.le_refl _
  exact I1.fpOk hle (I1.hok.fresh hle)

end
end L2

namespace L2
open PySem PySem.Spec PyProof.Rows GT

section
variable {X : Cx}
inductive ClsV : V → Value → Prop where
  | ty (n : String) : ClsV (.ty n) (.type n)
  | own (a : Addr) : ClsV (.ref a) (.ref a)
theorem call_isinst : CallR X (.builtin "isinstance") (fun xs H Q => Ex5 fun x c t cv b => xs = [x, c] ∧ ClsV c cv ∧ TyOf X.K H x t ∧ PySem.W.kitOne X.K t cv = some b ∧ Q (.bl b) H) := by
  intro pins s σ H xs us Q I r h
  obtain ⟨x, c, t, cv, b, rfl, hc, ty, e, q⟩ := h
  obtain ⟨u, v, rfl, ru, rv⟩ := vals2 r
  have hv : v = cv := by cases hc <;> exact rv
  subst hv
  exact isinst_ok I ru ty e fun tk => ⟨.bl b, H, I.tok tk, rfl, q⟩
theorem pe_ty {x : Str} {n : String} {pos : Pos} (hg : Gl X x) (hm : X.mg x = none) (hv : bootBuiltins x = some (.type n)) (hn : x ≠ "__name__" := by decide) (hd : (x == ("__debug__" : Str)) = false := by decide) : PE X (.Name x pos) (tC (.ty n)) :=
  pe_bltn hg hm hv rfl hn hd

inductive EqT (K : PySem.W.Frag) (H : Hp) : V → V → Prop where
  | flat (x : V) (h : flatV x = true) : EqT K H x x
  | lst (a b : Addr) (xs : List V) (h1 : SqL K H a xs) (h2 : SqL K H b xs) (h : xs.all flatV = true) : EqT K H (.ref a) (.ref b)
theorem Paired.get {α β : Type} {R : α → β → Prop} : ∀ {xs : List α} {ys : List β}, Paired R xs ys → ∀ (j : Nat) (h1 : j < xs.length) (h2 : j < ys.length), R xs[j] ys[j]
  | _, _, .nil, j, h1, _ => absurd h1 (Nat.not_lt_zero _)
  | _, _, .cons r t, 0, _, _ => r
  | _, _, .cons r t, j + 1, h1, h2 => Paired.get t j (Nat.lt_of_succ_lt_succ h1) (Nat.lt_of_succ_lt_succ h2)
noncomputable def rStep (K : PySem.W.Frag) : V → Option Int → Option Int → Option Int → Hp → VK → Prop := fun x _ _ st H Q => Ex2 fun (a : Addr) (ns : List Int) => x = .ref a ∧ SqL K H a (ns.map V.int) ∧ st ≠ some 0 ∧ ∀ (ms : List Int) p, ms.length ≤ ns.length → H p = none → Q (.ref p) (upd H p (.lst (ms.map V.int)))
noncomputable def tStep (K : PySem.W.Frag) (te : TE) (tl th ts : TO) : TE := fun σ H Q => te σ H fun x H1 => tl σ H1 fun l H2 => th σ H2 fun u H3 => ts σ H3 fun st H4 => rStep K x l u st H4 Q
theorem pe_step {e st : Expr} {te : TE} {lo hi : Option Expr} {tl th ts : TO} {pos p2 : Pos} (he : PE X e te) (hl : PO X lo tl) (hu : PO X hi th) (hst : PO X (some st) ts) : PE X (.Subscript e (.Slice lo hi (some st) p2) pos) (tStep X.K te tl th ts) := by
  intro pins s σ H Q I h
  refine Subscript_ (thn (he pins s σ H _ I h) fun v s1 ⟨x, H1, I1, r1, q1⟩ => ?_)
  refine wpAny_Slice (thn (hl pins s1 σ H1 _ I1 q1) fun vl s2 ⟨l, H2, I2, pl, q2⟩ => thn (hu pins s2 σ H2 _ I2 q2) fun vu s3 ⟨u, H3, I3, pu, q3⟩ => thn (hst pins s3 σ H3 _ I3 q3) fun vs s4 ⟨w, H4, I4, ps, q4⟩ => ?_)
  have I5 : Inv X pins σ H4 { s4 with heap := s4.heap.push { cls := .type "slice", data := .fields #[vl, vu, vs] } } := I4.kept (t' := s4.toks) fun b ob q => Heap.get?_push_of_some _ q
  obtain ⟨a, ns, rfl, hx, h0, q⟩ := q4
  cases r1
  obtain ⟨its, r, ht, hz⟩ := I5.list hx
  have hi := intsAre_of r
  have hpick := IntsAre.pick hi l u w
  have hsz := slicePick_size_le its.toArray l u w
  have hlen := r.length
  rw [List.length_map] at hlen
  have hlp : (pickNums ns l u w).length ≤ ns.length := by
    have e := (vals_ints hpick).length
    rw [List.length_map] at e
    have e2 : (slicePick its.toArray l u w).toList.length = (slicePick its.toArray l u w).size := Array.length_toList
    have e3 : its.toArray.size = its.length := by simp
    omega
  refine tail_any (ops := [.ref a, .ref s4.heap.objs.size]) ht.isList.typeIs slot_list_getitem.lookup (wpAny_getItem_list_slice ht.isList (Heap.IsSliceOf.new ..) pl pu ps h0 ?_ (by rw [List.size_toArray, ← r.length]; exact hz)) (by with_unfolding_all rfl)
  refine ⟨.ref _, _, I5.laid (t' := s4.toks) (o := .lst ((pickNums ns l u w).map V.int)) (fun b ob q => Heap.get?_push_of_some _ q) (Nat.le_refl _) ?_, rfl, q _ _ hlp (I5.hok.fresh (Nat.le_refl _))⟩
  refine ⟨?_, (slicePick its.toArray l u w).toList, 0, vals_ints hpick, Heap.get?_push_size _ rfl⟩
  rw [List.length_map]
  rw [List.length_map] at hz
  omega

noncomputable def SetS (P : Program) (w : World) (a : Addr) (S : Str → Bool) (n : Nat) : HO := .ext fun h => h.SetOf (strKind P w) a S n
theorem setS_ok {P : Program} {w : World} {H : Hp} {h : Heap} {a : Addr} {S : Str → Bool} {n : Nat} (x : h.SetOf (strKind P w) a S n) : ObjOk P w H h a (SetS P w a S n) := by
  refine ⟨x, ?_, fun h1 h2 q k => ?_⟩
  · obtain ⟨o, es, ep, t, e, _⟩ := x; exact ⟨o, e⟩
  · obtain ⟨o, es, ep, t, e, r⟩ := q; exact ⟨o, es, ep, t, k o e, r⟩
noncomputable def sgn (l : List Nat) : List Str := GS.fm (GS.sg (tx l)) l.length
theorem sg_tx (l : List Nat) (i : Nat) : GS.sg (tx l) i = tx [l.getD i 0] := by
  show (⟨#[l.toArray.getD i 0]⟩ : Str) = ⟨[l.getD i 0].toArray⟩
  simp [Array.getD_eq_getD_getElem?, List.getD_eq_getElem?_getD]
theorem mem_sgn (l : List Nat) (k : Str) : k ∈ sgn l ↔ ∃ c ∈ l, k = tx [c] := by
  unfold sgn
  rw [GS.mem_fm]
  constructor
  · rintro ⟨j, hj, rfl⟩
    refine ⟨l[j], List.getElem_mem hj, ?_⟩
    rw [sg_tx, List.getD_eq_getElem?_getD, List.getElem?_eq_getElem hj]; rfl
  · rintro ⟨c, hc, rfl⟩
    obtain ⟨j, hj, rfl⟩ := List.getElem_of_mem hc
    exact ⟨j, hj, by rw [sg_tx, List.getD_eq_getElem?_getD, List.getElem?_eq_getElem hj]; rfl⟩
theorem sgn_nodup (l : List Nat) : (sgn l).Nodup := GS.fm_nodup _ _
theorem fm_mono_len (val : Nat → Str) : ∀ {i j : Nat}, i ≤ j → (GS.fm val i).length ≤ (GS.fm val j).length := by
  intro i j h
  induction h with
  | refl => exact Nat.le_refl _
  | @step m _ ih =>
    refine Nat.le_trans ih ?_
    show _ ≤ (if val m ∈ GS.fm val m then GS.fm val m else GS.fm val m ++ [val m]).length
    split <;> simp
theorem sg_out (l : List Nat) {i : Nat} (h : l.length ≤ i) : GS.sg (tx l) i = tx [0] := by
  rw [sg_tx, List.getD_eq_getElem?_getD, List.getElem?_eq_none h]; rfl
theorem fm_le (l : List Nat) (i : Nat) : (GS.fm (GS.sg (tx l)) i).length ≤ (sgn l).length + 1 := by
  by_cases h : i ≤ l.length
  · exact Nat.le_succ_of_le (fm_mono_len _ h)
  · have key : ∀ k, (GS.fm (GS.sg (tx l)) (l.length + k)).length ≤ (sgn l).length + 1 ∧ (0 < k → tx [0] ∈ GS.fm (GS.sg (tx l)) (l.length + k)) := by
      intro k
      induction k with
      | zero => exact ⟨Nat.le_succ _, fun h => absurd h (Nat.lt_irrefl _)⟩
      | succ k ih =>
        have e : GS.fm (GS.sg (tx l)) (l.length + (k + 1)) = if GS.sg (tx l) (l.length + k) ∈ GS.fm (GS.sg (tx l)) (l.length + k) then GS.fm (GS.sg (tx l)) (l.length + k) else GS.fm (GS.sg (tx l)) (l.length + k) ++ [GS.sg (tx l) (l.length + k)] := rfl
        rw [e, sg_out l (Nat.le_add_right _ _)]
        by_cases hk : 0 < k
        · rw [if_pos (ih.2 hk)]
          exact ⟨ih.1, fun _ => ih.2 hk⟩
        · have : k = 0 := by omega
          subst this
          split
          · rename_i hm; exact ⟨ih.1, fun _ => hm⟩
          · refine ⟨?_, fun _ => by simp⟩
            rw [List.length_append]
            show (GS.fm (GS.sg (tx l)) l.length).length + 1 ≤ _
            exact Nat.le_refl _
    obtain ⟨k, rfl⟩ : ∃ k, i = l.length + k := ⟨i - l.length, by omega⟩
    exact (key k).1
theorem call_setS (hc : X.calm = true) : CallR X (.type "set") (fun xs H Q => ∃ l : List Nat, xs = [.str (tx l)] ∧ (sgn l).length ≤ 100 ∧ ∀ p, H p = none → Q (.ref p) (upd H p (SetS X.prog X.w p (fun k => decide (k ∈ sgn l)) (sgn l).length))) := by
  intro pins s σ H xs us Q I r h
  obtain ⟨l, rfl, hl, q⟩ := h
  obtain ⟨u, rfl, ru⟩ := vals1 r
  obtain ⟨t, rfl⟩ := ru
  have hz : (tx l).cps.size = l.length := by show l.toArray.size = _; simp
  refine GS.call_set_str (I.ok.hd hc) (fun i => ?_) fun h' tk hS hk => ?_
  · have := fm_le l i
    unfold scanBound
    omega
  · rw [hz] at hS
    exact ⟨.ref s.heap.objs.size, _, I.laid (t' := tk) (fun b o e => hk b o (Heap.lt_size e) e) (Nat.le_refl _) (setS_ok hS), rfl, q _ I.fresh⟩
theorem call_lenS : CallR X (.builtin "len") (fun xs H Q => Ex3 fun p S n => xs = [.ref p] ∧ H p = some (SetS X.prog X.w p S n) ∧ Q (.int n) H) := by
  intro pins s σ H xs us Q I r h
  obtain ⟨p, S, n, rfl, hp, q⟩ := h
  obtain ⟨u, rfl, ru⟩ := vals1 r
  cases ru
  obtain ⟨hS, _⟩ := I.hok p _ hp
  obtain ⟨o, es, ep, t, e, hex, hd, _, _, hb, hf, hn⟩ := id hS
  refine call_len_set e hex hd hf ?_ ?_
  · unfold scanBound at hb; omega
  · rw [hn]; exact ⟨.int n, H, I.tok _, ⟨_, rfl⟩, q⟩
end
end L2

namespace L2
open PySem PySem.Spec PyProof.Rows GT

structure Wk (J : It) (H1 : Hp) (xs : List V) : Prop where
  go : ∀ H', Same H1 H' → ∀ (i : Nat) (x : V), xs[i]? = some x → J.go i H'
  yld : ∀ H', Same H1 H' → ∀ (i : Nat) (x y : V) (H2 : Hp), xs[i]? = some x → J.yld i H' y H2 → y = x ∧ H2 = H'
  stop : ∀ H', Same H1 H' → J.stop xs.length H'
theorem wk_list {K : PySem.W.Frag} {H1 : Hp} {a : Addr} {xs : List V} (h : SqL K H1 a xs) : Wk (Itl K a) H1 xs where
  go := fun H' s i x e => ⟨xs, x, s.seq h, e⟩
  yld := fun H' s i x y H2 e q => ⟨by have := q.2 xs (s.seq h); rw [e] at this; exact (Option.some.inj this).symm, q.1⟩
  stop := fun H' s => ⟨xs, s.seq h, Nat.le_refl _⟩
theorem wk_str {H1 : Hp} (l : List Nat) : Wk (Its l) H1 (l.map fun c => V.str (tx [c])) where
  go := fun H' s i x e => by
    have := (List.getElem?_eq_some_iff.mp e).1
    rw [List.length_map] at this
    exact this
  yld := fun H' s i x y H2 e q => by
    obtain ⟨e1, c, hc, rfl⟩ := q
    rw [List.getElem?_map, hc] at e
    exact ⟨Option.some.inj e, e1⟩
  stop := fun H' s => by show l.length ≤ _; rw [List.length_map]; exact Nat.le_refl _
theorem wk_range {H1 : Hp} (lo : Int) (n : Nat) : Wk (Itr lo n) H1 ((List.range n).map fun (k : Nat) => V.int (lo + (k : Int))) where
  go := fun H' s i x e => by
    have := (List.getElem?_eq_some_iff.mp e).1
    rw [List.length_map, List.length_range] at this
    exact this
  yld := fun H' s i x y H2 e q => by
    obtain ⟨e1, rfl⟩ := q
    have hi : i < n := by have := (List.getElem?_eq_some_iff.mp e).1; rw [List.length_map, List.length_range] at this; exact this
    rw [List.getElem?_map, List.getElem?_range hi] at e
    exact ⟨Option.some.inj e, e1⟩
  stop := fun H' s => by show n ≤ _; rw [List.length_map, List.length_range]; exact Nat.le_refl _

theorem Same.upd {H H' : Hp} {p : Addr} {o : HO} (e : Same H H') (h : H p = none) : Same H (upd H' p o) := fun b u z => by
  rw [upd_ne (ne_of_none z h)]; exact e b u z
theorem same_new {H : Hp} {p : Addr} {o : HO} (h : H p = none) : Same H (upd H p o) := (Same.refl H).upd h

section
variable {nt : Nat} {cap : List Nat} {g : TG} {tc : TT} {te : TE} {J : It} {σ : St} {H1 : Hp} {Q : VK}
theorem lcb_flat {α : Type} (zs : List α) (ι f : α → V) (p : α → Bool) {cs : St} (hw : Wk J H1 (zs.map ι)) (hcs : cst 1 cap σ = none :: cs) (hz : zs.length < sizeLine)
    (htc : ∀ (i : Nat) (z : α) (H' : Hp) (Kt : Bool → Hp → Prop), zs[i]? = some z → Same H1 H' → (∀ H5, Same H' H5 → Kt (p z) H5) → tc (some (ι z) :: cs) H' Kt)
    (hte : ∀ (i : Nat) (z : α) (H' : Hp) (Kt : VK), zs[i]? = some z → p z = true → Same H1 H' → (∀ H5, Same H' H5 → Kt (f z) H5) → te (some (ι z) :: cs) H' Kt)
    (hd : ∀ D H', Same H1 H' → H1 D = none → H' D = some (.lst ((zs.filter p).map f)) → Q (.ref D) H') : LCB 1 cap (gName 0) tc te J σ H1 Q := by
  intro D hD
  refine ⟨fun i m σ' H' => i ≤ zs.length ∧ m = zs.length - i ∧ (∃ o, σ' = o :: cs) ∧ Same H1 H' ∧ H' D = some (.lst (((zs.take i).filter p).map f)), ⟨zs.length, Nat.zero_le _, rfl, ⟨none, hcs⟩, same_new hD, by rw [upd_same]; rfl⟩, ?_⟩
  rintro i m σ' H' ⟨hi, rfl, ⟨o, rfl⟩, hs, hDv⟩
  by_cases e : i = zs.length
  · subst e
    refine .inl ⟨by have := hw.stop H' hs; rw [List.length_map] at this; exact this, hd D H' hs hD ?_⟩
    rw [hDv, List.take_length]
  · have hlt : i < zs.length := by omega
    have hx : (zs.map ι)[i]? = some (ι zs[i]) := by simp [hlt]
    refine .inr ⟨hw.go H' hs i _ hx, fun σ2 H2 => (∃ o, σ2 = o :: cs) ∧ Same H1 H2 ∧ H2 D = some (.lst (((zs.take (i + 1)).filter p).map f)), fun σ'' H'' ⟨q1, q2, q3⟩ => ⟨zs.length - (i + 1), by omega, by omega, rfl, q1, q2, q3⟩, fun x H2 hy => ?_⟩
    obtain ⟨rfl, rfl⟩ := hw.yld H' hs i _ _ _ hx hy
    have hz' : zs[i]? = some zs[i] := by simp [hlt]
    have htk : zs.take (i + 1) = zs.take i ++ [zs[i]] := by rw [List.take_add_one, hz']; rfl
    show tc (some (ι zs[i]) :: cs) _ _
    refine htc i zs[i] _ _ hz' hs fun H5 s5 => ?_
    cases hp : p zs[i] with
    | true =>
      refine iteT (hte i zs[i] H5 _ hz' hp (hs.trans s5) fun H6 s6 => ?_)
      refine ⟨_, s6 _ _ (s5 _ _ hDv), ?_, ⟨_, rfl⟩, ((hs.trans s5).trans s6).upd hD, ?_⟩
      · rw [List.length_map]
        refine Nat.lt_of_le_of_lt (List.length_filter_le _ _) ?_
        rw [List.length_take]; omega
      · rw [upd_same, htk, List.filter_append, List.map_append]
        congr 2
        simp [hp]
    | false =>
      refine iteF ⟨⟨_, rfl⟩, hs.trans s5, ?_⟩
      rw [s5 _ _ hDv, htk, List.filter_append, List.map_append]
      simp [hp]
theorem lcb_map {α : Type} (zs : List α) (ι f : α → V) {cs : St} (hw : Wk J H1 (zs.map ι)) (hcs : cst 1 cap σ = none :: cs) (hz : zs.length < sizeLine)
    (hte : ∀ (i : Nat) (z : α) (H' : Hp) (Kt : VK), zs[i]? = some z → Same H1 H' → (∀ H5, Same H' H5 → Kt (f z) H5) → te (some (ι z) :: cs) H' Kt)
    (hd : ∀ D H', Same H1 H' → H1 D = none → H' D = some (.lst (zs.map f)) → Q (.ref D) H') : LCB 1 cap (gName 0) tYes te J σ H1 Q :=
  lcb_flat zs ι f (fun _ => true) hw hcs hz (fun i z H' Kt _ _ k => k H' (Same.refl _)) (fun i z H' Kt hz _ hs k => hte i z H' Kt hz hs k) fun D H' a b c => hd D H' a b (by rw [c, List.filter_eq_self.mpr fun _ _ => rfl])

structure RefsAt (H0 H : Hp) (D : Addr) (ps : List Addr) (xss : List (List V)) : Prop where
  len : ps.length = xss.length
  at_ : ∀ (i : Nat) (p : Addr) (xs : List V), ps[i]? = some p → xss[i]? = some xs → H p = some (.lst xs) ∧ H0 p = none ∧ p ≠ D
theorem lcb_refs {α : Type} (zs : List α) (ι : α → V) (f : α → List V) {cs : St} (hw : Wk J H1 (zs.map ι)) (hcs : cst 1 cap σ = none :: cs) (hz : zs.length < sizeLine)
    (hte : ∀ (i : Nat) (z : α) (H' : Hp) (Kt : VK), zs[i]? = some z → Same H1 H' → (∀ p H5, Same H' H5 → H' p = none → H5 p = some (.lst (f z)) → Kt (.ref p) H5) → te (some (ι z) :: cs) H' Kt)
    (hd : ∀ D ps H', Same H1 H' → H1 D = none → H' D = some (.lst (ps.map V.ref)) → RefsAt H1 H' D ps (zs.map f) → Q (.ref D) H') : LCB 1 cap (gName 0) tYes te J σ H1 Q := by
  intro D hD
  refine ⟨fun i m σ' H' => i ≤ zs.length ∧ m = zs.length - i ∧ (∃ o, σ' = o :: cs) ∧ Same H1 H' ∧ ∃ ps : List Addr, H' D = some (.lst (ps.map V.ref)) ∧ RefsAt H1 H' D ps ((zs.take i).map f), ⟨zs.length, Nat.zero_le _, rfl, ⟨none, hcs⟩, same_new hD, [], by rw [upd_same]; rfl, ⟨rfl, fun i p xs e => by simp at e⟩⟩, ?_⟩
  rintro i m σ' H' ⟨hi, rfl, ⟨o, rfl⟩, hs, ps, hDv, hR⟩
  by_cases e : i = zs.length
  · subst e
    refine .inl ⟨by have := hw.stop H' hs; rw [List.length_map] at this; exact this, hd D ps H' hs hD hDv ?_⟩
    rw [List.take_length] at hR
    exact hR
  · have hlt : i < zs.length := by omega
    have hx : (zs.map ι)[i]? = some (ι zs[i]) := by simp [hlt]
    refine .inr ⟨hw.go H' hs i _ hx, fun σ2 H2 => (∃ o, σ2 = o :: cs) ∧ Same H1 H2 ∧ ∃ ps : List Addr, H2 D = some (.lst (ps.map V.ref)) ∧ RefsAt H1 H2 D ps ((zs.take (i + 1)).map f), fun σ'' H'' ⟨q1, q2, q3⟩ => ⟨zs.length - (i + 1), by omega, by omega, rfl, q1, q2, q3⟩, fun x H2 hy => ?_⟩
    obtain ⟨rfl, rfl⟩ := hw.yld H' hs i _ _ _ hx hy
    have hz' : zs[i]? = some zs[i] := by simp [hlt]
    have htk : zs.take (i + 1) = zs.take i ++ [zs[i]] := by rw [List.take_add_one, hz']; rfl
    refine hte i zs[i] _ _ hz' hs fun p H5 s5 hp hp5 => ?_
    have hpD : p ≠ D := fun z => by rw [z, hDv] at hp; cases hp
    have lps : ps.length = i := by rw [hR.len, List.length_map, List.length_take]; omega
    refine ⟨_, s5 _ _ hDv, ?_, ⟨_, rfl⟩, (hs.trans s5).upd hD, ps ++ [p], ?_, ?_, fun j q xs ej ex => ?_⟩
    · rw [List.length_map, lps]; omega
    · rw [upd_same, List.map_append]; rfl
    · rw [List.length_append, lps, List.length_map, List.length_take]; simp; omega
    · by_cases hj : j < i
      · rw [List.getElem?_append_left (by omega)] at ej
        rw [htk, List.map_append, List.getElem?_append_left (by rw [List.length_map, List.length_take]; omega)] at ex
        obtain ⟨a1, a2, a3⟩ := hR.at_ j q xs ej ex
        exact ⟨by rw [upd_ne a3]; exact s5 _ _ a1, a2, a3⟩
      · have hji : j = i := by
          have := (List.getElem?_eq_some_iff.mp ej).1
          rw [List.length_append, lps] at this
          simp at this; omega
        subst hji
        rw [List.getElem?_append_right (by omega), lps, Nat.sub_self] at ej
        rw [htk, List.map_append, List.getElem?_append_right (by rw [List.length_map, List.length_take]; omega), List.length_map, List.length_take] at ex
        have e0 : j - min j zs.length = 0 := by omega
        rw [e0] at ex
        cases ej; cases ex
        refine ⟨by rw [upd_ne hpD]; exact hp5, ?_, hpD⟩
        cases hq : H1 p with
        | none => rfl
        | some u => rw [hs _ _ hq] at hp; cases hp

theorem filt {α : Type} (l : List α) : l.filter (fun _ => true) = l := List.filter_eq_self.mpr fun _ _ => rfl
structure Wk2 (J : It) (H1 : Hp) (xs : List (V × V)) : Prop where
  go : ∀ H', Same H1 H' → ∀ (i : Nat) (x : V × V), xs[i]? = some x → J.go i H'
  yld : ∀ H', Same H1 H' → ∀ (i : Nat) (x : V × V) (y : V) (H2 : Hp), xs[i]? = some x → J.yld i H' y H2 → ∃ p, y = .ref p ∧ H' p = none ∧ H2 = upd H' p (.tup [x.1, x.2])
  stop : ∀ H', Same H1 H' → J.stop xs.length H'
noncomputable def Src.Ok (S : Src) (H1 : Hp) (xs : List V) : Prop := ∀ H', Same H1 H' → S.items H' xs
theorem src_lst {H1 : Hp} {a : Addr} {xs : List V} (h : H1 a = some (.lst xs)) : Src.Ok (.lst a) H1 xs := fun H' s => s _ _ h
theorem src_str {H1 : Hp} {l : List Nat} (h : ∀ c ∈ l, c < 128) : Src.Ok (.str (tx l)) H1 (l.map fun c => V.str (tx [c])) := fun H' s => by
  refine ⟨?_, rfl⟩
  show l.toArray.all (· < 128) = true
  simp only [List.all_toArray, List.all_eq_true, decide_eq_true_eq]
  exact h
theorem wk_zip {A B : Src} {xs ys : List V} (hA : A.Ok H1 xs) (hB : B.Ok H1 ys) (hl : xs.length = ys.length) : Wk2 (Itz A B) H1 (xs.zip ys) where
  go := fun H' s i x e => by
    obtain ⟨e1, e2⟩ := List.getElem?_zip_eq_some.mp e
    exact ⟨xs, ys, x.1, x.2, hA H' s, hB H' s, e1, e2⟩
  yld := fun H' s i x y H2 e q => by
    obtain ⟨e1, e2⟩ := List.getElem?_zip_eq_some.mp e
    obtain ⟨p, a, b, rfl, hp, rfl, q1, q2⟩ := q
    have z1 := q1 xs (hA H' s)
    have z2 := q2 ys (hB H' s)
    rw [e1] at z1; rw [e2] at z2
    cases z1; cases z2
    exact ⟨p, rfl, hp, rfl⟩
  stop := fun H' s => ⟨xs, hA H' s, by rw [List.length_zip]; omega⟩
theorem wk_enum {a : Addr} {xs : List V} (h : H1 a = some (.lst xs)) : Wk2 (Ite a) H1 (((List.range xs.length).map fun (k : Nat) => V.int k).zip xs) where
  go := fun H' s i x e => by
    obtain ⟨e1, e2⟩ := List.getElem?_zip_eq_some.mp e
    exact ⟨xs, x.2, s _ _ h, e2⟩
  yld := fun H' s i x y H2 e q => by
    obtain ⟨e1, e2⟩ := List.getElem?_zip_eq_some.mp e
    obtain ⟨p, b, rfl, hp, rfl, q1⟩ := q
    have z1 := q1 xs (s _ _ h)
    rw [e2] at z1
    cases z1
    have hi : i < xs.length := (List.getElem?_eq_some_iff.mp e2).1
    rw [List.getElem?_map, List.getElem?_range hi] at e1
    have e1 := Option.some.inj e1
    exact ⟨p, rfl, hp, by rw [← e1]⟩
  stop := fun H' s => ⟨xs, s _ _ h, by rw [List.length_zip, List.length_map, List.length_range]; omega⟩
noncomputable abbrev gPair (K : PySem.W.Frag) : TG := gTup K 2 (gCons (gName 0) (gCons (gName 1) gNil))
theorem lcb_pairs {K : PySem.W.Frag} {α : Type} (zs : List α) (ι κ f : α → V) (p : α → Bool) {cs : St} (hw : Wk2 J H1 (zs.map fun z => (ι z, κ z))) (hcs : cst 2 cap σ = none :: none :: cs) (hz : zs.length < sizeLine)
    (htc : ∀ (i : Nat) (z : α) (H' : Hp) (Kt : Bool → Hp → Prop), zs[i]? = some z → Same H1 H' → (∀ H5, Same H' H5 → Kt (p z) H5) → tc (some (ι z) :: some (κ z) :: cs) H' Kt)
    (hte : ∀ (i : Nat) (z : α) (H' : Hp) (Kt : VK), zs[i]? = some z → p z = true → Same H1 H' → (∀ H5, Same H' H5 → Kt (f z) H5) → te (some (ι z) :: some (κ z) :: cs) H' Kt)
    (hd : ∀ D H', Same H1 H' → H1 D = none → H' D = some (.lst ((zs.filter p).map f)) → Q (.ref D) H') : LCB 2 cap (gPair K) tc te J σ H1 Q := by
  intro D hD
  refine ⟨fun i m σ' H' => i ≤ zs.length ∧ m = zs.length - i ∧ (∃ o o', σ' = o :: o' :: cs) ∧ Same H1 H' ∧ H' D = some (.lst (((zs.take i).filter p).map f)), ⟨zs.length, Nat.zero_le _, rfl, ⟨none, none, hcs⟩, same_new hD, by rw [upd_same]; rfl⟩, ?_⟩
  rintro i m σ' H' ⟨hi, rfl, ⟨o, o', rfl⟩, hs, hDv⟩
  by_cases e : i = zs.length
  · subst e
    refine .inl ⟨by have := hw.stop H' hs; rw [List.length_map] at this; exact this, hd D H' hs hD ?_⟩
    rw [hDv, List.take_length]
  · have hlt : i < zs.length := by omega
    have hx : (zs.map fun z => (ι z, κ z))[i]? = some (ι zs[i], κ zs[i]) := by simp [hlt]
    refine .inr ⟨hw.go H' hs i _ hx, fun σ2 H2 => (∃ o o', σ2 = o :: o' :: cs) ∧ Same H1 H2 ∧ H2 D = some (.lst (((zs.take (i + 1)).filter p).map f)), fun σ'' H'' ⟨q1, q2, q3⟩ => ⟨zs.length - (i + 1), by omega, by omega, rfl, q1, q2, q3⟩, fun x H2 hy => ?_⟩
    obtain ⟨q, rfl, hq, rfl⟩ := hw.yld H' hs i _ _ _ hx hy
    have hz' : zs[i]? = some zs[i] := by simp [hlt]
    have htk : zs.take (i + 1) = zs.take i ++ [zs[i]] := by rw [List.take_add_one, hz']; rfl
    have hqs : Same H' (upd H' q (.tup [ι zs[i], κ zs[i]])) := same_new hq
    refine ⟨q, _, rfl, SqT.of upd_same, rfl, _, _, rfl, _, _, rfl, rfl, ?_⟩
    show tc (some (ι zs[i]) :: some (κ zs[i]) :: cs) _ _
    refine htc i zs[i] _ _ hz' (hs.trans hqs) fun H5 s5 => ?_
    have s5' := hqs.trans s5
    cases hp : p zs[i] with
    | true =>
      refine iteT (hte i zs[i] H5 _ hz' hp (hs.trans s5') fun H6 s6 => ?_)
      refine ⟨_, s6 _ _ (s5' _ _ hDv), ?_, ⟨_, _, rfl⟩, ((hs.trans s5').trans s6).upd hD, ?_⟩
      · rw [List.length_map]
        refine Nat.lt_of_le_of_lt (List.length_filter_le _ _) ?_
        rw [List.length_take]; omega
      · rw [upd_same, htk, List.filter_append, List.map_append]
        congr 2
        simp [hp]
    | false =>
      refine iteF ⟨⟨_, _, rfl⟩, hs.trans s5', ?_⟩
      rw [s5' _ _ hDv, htk, List.filter_append, List.map_append]
      simp [hp]
end

noncomputable abbrev gPairAt (K : PySem.W.Frag) (a b : Nat) : TG := gTup K 2 (gCons (gName a) (gCons (gName b) gNil))
theorem for_pairs {K : PySem.W.Frag} {a b : Nat} {J : It} {xs : List (V × V)} {tb : TS} {D : Ends} {σ : St} {H1 : Hp} (hw : Wk2 J H1 xs) (Pv : Nat → St → Hp → Prop) (h0 : Pv 0 σ H1) (hsm : ∀ i σ H, Pv i σ H → Same H1 H)
    (hs : ∀ (i : Nat) (x y : V) (p : Addr) (σ : St) (H : Hp), xs[i]? = some (x, y) → Pv i σ H → H p = none → tb { D with nx := Pv (i + 1), ct := Pv (i + 1), bk := D.nx } ((σ.set a (some x)).set b (some y)) (upd H p (.tup [x, y]))) (hd : ∀ σ H, Pv xs.length σ H → D.nx σ H) :
    ∃ W : Nat → Nat → St → Hp → Prop, (∃ m, W 0 m σ H1) ∧ ∀ i m σ H, W i m σ H →
      (J.stop i H ∧ D.nx σ H) ∨ (J.go i H ∧ ∃ N : St → Hp → Prop, (∀ σ' H', N σ' H' → ∃ m', m' < m ∧ W (i + 1) m' σ' H') ∧ ∀ x H', J.yld i H x H' → gPairAt K a b x σ H' fun σ2 H2 => tb { D with nx := N, ct := N, bk := D.nx } σ2 H2) := by
  refine ⟨fun i m σ H => i ≤ xs.length ∧ m = xs.length - i ∧ Pv i σ H, ⟨xs.length, Nat.zero_le _, rfl, h0⟩, ?_⟩
  rintro i m σ H ⟨hi, rfl, hp⟩
  have s := hsm i σ H hp
  by_cases e : i = xs.length
  · subst e; exact .inl ⟨hw.stop H s, hd σ H hp⟩
  · have hlt : i < xs.length := by omega
    have hx : xs[i]? = some xs[i] := by simp [hlt]
    refine .inr ⟨hw.go H s i _ hx, Pv (i + 1), fun σ' H' q => ⟨xs.length - (i + 1), by omega, by omega, rfl, q⟩, fun x H' hy => ?_⟩
    obtain ⟨q, rfl, hq, rfl⟩ := hw.yld H s i _ _ _ hx hy
    refine ⟨q, _, rfl, SqT.of upd_same, rfl, _, _, rfl, _, _, rfl, rfl, ?_⟩
    exact hs i xs[i].1 xs[i].2 q σ H hx hp hq
section
variable {X : Cx} {scope : Scope}
theorem cs0 {ns : List Str} (hk : scope.kind = .function := by rfl) (h1 : ∀ y ∈ scope.names, y.2 ≠ .cell := by decide +kernel) (h2 : ∀ y ∈ scope.names, y.2 = .local → scope.names.lookup y.1 = some .local := by decide +kernel)
    (h3 : ∀ y ∈ scope.names, y.2 ≠ .free := by decide +kernel) : CScope X scope ns ns.length [] :=
  ⟨hk, h1, h2, fun y hy e => absurd e (h3 y hy), rfl, fun j k e => by simp at e⟩
theorem cs1 {ns : List Str} {x : Str} {k : Nat} (hx : X.N[k]? = some x) (hc : X.env.kindOf x = some .cell ∨ X.env.kindOf x = some .free) (hl : scope.names.lookup x = some .free) (h3 : ∀ y ∈ scope.names, y.2 = .free → y.1 = x)
    (hk : scope.kind = .function := by rfl) (h1 : ∀ y ∈ scope.names, y.2 ≠ .cell := by decide +kernel) (h2 : ∀ y ∈ scope.names, y.2 = .local → scope.names.lookup y.1 = some .local := by decide +kernel) : CScope X scope (ns ++ [x]) ns.length [k] where
  kind := hk
  nocell := h1
  names := h2
  frees := fun y hy e => by rw [h3 y hy e]; exact hc
  nlen := by simp
  caps := fun j k' e => by
    cases j with
    | zero =>
      cases e
      refine ⟨x, hx, by simp, ?_, hc, hl⟩
      rcases hc with z | z
      · exact .inr (.inl z)
      · exact .inr (.inr z)
    | succ j => simp at e
end
noncomputable def tCut (t u : TS) : TS := fun D σ H => ∃ W : St → Hp → Prop, t { D with nx := W } σ H ∧ ∀ σ' H', W σ' H' → u D σ' H'
theorem pss_cut {X : Cx} {st : Stmt} {rest : List Stmt} {t u : TS} (h1 : PS X st t) (h2 : PSs X rest u) : PSs X (st :: rest) (tCut t u) := by
  intro pins s σ H D I ⟨W, h, k⟩
  refine wpAny_execs_cons (thn (h1 pins s σ H { D with nx := W } I h) fun f s1 q => ?_)
  cases f with
  | next =>
    obtain ⟨σ', H', I', q⟩ := q
    exact h2 pins s1 σ' H' D I' (k σ' H' q)
  | ret v => exact q
  | brk => exact q
  | cont => exact q
theorem pgc (i : Nat) {X : Cx} {scope : Scope} {cl : List (Str × Addr)} {C : Addr} {ns : List Str} {fp : List Addr} {s : Shared} {H : Hp} {x : Str} {pos : Pos} (hN : ns.Nodup := by decide +kernel) (hi : ns[i]? = some x := by rfl)
    (hx : (ccx X scope cl C ns fp s H).env.scope.names.lookup x = some .local := by rfl) : PG (ccx X scope cl C ns fp s H) (.Name x pos) (gName i) := pg_name hN hi (.inl hx) (.inr hx)
section
variable {X : Cx} {scope : Scope} {cl : List (Str × Addr)} {C : Addr} {ns : List Str} {fp : List Addr} {s : Shared} {H : Hp}
end
theorem mt_joinK (K : PySem.W.Frag) {X : Cx} (hK : X.K = K := by rfl) : MtR X "str.join" (rJoin K) := by subst hK; exact mt_join
end L2

namespace GP
open PySem L2 GT GM

noncomputable abbrev sv (t : Tx) : V := V.str (tx t)
noncomputable abbrev svs (R : Ru) : List V := R.map sv
noncomputable abbrev ivs (v : List Int) : List V := v.map V.int
noncomputable abbrev RuAt (H : Hp) (a : Addr) (R : Ru) : Prop := H a = some (.lst (svs R))
noncomputable abbrev IntsAt (H : Hp) (a : Addr) (v : List Int) : Prop := H a = some (.lst (ivs v))
noncomputable def TabAt (H : Hp) (a : Addr) (T : List (List Int)) : Prop := ∃ ps : List Addr, H a = some (.lst (ps.map V.ref)) ∧ ps.length = T.length ∧ ∀ (i : Nat) (p : Addr) (l : List Int), ps[i]? = some p → T[i]? = some l → IntsAt H p l
theorem TabAt.same {H H' : Hp} {a : Addr} {T : List (List Int)} (h : TabAt H a T) (s : Same H H') : TabAt H' a T := by
  obtain ⟨ps, e, l, q⟩ := h
  exact ⟨ps, s _ _ e, l, fun i p v h1 h2 => s _ _ (q i p v h1 h2)⟩
noncomputable abbrev anyH (H : Hp) (Q : VK) (v : V) : Prop := ∀ H', Same H H' → Q v H'
noncomputable abbrev newL (H : Hp) (Q : VK) (xs : List V) : Prop := ∀ p H', Same H H' → H p = none → H' p = some (.lst xs) → Q (.ref p) H'

theorem sl_big {n : Nat} (h : n ≤ 100000) : n < sizeLine := Nat.lt_of_le_of_lt h (by decide)
theorem tx_le {t : Tx} {n : Nat} (h : t.length ≤ n) (hn : n ≤ 100000) : (tx t).length ≤ sizeLine := by
  rw [tx_len]; exact Nat.le_of_lt (sl_big (Nat.le_trans h hn))
theorem ok_asc {n : Nat} {x : Tx} (h : OkTx n x) (hn : n ≤ 26) : ∀ c ∈ x, c < 128 := fun c hc => by have := h c hc; omega
theorem lets_ok (n : Nat) : OkTx n (lets n) := fun c hc => mem_lets.mp hc
theorem lets_asc {n : Nat} (hn : n ≤ 26) : ∀ c ∈ lets n, c < 128 := ok_asc (lets_ok n) hn
theorem sgn_small {n : Nat} {x : Tx} (h : OkTx n x) : (sgn x).length ≤ n := by
  have key : ∀ (m : Nat) (l : List Str), l.Nodup → (∀ k ∈ l, ∃ c, 97 ≤ c ∧ c < 97 + m ∧ k = tx [c]) → l.length ≤ m := by
    intro m
    induction m with
    | zero =>
      intro l _ hl
      cases l with
      | nil => exact Nat.le_refl _
      | cons k l => obtain ⟨c, h1, h2, _⟩ := hl k List.mem_cons_self; omega
    | succ m ih =>
      intro l nd hl
      by_cases hm : tx [97 + m] ∈ l
      · have h1 := ih (l.erase (tx [97 + m])) (nd.erase _) fun k hk => by
          obtain ⟨c, a, b, rfl⟩ := hl k (List.mem_of_mem_erase hk)
          refine ⟨c, a, ?_, rfl⟩
          have : c ≠ 97 + m := fun z => by
            subst z
            exact (List.Nodup.mem_erase_iff nd).mp hk |>.1 rfl
          omega
        rw [List.length_erase_of_mem hm] at h1
        omega
      · have h1 := ih l nd fun k hk => by
          obtain ⟨c, a, b, rfl⟩ := hl k hk
          refine ⟨c, a, ?_, rfl⟩
          have : c ≠ 97 + m := fun z => by subst z; exact hm hk
          omega
        omega
  refine key n (sgn x) (sgn_nodup x) fun k hk => ?_
  obtain ⟨c, hc, rfl⟩ := (mem_sgn x k).mp hk
  exact ⟨c, (h c hc).1, (h c hc).2, rfl⟩
inductive SpLetters (vs : List V) (H : Hp) (Q : VK) : Prop
  | mk (a xs) (h0 : vs = [.ref a]) (h1 : H a = some (.lst xs)) (h2 : xs.length ≤ 26) (h3 : Q (sv (lets xs.length)) H) : SpLetters vs H Q
noncomputable def spLetters : Sp := fun vs H Q _ => SpLetters vs H Q
inductive SpIsText (vs : List V) (H : Hp) (Q : VK) : Prop
  | mk (n : Nat) (x : Tx) (h0 : vs = [sv (lets n), sv x]) (h1 : n ≤ 26) (h2 : OkTx n x) (h3 : anyH H Q (.bl true)) : SpIsText vs H Q
inductive SpIsNum (vs : List V) (H : Hp) (Q : VK) : Prop
  | mk (m v : Int) (h0 : vs = [.int m, .int v]) (h1 : Q (.bl (decide (0 ≤ v ∧ v ≤ m))) H) : SpIsNum vs H Q
noncomputable def spIsNum : Sp := fun vs H Q _ => SpIsNum vs H Q
inductive SpIsRules (vs : List V) (H : Hp) (Q : VK) : Prop
  | mk (a R) (h0 : vs = [.ref a]) (h1 : RuAt H a R) (h2 : OkRu R) (h3 : anyH H Q (.bl true)) : SpIsRules vs H Q
inductive SpCheckRules (vs : List V) (H : Hp) (Q : VK) : Prop
  | mk (a R) (h0 : vs = [.ref a]) (h1 : RuAt H a R) (h2 : OkRu R) (h3 : anyH H Q .non) : SpCheckRules vs H Q
inductive SpCheckRow (vs : List V) (H : Hp) (Q : VK) : Prop
  | mk (a R x) (h0 : vs = [.ref a, sv x]) (h1 : RuAt H a R) (h2 : OkRu R) (h3 : OkTx R.length x) (h4 : anyH H Q .non) : SpCheckRow vs H Q
inductive SpOnce (vs : List V) (H : Hp) (Q : VK) : Prop
  | mk (a R x) (h0 : vs = [.ref a, sv x]) (h1 : RuAt H a R) (h2 : OkRu R) (h3 : OkTx R.length x) (h4 : x.length ≤ 100000) (h5 : (once R x).length ≤ 100000) (h6 : anyH H Q (sv (once R x))) : SpOnce vs H Q
inductive SpCounted (vs : List V) (H : Hp) (Q : VK) : Prop
  | mk (n : Nat) (x : Tx) (h0 : vs = [sv (lets n), sv x]) (h1 : n ≤ 26) (h2 : newL H Q (ivs (cnt n x))) : SpCounted vs H Q
noncomputable def spCounted : Sp := fun vs H Q _ => SpCounted vs H Q
noncomputable def SmallPairs (u v : List Int) : Prop := ∀ p ∈ u.zip v, CMul p.1 p.2
inductive SpWeighed (vs : List V) (H : Hp) (Q : VK) : Prop
  | mk (a b u v) (h0 : vs = [.ref a, .ref b]) (h1 : IntsAt H a u) (h2 : IntsAt H b v) (h3 : u.length = v.length) (h4 : u.length ≤ 1000) (h5 : SmallPairs u v) (h6 : anyH H Q (.int (weigh u v))) : SpWeighed vs H Q
inductive SpTable (vs : List V) (H : Hp) (Q : VK) : Prop
  | mk (a R) (h0 : vs = [.ref a]) (h1 : RuAt H a R) (h2 : R.length ≤ 26) (h3 : ∀ p H', Same H H' → H p = none → TabAt H' p (table R) → Q (.ref p) H') : SpTable vs H Q
noncomputable def spTable : Sp := fun vs H Q _ => SpTable vs H Q
structure Sq (T : List (List Int)) : Prop where
  top : T.length ≤ 1000
  rows : ∀ l ∈ T, l.length = T.length
  small : ∀ l ∈ T, ∀ e ∈ l, -(2 ^ 64) < e ∧ e < 2 ^ 64
inductive SpNext (vs : List V) (H : Hp) (Q : VK) : Prop
  | mk (t h T v) (h0 : vs = [.ref t, .ref h]) (h1 : TabAt H t T) (h2 : Sq T) (h3 : IntsAt H h v) (h4 : v.length = T.length) (h5 : newL H Q (ivs (hnext T v))) : SpNext vs H Q
noncomputable def spNext : Sp := fun vs H Q _ => SpNext vs H Q
inductive SpAfter (vs : List V) (H : Hp) (Q : VK) : Prop
  | mk (a R x t) (h0 : vs = [.ref a, sv x, .int (t : Nat)]) (h1 : RuAt H a R) (h2 : OkRu R) (h3 : (∀ r ∈ R, r.length ≤ 100000)) (h4 : OkTx R.length x) (h5 : t ≤ 1000) (h6 : newL H Q (ivs (cnt R.length (grow R t x)))) : SpAfter vs H Q
noncomputable def spAfter : Sp := fun vs H Q _ => SpAfter vs H Q
inductive SpAsked (vs : List V) (H : Hp) (Q : VK) : Prop
  | mk (a R x t) (h0 : vs = [.ref a, sv x, .int (t : Nat)]) (h1 : RuAt H a R) (h2 : OkRu R) (h3 : OkTx R.length x) (h4 : t ≤ 300) (h5 : anyH H Q .non) : SpAsked vs H Q
noncomputable def Short (R : Ru) (t : Nat) (x : Tx) : Prop := ∀ k, 1 ≤ k → k ≤ t → (grow R k x).length ≤ 100000
inductive SpWay (vs : List V) (H : Hp) (Q : VK) : Prop
  | mk (a R x t) (h0 : vs = [.ref a, sv x, .int (t : Nat)]) (h1 : RuAt H a R) (h2 : OkRu R) (h3 : (∀ r ∈ R, r.length ≤ 100000)) (h4 : OkTx R.length x) (h5 : t ≤ 300) (h6 : Short R t x) (h7 : anyH H Q .non) : SpWay vs H Q
inductive SpGrown (vs : List V) (H : Hp) (Q : VK) : Prop
  | mk (a R x t) (h0 : vs = [.ref a, sv x, .int (t : Nat)]) (h1 : RuAt H a R) (h2 : OkRu R) (h3 : (∀ r ∈ R, r.length ≤ 100000)) (h4 : OkTx R.length x) (h5 : x.length ≤ 100000) (h6 : t ≤ 300) (h7 : Short R t x) (h8 : anyH H Q (sv (grow R t x))) : SpGrown vs H Q
inductive SpCounts (vs : List V) (H : Hp) (Q : VK) : Prop
  | mk (a R x t) (h0 : vs = [.ref a, sv x, .int (t : Nat)]) (h1 : RuAt H a R) (h2 : OkRu R) (h3 : (∀ r ∈ R, r.length ≤ 100000)) (h4 : OkTx R.length x) (h5 : t ≤ 300) (h6 : newL H Q (ivs (cnt R.length (grow R t x)))) : SpCounts vs H Q
inductive SpLength (vs : List V) (H : Hp) (Q : VK) : Prop
  | mk (a R x t) (h0 : vs = [.ref a, sv x, .int (t : Nat)]) (h1 : RuAt H a R) (h2 : OkRu R) (h3 : (∀ r ∈ R, r.length ≤ 100000)) (h4 : OkTx R.length x) (h5 : t ≤ 300) (h6 : anyH H Q (.int ((grow R t x).length : Nat))) : SpLength vs H Q
inductive SpBehind (vs : List V) (H : Hp) (Q : VK) : Prop
  | mk (a b R S) (h0 : vs = [.ref a, .ref b]) (h1 : RuAt H a R) (h2 : RuAt H b S) (h3 : OkRu R) (h4 : OkRu S) (h5 : S.length = R.length) (h6 : (∀ r ∈ R, r.length ≤ 100000)) (h7 : (∀ r ∈ S, r.length ≤ 100000)) (h8 : (∀ r ∈ beh R S, r.length ≤ 100000)) (h9 : newL H Q (svs (beh R S))) : SpBehind vs H Q
theorem table_sq {R : Ru} (h : R.length ≤ 26) (hb : ∀ r ∈ R, r.length ≤ 100000) : Sq (table R) where
  top := by rw [table_length]; omega
  rows := table_rows R
  small := by
    intro l hl e he
    obtain ⟨r, hr, rfl⟩ := List.mem_map.mp hl
    obtain ⟨c, _, rfl⟩ := List.mem_map.mp he
    have h1 : r.count c ≤ r.length := List.count_le_length
    have h2 := hb r hr
    omega
end GP

namespace GP
open PySem L2 GT GM
structure Ru100 (R : Ru) : Prop where
  ok : OkRu R
  le : ∀ r ∈ R, r.length ≤ 100
inductive SpLawRules (K : PySem.W.Frag) (vs : List V) (H : Hp) (Q : VK) : Prop
  | mk (a : Addr) (ns : List Int) (h0 : vs = [.ref a]) (h1 : SqL K H a (ns.map V.int)) (h2 : ns.length ≤ 63) (h3 : ∀ R p H', Ru100 R → Same H H' → H p = none → RuAt H' p R → Q (.ref p) H') : SpLawRules K vs H Q
noncomputable def spLawRules (K : PySem.W.Frag) : Sp := fun vs H Q _ => SpLawRules K vs H Q
inductive SpLawRow (K : PySem.W.Frag) (vs : List V) (H : Hp) (Q : VK) : Prop
  | mk (a b : Addr) (R : Ru) (ns : List Int) (h0 : vs = [.ref a, .ref b]) (h1 : RuAt H a R) (h2 : OkRu R) (h3 : SqL K H b (ns.map V.int)) (h4 : ns.length ≤ 63) (h5 : ∀ x, OkTx R.length x → x.length ≤ 5 → anyH H Q (sv x)) : SpLawRow K vs H Q
noncomputable def spLawRow (K : PySem.W.Frag) : Sp := fun vs H Q _ => SpLawRow K vs H Q
inductive SpLawOnce (vs : List V) (H : Hp) (Q : VK) : Prop
  | mk (a R x) (h0 : vs = [.ref a, sv x]) (h1 : RuAt H a R) (h2 : R.length ≤ 26) (h3 : OkTx R.length x) (h4 : x.length ≤ 100000) (h5 : (once R x).length ≤ 100000) (h6 : anyH H Q (sv (once R x))) : SpLawOnce vs H Q
noncomputable def spLawOnce : Sp := fun vs H Q _ => SpLawOnce vs H Q

theorem alph_eq : ("abcdefghijklmnopqrstuvwxyz" : Str) = tx (lets 26) := by decide +kernel
theorem tx_toList (l : List Nat) : (tx l).cps.toList = l := rfl
theorem alph_at {j : Int} (h0 : 0 ≤ j) (h1 : j < 26) : atI ("abcdefghijklmnopqrstuvwxyz" : Str).cps.toList j = some (97 + j.toNat) := by
  rw [alph_eq, tx_toList]
  obtain ⟨k, rfl⟩ := Int.eq_ofNat_of_zero_le h0
  have hk : k < 26 := by omega
  exact atI_nat (by rw [lets_get hk]; simp)
theorem alph_len : ("abcdefghijklmnopqrstuvwxyz" : Str).length ≤ sizeLine := by rw [alph_eq, tx_len]; decide
theorem cut_ints (ns : List Int) (lo hi : Option Int) : ∃ ms : List Int, cutV (ns.map V.int) lo hi = ms.map V.int ∧ ms.length ≤ ns.length ∧ ∀ m ∈ ms, m ∈ ns := by
  refine ⟨(ns.drop (HT.sIx (ns.map V.int).length 0 lo)).take (HT.sIx (ns.map V.int).length (ns.map V.int).length hi - HT.sIx (ns.map V.int).length 0 lo), ?_, ?_, fun m hm => List.mem_of_mem_drop (List.mem_of_mem_take hm)⟩
  · unfold cutV
    rw [List.map_take, List.map_drop]
  · rw [List.length_take, List.length_drop]; omega
theorem cut_upto (xs : List V) (k : Nat) : cutV xs none (some (k : Int)) = xs.take k := by
  unfold cutV
  rw [HT.sIx_none, HT.sIx_nat, List.drop_zero, Nat.sub_zero]
  by_cases h : k ≤ xs.length
  · rw [Nat.min_eq_left h]
  · rw [Nat.min_eq_right (by omega), List.take_of_length_le (Nat.le_refl _), List.take_of_length_le (by omega)]
theorem getI {ns : List Int} {i : Nat} {y : V} (h : (ns.map V.int)[i]? = some y) : ∃ z, ns[i]? = some z ∧ y = V.int z := by
  rw [List.getElem?_map] at h
  obtain ⟨z, e, q⟩ := Option.map_eq_some_iff.mp h
  exact ⟨z, e, q.symm⟩

structure Put (m i : Nat) (R : Ru) : Prop where
  len : R.length = m
  ok : ∀ r ∈ R, OkTx m r ∧ r.length ≤ i
theorem Put.start (m : Nat) : Put m 0 (List.replicate m []) where
  len := by simp
  ok := fun r hr => by rw [List.eq_of_mem_replicate hr]; exact ⟨fun c hc => by simp at hc, Nat.le_refl _⟩
theorem Put.step {m i : Nat} {R : Ru} (h : Put m i R) {j : Nat} {c : Nat} (hj : j < m) (hc : 97 ≤ c ∧ c < 97 + m) : Put m (i + 1) (R.set j (R.getD j [] ++ [c])) where
  len := by rw [List.length_set]; exact h.len
  ok := fun r hr => by
    have hjl : j < R.length := by rw [h.len]; exact hj
    rcases List.mem_or_eq_of_mem_set hr with q | q
    · obtain ⟨a, b⟩ := h.ok r q; exact ⟨a, by omega⟩
    · subst q
      have hm : R.getD j [] ∈ R := getD_mem hjl
      obtain ⟨a, b⟩ := h.ok _ hm
      refine ⟨a.append fun d hd => by simp at hd; subst hd; exact hc, ?_⟩
      rw [List.length_append, List.length_singleton]; omega
theorem Put.ru {m i : Nat} {R : Ru} (h : Put m i R) (h1 : 1 ≤ m) (h2 : m ≤ 26) (hi : i ≤ 100) : Ru100 R :=
  ⟨⟨by rw [h.len]; exact h1, by rw [h.len]; exact h2, fun r hr => by rw [h.len]; exact (h.ok r hr).1⟩, fun r hr => by have := (h.ok r hr).2; omega⟩
noncomputable def begun (R : Ru) : Ru := ((List.range R.length).zip R).map fun p => (97 + p.1) :: p.2
theorem begun_put {m i : Nat} {R : Ru} (h : Put m i R) : Put m (i + 1) (begun R) where
  len := by unfold begun; rw [List.length_map, List.length_zip, List.length_range, Nat.min_self]; exact h.len
  ok := fun r hr => by
    obtain ⟨p, hp, rfl⟩ := List.mem_map.mp hr
    obtain ⟨p1, p2⟩ := List.of_mem_zip hp
    have hl := List.mem_range.mp p1
    obtain ⟨a, b⟩ := h.ok _ p2
    rw [h.len] at hl
    refine ⟨fun c hc => ?_, by rw [List.length_cons]; omega⟩
    rcases List.mem_cons.mp hc with q | q
    · subst q; omega
    · exact a c q
noncomputable def again (n : Nat) (R : Ru) : Ru := R.map fun r => (List.replicate n r).flatten.take 100
theorem rep_ok {m n : Nat} {r : Tx} (h : OkTx m r) : OkTx m ((List.replicate n r).flatten.take 100) := fun c hc => by
  obtain ⟨l, hl, hcl⟩ := List.mem_flatten.mp (List.mem_of_mem_take hc)
  rw [List.eq_of_mem_replicate hl] at hcl
  exact h c hcl
theorem again_ru {R : Ru} (h : Ru100 R) (n : Nat) : Ru100 (again n R) where
  ok := by
    have hl : (again n R).length = R.length := by simp [again]
    refine ⟨by rw [hl]; exact h.ok.pos, by rw [hl]; exact h.ok.top, fun r hr => ?_⟩
    obtain ⟨q, hq, rfl⟩ := List.mem_map.mp hr
    rw [hl]
    exact rep_ok (h.ok.all q hq)
  le := fun r hr => by
    obtain ⟨q, hq, rfl⟩ := List.mem_map.mp hr
    rw [List.length_take]; omega
theorem svs_get {R : Ru} {j : Nat} (h : j < R.length) : (svs R)[j]? = some (sv (R.getD j [])) := by
  rw [List.getElem?_map, List.getElem?_eq_getElem h, List.getD_eq_getElem?_getD, List.getElem?_eq_getElem h]; rfl
theorem svs_set (R : Ru) (j : Nat) (t : Tx) : (svs R).set j (sv t) = svs (R.set j t) := by
  unfold svs; rw [List.map_set]
inductive SpLaw (K : PySem.W.Frag) (vs : List V) (H : Hp) (Q : VK) : Prop
  | mk (a : Addr) (ns : List Int) (h0 : vs = [.ref a]) (h1 : SqL K H a (ns.map V.int)) (h2 : ns.length ≤ 63) (h3 : ∀ H', Q (.bl true) H') : SpLaw K vs H Q
noncomputable def spLaw (K : PySem.W.Frag) : Sp := fun vs H Q _ => SpLaw K vs H Q
theorem once_le {R : Ru} {b c : Nat} (hb : ∀ r ∈ R, r.length ≤ b) {x : Tx} (hx : OkTx R.length x) (hc : x.length ≤ c) : (once R x).length ≤ c * b :=
  Nat.le_trans (once_len hb hx) (Nat.mul_le_mul hc (Nat.le_refl _))
noncomputable def kept (n : Nat) (R : Ru) : Ru := R.map fun r => r.filter fun c => decide (c ∈ lets n)
theorem flat_single (l : Tx) : (l.map fun c => [c]).flatten = l := by
  induction l with
  | nil => rfl
  | cons c l ih => rw [List.map_cons, List.flatten_cons, ih]; rfl
end GP

namespace GR
open PySem

namespace F
theorem notType : (Value.type "reversed" == Value.type "type") = false := by decide +kernel
theorem canCreate : ((Manifest.find? "reversed").bind (·.mro.findSome? fun t => (Manifest.find? t).bind fun b => if b.noNew then some true else if b.attrs.any (·.1 == "__new__") then some false else none)).getD false = false := by decide +kernel
end F

section
variable {prog : Program} {w : World} {A : Around} {E : Value → Shared → Prop} {s : Shared}
noncomputable def IsRev (h : Heap) (it l : Addr) (i : Int) : Prop := h.get? it = some { cls := .type "list_reverseiterator", data := .fields #[.ref l, rawInt i] }
namespace F
theorem slot_next : Slot "list_reverseiterator" "__next__" "list_reverseiterator.__next__" :=
  .of (owner := "list_reverseiterator") (n := "__next__") (by rw [typeLookup_type, builtinLookup_eq_fast]; kernel_rfl) (by decide +kernel) (by decide +kernel) (by decide +kernel)
    (by first | exact .inl (by decide +kernel) | exact .inr (by decide +kernel)) (by rw [isSubtype_type]; kernel_rfl)
theorem slot_iter : Slot "list_reverseiterator" "__iter__" "list_reverseiterator.__iter__" :=
  .of (owner := "list_reverseiterator") (n := "__iter__") (by rw [typeLookup_type, builtinLookup_eq_fast]; kernel_rfl) (by decide +kernel) (by decide +kernel) (by decide +kernel)
    (by first | exact .inl (by decide +kernel) | exact .inr (by decide +kernel)) (by rw [isSubtype_type]; kernel_rfl)
theorem entry_next : entryFor table "list_reverseiterator.__next__" = some Builtin.«list_reverseiterator.__next__» := entryFor_of_tree (by kernel_rfl)
theorem entry_iter : entryFor table "list_reverseiterator.__iter__" = some Builtin.«dict_keyiterator.__iter__» :=
  entryFor_alias (id' := "dict_keyiterator.__iter__") (by kernel_rfl) (by first | rfl | decide +kernel) (by decide +kernel) (by kernel_rfl)
theorem args_next (a : Value) : argsOk "list_reverseiterator.__next__" ⟨[a], []⟩ := by unfold argsOk; kernel_rfl
theorem args_iter (a : Value) : argsOk "list_reverseiterator.__iter__" ⟨[a], []⟩ := by unfold argsOk; kernel_rfl
end F
theorem IsRev.typeIs {it l : Addr} {i : Int} (h : IsRev s.heap it l i) : s.TypeIs (.ref it) "list_reverseiterator" := ⟨_, h, rfl⟩
end
end GR

namespace L2
open PySem PySem.Spec PyProof.Rows GT GR
section
variable {X : Cx}
end
end L2

namespace GM
theorem grow_append (R : Ru) : ∀ k x y, grow R k (x ++ y) = grow R k x ++ grow R k y
  | 0, _, _ => rfl
  | k + 1, x, y => by show grow R k (once R (x ++ y)) = _; rw [once_append, grow_append R k]; rfl
theorem grow_nil (R : Ru) : ∀ k, grow R k [] = []
  | 0 => rfl
  | k + 1 => by show grow R k (once R []) = _; rw [once_nil, grow_nil R k]
theorem once_one (R : Ru) (c : Nat) : once R [c] = R.getD (c - 97) [] := by rw [once_cons, once_nil, List.append_nil]
theorem grow_one (R : Ru) (k c : Nat) : grow R (k + 1) [c] = grow R k (R.getD (c - 97) []) := by show grow R k (once R [c]) = _; rw [once_one]
theorem grow_len_sum (R : Ru) (k : Nat) : ∀ x : Tx, ((grow R k x).length : Int) = (x.map fun c => ((grow R k [c]).length : Int)).sum
  | [] => by rw [grow_nil]; rfl
  | c :: x => by
    have e : c :: x = [c] ++ x := rfl
    rw [e, grow_append, List.length_append, List.map_append, List.sum_append, ← grow_len_sum R k x]
    simp
noncomputable def szs (R : Ru) : Nat → List Int
  | 0 => List.replicate R.length 1
  | k + 1 => (table R).map fun l => weigh l (szs R k)
theorem szs_length (R : Ru) : ∀ k, (szs R k).length = R.length
  | 0 => by simp [szs]
  | k + 1 => by simp [szs, table]
theorem weigh_map {n : Nat} {x : Tx} (hx : OkTx n x) (f : Nat → Int) : weigh (cnt n x) ((lets n).map f) = (x.map f).sum := by
  unfold weigh
  rw [zipWith_cnt x _ 0 (by rw [List.length_map, lets_length]) (· * ·)]
  have e : ((lets n).map fun c => (x.count c : Int) * ((lets n).map f).getD (c - 97) 0) = (lets n).map fun c => (x.count c : Int) * f c := by
    refine List.map_congr_left fun c hc => ?_
    have hc' := mem_lets.mp hc
    rw [List.getD_eq_getElem?_getD, List.getElem?_map, lets_get (show c - 97 < n by omega)]
    have : 97 + (c - 97) = c := by omega
    rw [this]; rfl
  show List.sum ((lets n).map fun c => (x.count c : Int) * ((lets n).map f).getD (c - 97) 0) = _
  rw [e, sum_by_letters f hx]
theorem map_lets {α : Type} (R : Ru) (g : Tx → α) : R.map g = (lets R.length).map fun c => g (R.getD (c - 97) []) := by
  apply List.ext_getElem?
  intro k
  by_cases h : k < R.length
  · rw [List.getElem?_map, List.getElem?_map, lets_get h, List.getElem?_eq_getElem h]
    have : 97 + k - 97 = k := by omega
    simp [this, List.getD_eq_getElem?_getD, List.getElem?_eq_getElem h]
  · rw [List.getElem?_eq_none (by rw [List.length_map]; omega), List.getElem?_eq_none (by rw [List.length_map, lets_length]; omega)]
theorem szs_eq {R : Ru} (hR : OkRu R) : ∀ k, szs R k = (lets R.length).map fun c => ((grow R k [c]).length : Int)
  | 0 => by
    apply List.ext_getElem?
    intro j
    by_cases h : j < R.length
    · rw [List.getElem?_map, lets_get h]; simp [szs, h, grow]
    · rw [List.getElem?_eq_none (by rw [szs_length]; omega), List.getElem?_eq_none (by rw [List.length_map, lets_length]; omega)]
  | k + 1 => by
    unfold szs table
    rw [List.map_map, map_lets R]
    refine List.map_congr_left fun c hc => ?_
    have hc' := mem_lets.mp hc
    show weigh (cnt R.length (R.getD (c - 97) [])) (szs R k) = _
    rw [szs_eq hR k, weigh_map (hR.all _ (getD_mem (by omega))), ← grow_len_sum, grow_one]
theorem weigh_szs {R : Ru} (hR : OkRu R) (k : Nat) {x : Tx} (hx : OkTx R.length x) : weigh (cnt R.length x) (szs R k) = ((grow R k x).length : Int) := by
  rw [szs_eq hR k, weigh_map hx, ← grow_len_sum]
noncomputable def up (R : Ru) (k : Nat) (x : Tx) (i : Nat) : Nat := (grow R k (x.take i)).length
theorem up_succ {R : Ru} {k : Nat} {x : Tx} {i c : Nat} (h : x[i]? = some c) : up R k x (i + 1) = up R k x i + (grow R k [c]).length := by
  unfold up
  rw [List.take_add_one, h, Option.toList_some, grow_append, List.length_append]
structure Lies (R : Ru) (k : Nat) (x : Tx) (p i c : Nat) : Prop where
  at_ : x[i]? = some c
  lo : up R k x i ≤ p
  hi : p < up R k x (i + 1)
theorem grow_split {R : Ru} {k : Nat} {x : Tx} {i c : Nat} (h : x[i]? = some c) : grow R k x = grow R k (x.take i) ++ (grow R k [c] ++ grow R k (x.drop (i + 1))) := by
  have hi := (List.getElem?_eq_some_iff.mp h).1
  have e : x = x.take i ++ ([c] ++ x.drop (i + 1)) := by
    have h2 : x.drop i = [c] ++ x.drop (i + 1) := by
      rw [List.drop_eq_getElem_cons hi]
      have := (List.getElem?_eq_some_iff.mp h).2
      rw [this]; rfl
    rw [← h2, List.take_append_drop]
  rw [← grow_append, ← grow_append, ← e]
inductive IsWay (R : Ru) : Nat → Tx → Nat → List (Nat × Tx) → Prop
  | zero {y : Tx} {p i c : Nat} (h : Lies R 0 y p i c) : IsWay R 0 y p [(c, y.take i)]
  | succ {k : Nat} {y : Tx} {p i c : Nat} {w : List (Nat × Tx)} (h : Lies R (k + 1) y p i c) (t : IsWay R k (R.getD (c - 97) []) (p - up R (k + 1) y i) w) : IsWay R (k + 1) y p ((c, y.take i) :: w)
theorem up_id (R : Ru) (y : Tx) (i : Nat) (h : i ≤ y.length) : up R 0 y i = i := by
  show (y.take i).length = i
  rw [List.length_take]; omega
theorem Lies.zero {R : Ru} {y : Tx} {p i c : Nat} (h : Lies R 0 y p i c) : i = p := by
  have hi := (List.getElem?_eq_some_iff.mp h.at_).1
  have h1 := h.lo
  have h2 := h.hi
  rw [up_id R y i (by omega)] at h1
  rw [up_id R y (i + 1) (by omega)] at h2
  omega
theorem IsWay.letter {R : Ru} {k : Nat} {y : Tx} {p : Nat} {w : List (Nat × Tx)} (h : IsWay R k y p w) : ∃ c t, w.getLast? = some (c, t) ∧ (grow R k y)[p]? = some c := by
  induction h with
  | @zero y p i c h =>
    have e := h.zero
    subst e
    exact ⟨c, _, rfl, h.at_⟩
  | @succ k y p i c w h t ih =>
    obtain ⟨d, u, e1, e2⟩ := ih
    refine ⟨d, u, ?_, ?_⟩
    · rw [List.getLast?_cons, e1]; rfl
    · have hlo := h.lo
      have hhi := h.hi
      rw [up_succ h.at_] at hhi
      rw [grow_split (R := R) (k := k + 1) h.at_, List.getElem?_append_right hlo]
      show (grow R (k + 1) [c] ++ _)[p - up R (k + 1) y i]? = _
      rw [List.getElem?_append_left (by omega), grow_one]
      exact e2
noncomputable def fold (R : Ru) (Z : Tx) (w : List (Nat × Tx)) : Tx := w.foldl (fun Z p => once R Z ++ p.2) Z
theorem IsWay.first {R : Ru} {k : Nat} {y : Tx} {p : Nat} {w : List (Nat × Tx)} (h : IsWay R k y p w) : ∀ Z, fold R Z w = grow R k (once R Z) ++ (grow R k y).take p := by
  induction h with
  | @zero y p i c h =>
    intro Z
    have e := h.zero
    subst e
    rfl
  | @succ k y p i c w h t ih =>
    intro Z
    show fold R (once R Z ++ y.take i) w = _
    rw [ih, once_append, grow_append]
    have hlo := h.lo
    have hhi := h.hi
    rw [up_succ h.at_] at hhi
    have hg : (grow R (k + 1) y).take p = grow R (k + 1) (y.take i) ++ (grow R k (R.getD (c - 97) [])).take (p - up R (k + 1) y i) := by
      rw [grow_split (R := R) (k := k + 1) h.at_, List.take_append, List.take_of_length_le hlo, List.take_append_of_le_length (by show p - up R (k + 1) y i ≤ _; omega), grow_one]
      rfl
    rw [hg, ← List.append_assoc]
    rfl
theorem IsWay.ok {R : Ru} (hR : OkRu R) {k : Nat} {y : Tx} {p : Nat} {w : List (Nat × Tx)} (h : IsWay R k y p w) : OkTx R.length y → ∀ q ∈ w, OkTx R.length q.2 ∧ 97 ≤ q.1 ∧ q.1 < 97 + R.length := by
  induction h with
  | @zero y p i c h =>
    intro hy q hq
    simp at hq; subst hq
    exact ⟨fun d hd => hy d (List.mem_of_mem_take hd), hy c (List.mem_of_getElem? h.at_)⟩
  | @succ k y p i c w h t ih =>
    intro hy q hq
    have hc := hy c (List.mem_of_getElem? h.at_)
    rcases List.mem_cons.mp hq with e | e
    · subst e
      exact ⟨fun d hd => hy d (List.mem_of_mem_take hd), hc⟩
    · exact ih (hR.all _ (getD_mem (by omega))) q e
end GM

namespace L2
open PySem PySem.Spec PyProof.Rows GT
end L2
namespace GP
open PySem L2 GT GM
inductive SpAdded (vs : List V) (H : Hp) (Q : VK) : Prop
  | mk (a b u v) (h0 : vs = [.ref a, .ref b]) (h1 : IntsAt H a u) (h2 : IntsAt H b v) (h3 : u.length = v.length) (h4 : u.length ≤ 1000) (h5 : newL H Q (ivs (List.zipWith (· + ·) u v))) : SpAdded vs H Q
noncomputable def sizesL (R : Ru) (t : Nat) : List (List Int) := (List.range (t + 1)).map (szs R)
noncomputable def nb (x : Tx) : Nat := (x.length + 255) / 256
noncomputable def marksL (n : Nat) (x : Tx) : List (List Int) := (List.range (nb x + 1)).map fun j => cnt n (x.take (256 * j))
noncomputable def FTab (H0 H : Hp) (a : Addr) (T : List (List Int)) : Prop := H0 a = none ∧ ∃ ps : List Addr, H a = some (.lst (ps.map V.ref)) ∧ ps.length = T.length ∧ ∀ (i : Nat) (p : Addr) (l : List Int), ps[i]? = some p → T[i]? = some l → IntsAt H p l ∧ H0 p = none
theorem FTab.new {H0 H H6 : Hp} {a : Addr} {T : List (List Int)} (h : FTab H0 H a T) (k : ∀ b o, H0 b = none → H b = some o → H6 b = some o) : TabAt H6 a T := by
  obtain ⟨n, ps, e, l, q⟩ := h
  exact ⟨ps, k _ _ n e, l, fun i p v h1 h2 => k _ _ (q i p v h1 h2).2 (q i p v h1 h2).1⟩
theorem FTab.back {H0 H1 H : Hp} {a : Addr} {T : List (List Int)} (h : FTab H1 H a T) (k : ∀ b, H1 b = none → H0 b = none) : FTab H0 H a T := by
  obtain ⟨n, ps, e, l, q⟩ := h
  exact ⟨k _ n, ps, e, l, fun i p v h1 h2 => ⟨(q i p v h1 h2).1, k _ (q i p v h1 h2).2⟩⟩
inductive SpSizes (vs : List V) (H : Hp) (Q : VK) : Prop
  | mk (a R t) (h0 : vs = [.ref a, .int (t : Nat)]) (h1 : RuAt H a R) (h2 : OkRu R) (h3 : (∀ r ∈ R, r.length ≤ 100000)) (h4 : t ≤ 300) (h5 : ∀ p H', Same H H' → FTab H H' p (sizesL R t) → Q (.ref p) H') : SpSizes vs H Q
inductive SpMarks (vs : List V) (H : Hp) (Q : VK) : Prop
  | mk (n : Nat) (x : Tx) (h0 : vs = [sv (lets n), sv x]) (h1 : n ≤ 26) (h2 : x.length ≤ 100000) (h3 : ∀ p H', Same H H' → FTab H H' p (marksL n x) → Q (.ref p) H') : SpMarks vs H Q
noncomputable def mfl (n : Nat) (x : Tx) (m : Addr) : List (Str × V) := putF "marks" (.ref m) (putF "text" (sv x) (putF "letters" (sv (lets n)) []))
structure MkAt (C : Addr) (H : Hp) (p : Addr) (n : Nat) (x : Tx) : Prop where
  ob : ∃ dx m, H p = some (.ins C dx (mfl n x m)) ∧ TabAt H m (marksL n x)
theorem MkAt.same {C : Addr} {H H' : Hp} {p : Addr} {n : Nat} {x : Tx} (h : MkAt C H p n x) (s : Same H H') : MkAt C H' p n x := by
  obtain ⟨dx, m, e, t⟩ := h.ob
  exact ⟨dx, m, s _ _ e, t.same s⟩
inductive SpMkInit (C : Addr) (vs : List V) (H : Hp) (Q : VK) : Prop
  | mk (p dx n x) (h0 : vs = [.ref p, sv (lets n), sv x]) (h1 : H p = some (.ins C dx [])) (h2 : n ≤ 26) (h3 : x.length ≤ 100000) (h4 : ∀ m H', H' p = some (.ins C dx (mfl n x m)) → FTab H H' m (marksL n x) → (∀ b o, H b = some o → b ≠ p → H' b = some o) → Q .non H') : SpMkInit C vs H Q
inductive SpAhead (C : Addr) (vs : List V) (H : Hp) (Q : VK) : Prop
  | mk (p n x i) (h0 : vs = [.ref p, .int (i : Nat)]) (h1 : MkAt C H p n x) (h2 : n ≤ 26) (h3 : x.length ≤ 100000) (h4 : i ≤ x.length) (h5 : newL H Q (ivs (cnt n (x.take i)))) : SpAhead C vs H Q
structure In (R : Ru) (k : Nat) (H : Hp) (b : Addr) (x : Tx) (p : Nat) : Prop where
  ok : OkRu R
  le : x.length ≤ 100000
  tx : OkTx R.length x
  sz : IntsAt H b (szs R k)
  lt : p < (grow R k x).length
inductive SpBlock (C : Addr) (vs : List V) (H : Hp) (Q : VK) : Prop
  | mk (q b R k x p) (h0 : vs = [.ref q, .ref b, .int (p : Nat)]) (h1 : MkAt C H q R.length x) (h2 : In R k H b x p) (h3 : ∀ j : Nat, j < nb x → up R k x (256 * j) ≤ p → anyH H Q (.int (j : Nat))) : SpBlock C vs H Q
inductive SpIndex (C : Addr) (vs : List V) (H : Hp) (Q : VK) : Prop
  | mk (q b R k x p) (h0 : vs = [.ref q, .ref b, .int (p : Nat)]) (h1 : MkAt C H q R.length x) (h2 : In R k H b x p) (h3 : ∀ i c : Nat, Lies R k x p i c → anyH H Q (.int (i : Nat))) : SpIndex C vs H Q
inductive SpCheckPlace (vs : List V) (H : Hp) (Q : VK) : Prop
  | mk (p l : Int) (h0 : vs = [.int p, .int l]) (h1 : 0 ≤ p) (h2 : p ≤ l) (h3 : Q .non H) : SpCheckPlace vs H Q
noncomputable def WayAt (H : Hp) (a : Addr) (n : Nat) (w : List (Nat × Tx)) : Prop := ∃ ts : List Addr, H a = some (.lst (ts.map V.ref)) ∧ ts.length = w.length ∧ ∀ (i : Nat) (t : Addr) (c : Nat) (y : Tx), ts[i]? = some t → w[i]? = some (c, y) → ∃ q, H t = some (.tup [sv [c], .ref q]) ∧ IntsAt H q (cnt n y)
theorem WayAt.same {H H' : Hp} {a : Addr} {n : Nat} {w : List (Nat × Tx)} (h : WayAt H a n w) (s : Same H H') : WayAt H' a n w := by
  obtain ⟨ts, e, l, q⟩ := h
  exact ⟨ts, s _ _ e, l, fun i t c y h1 h2 => by obtain ⟨z, a1, a2⟩ := q i t c y h1 h2; exact ⟨z, s _ _ a1, s _ _ a2⟩⟩
inductive SpWayTo (vs : List V) (H : Hp) (Q : VK) : Prop
  | mk (a R x t p) (h0 : vs = [.ref a, sv x, .int (t : Nat), .int (p : Nat)]) (h1 : RuAt H a R) (h2 : OkRu R) (h3 : (∀ r ∈ R, r.length ≤ 100000)) (h4 : OkTx R.length x) (h5 : x.length ≤ 100000) (h6 : t ≤ 300) (h7 : p < (grow R t x).length) (h8 : ∀ w q H', IsWay R t x p w → Same H H' → H q = none → WayAt H' q R.length w → Q (.ref q) H') : SpWayTo vs H Q
inductive SpLetter (vs : List V) (H : Hp) (Q : VK) : Prop
  | mk (a R x t p) (h0 : vs = [.ref a, sv x, .int (t : Nat), .int (p : Nat)]) (h1 : RuAt H a R) (h2 : OkRu R) (h3 : (∀ r ∈ R, r.length ≤ 100000)) (h4 : OkTx R.length x) (h5 : x.length ≤ 100000) (h6 : t ≤ 300) (h7 : p < (grow R t x).length) (h8 : ∀ c, (grow R t x)[p]? = some c → anyH H Q (sv [c])) : SpLetter vs H Q
inductive SpFirst (vs : List V) (H : Hp) (Q : VK) : Prop
  | mk (a R x t p) (h0 : vs = [.ref a, sv x, .int (t : Nat), .int (p : Nat)]) (h1 : RuAt H a R) (h2 : OkRu R) (h3 : (∀ r ∈ R, r.length ≤ 100000)) (h4 : OkTx R.length x) (h5 : x.length ≤ 100000) (h6 : t ≤ 300) (h7 : p ≤ (grow R t x).length) (h8 : newL H Q (ivs (cnt R.length ((grow R t x).take p)))) : SpFirst vs H Q
end GP
namespace L2
open PySem PySem.Spec PyProof.Rows GT
end L2
namespace GP
open PySem L2 GT GM
theorem TabAt.get {H : Hp} {a : Addr} {T : List (List Int)} (h : TabAt H a T) {j : Nat} {l : List Int} (e : T[j]? = some l) : ∃ (xs : List V) (p : Addr), H a = some (.lst xs) ∧ xs.length = T.length ∧ xs[j]? = some (.ref p) ∧ IntsAt H p l := by
  obtain ⟨ps, h1, h2, h3⟩ := h
  have hj : j < ps.length := by have := (List.getElem?_eq_some_iff.mp e).1; omega
  exact ⟨_, ps[j], h1, by rw [List.length_map]; exact h2, by simp [hj], h3 j ps[j] l (by simp [hj]) e⟩
theorem lets_ix {n c : Nat} (h1 : 97 ≤ c) (h2 : c < 97 + n) : (lets n)[c - 97]? = some c ∧ ∀ k, k < c - 97 → (lets n)[k]? ≠ some c := by
  refine ⟨by rw [lets_get (by omega)]; congr 1; omega, fun k hk => by rw [lets_get (by omega)]; intro e; have := Option.some.inj e; omega⟩
end GP
namespace L2
open PySem PySem.Spec PyProof.Rows GT
end L2
namespace L2
open PySem PySem.Spec PyProof.Rows GT
end L2
namespace GP
open PySem L2 GT GM
inductive SpLawCounts (vs : List V) (H : Hp) (Q : VK) : Prop
  | mk (a xs x) (h0 : vs = [.ref a, sv x]) (h1 : H a = some (.lst xs)) (h2 : xs.length ≤ 26) (h3 : newL H Q (ivs (cnt xs.length x))) : SpLawCounts vs H Q
inductive SpLawNumbers (vs : List V) (H : Hp) (Q : VK) : Prop
  | mk (p v) (h0 : vs = [.ref p]) (h1 : IntsAt H p v) (h2 : v.length ≤ 1000) (h3 : anyH H Q (.bl true)) : SpLawNumbers vs H Q
end GP

namespace L2
open PySem PySem.Spec PyProof.Rows GT
section
variable {X : Cx}
structure Mk0 (K : PySem.W.Frag) (C : Addr) : Prop where
  makes : PySem.W.makesIn K C = true
  init : PySem.W.findIn K (.ref C) "__init__" = some (some (.builtin "object.__init__"))
  kp : PySem.W.keepIn K (.ref C) = true
noncomputable def tMake0 (C : Addr) : TE := fun σ H Q => ∀ x dx, H x = none → H dx = none → dx ≠ x → Q (.ref x) (upd (upd H dx (.own x)) x (.ins C dx []))
theorem pe_makeN {C : Addr} {x : Str} {p pos : Pos} (M : Mk0 X.K C) (hg : Gl X x) (hm : X.mg x = some (.ref C)) (hdb : (x == ("__debug__" : Str)) = false := by decide) : PE X (.Call (.Name x p) [] [] pos) (tMake0 C) := by
  intro pins s σ H Q I h
  refine wpAny_Call_Name_kw (ld_glob I hg hm ?_ hdb)
  refine PySem.W.callWith_K0 I.kIn M.kp (wpAny_call ?_)
  have hq := h (s.heap.objs.size + 1) s.heap.objs.size (I.hok.fresh (Nat.le_succ _)) (I.hok.fresh (Nat.le_refl _)) (Nat.ne_of_lt (Nat.lt_succ_self _))
  have I2 := Inv.made (C := C) I
  refine make_map0 I.kIn M.makes M.init (fun self => PySem.W.Looks.of_pure (PySem.W.oi_bind self)) ?_
  have Y := PySem.W.makes_of (M := model X.prog X.w) I.kIn M.makes
  have e2 : ((s.heap.push PySem.W.emptyDict).push (PySem.W.instObj C s.heap.objs.size)).get? (s.heap.objs.size + 1) = some (PySem.W.instObj C s.heap.objs.size) := by
    have := Heap.get?_push_size (s.heap.push PySem.W.emptyDict) (o := PySem.W.instObj C s.heap.objs.size) rfl
    rwa [Heap.size_push] at this
  have t1 : PySem.W.Looks (model X.prog X.w) ((s.heap.push PySem.W.emptyDict).push (PySem.W.instObj C s.heap.objs.size)) (typeOf (.ref (s.heap.objs.size + 1))) (.ref C) := (PySem.W.Looks.ld e2).andThen .now
  have t2 : PySem.W.Looks (model X.prog X.w) ((s.heap.push PySem.W.emptyDict).push (PySem.W.instObj C s.heap.objs.size)) (isInstance (.ref (s.heap.objs.size + 1)) (.type "object")) true := t1.andThen (Y.top.keeps fun b o e => Heap.get?_push_of_some _ (Heap.get?_push_of_some _ e))
  refine codeAny_call_builtin PySem.W.oi_plain PySem.W.entry_oi (@PySem.W.check_slot (model X.prog X.w) _ _ _ "object.__init__" "object" "__init__" (.ref (s.heap.objs.size + 1)) [] [] _ PySem.W.oi_kind PySem.W.oi_split t2 (PySem.W.oi_args (.ref (s.heap.objs.size + 1))) ?_)
  rw [PySem.W.oi_run]
  exact wpAny_pure (And.intro rfl ⟨.ref (s.heap.objs.size + 1), _, I2, rfl, hq⟩)
structure ObGet (K : PySem.W.Frag) : Prop where
  get : PySem.W.specialIn K (.builtin "object.__class__") "__get__" = some (some (.builtin "getset_descriptor.__get__"))
  take : PySem.W.takesIn K (.builtin "object.__class__") = some true
structure ObCls (K : PySem.W.Frag) (C : Addr) : Prop where
  cls : PySem.W.findIn K (.ref C) "__class__" = some (some (.builtin "object.__class__"))
  mro : PySem.W.mroIn K C (.type "object") = some true
theorem mt_stripC : MtM X "str.strip" (fun x vs H Q => Ex2 fun (y z : Str) => x = .str y ∧ vs = [.str z] ∧ y.length ≤ sizeLine ∧ Q (.str (Txt.stripChars y z)) H) := by
  intro pins s σ H x vs v us Q I rx rv h
  obtain ⟨y, z, rfl, rfl, hz, q⟩ := h
  obtain ⟨t, rfl⟩ := rx
  obtain ⟨u, rfl, ru⟩ := rv.one
  obtain ⟨t', rfl⟩ := ru
  exact SC.stripChars (fun t'' k => ⟨.str _, H, I.kept (t' := k) fun b o e => e, ⟨_, rfl⟩, q⟩) hz
end
end L2

namespace L2
open PySem PySem.Spec PyProof.Rows GT
theorem vals_strs : ∀ {vs : List Value} {ss : List Str}, StrsAre vs ss → Vals (ss.map V.str) vs
  | _, _, .nil => .nil
  | _, _, .cons x t h => .cons ⟨t, rfl⟩ (vals_strs h)
section
variable {prog : Program} {w : World} {A : Around} {E : Value → Shared → Prop} {s : Shared}
theorem sort_new {vs : List Value} {ss : List Str} {Q : Value → Shared → Prop} (hS : StrsAre vs ss) (h64 : vs.length < 64)
    (h : ∀ (h' : Heap) (D : Addr) (vs' : List Value) (ss' : List Str) (e : Nat), (∀ b o, s.heap.get? b = some o → h'.get? b = some o) → s.heap.objs.size ≤ D → h'.get? D = some (seqObj "list" vs'.toArray e) → StrsAre vs' ss' → ss'.Perm ss → Q (.ref D) { s with heap := h' }) :
    wpAny (model prog w) A (newList vs >>= fun l => holding [l] (call (.builtin "list.sort") [l]) >>= fun _ => ret l) (fun fin s' => ∃ v, fin = Fin.done (Flow.ret v) ∧ Q v s') E s := by
  refine wpAny_bind (wpAny_newList ?_ (by rw [sizeLine_eq]; omega))
  have hoL : (s.heap.push (seqObj "list" vs.toArray 0)).get? s.heap.objs.size = some (seqObj "list" vs.toArray 0) := Heap.get?_push_size _ rfl
  show wpAny _ _ _ _ _ { s with heap := s.heap.push (seqObj "list" vs.toArray 0) }
  refine wpAny_bind (wpAny_holding (wpAny_call_entry slot_list_sort ⟨_, hoL, rfl⟩ entry_list_sort (list_sort_treeK strKind_oneLt hoL hS.keysOf (fun v₁ v₂ rest e => keyKind_strs (by rw [← e]; exact hS)) h64 fun st' a1 a2 => ⟨_, rfl, ?_⟩) (args_list_sort _)))
  obtain ⟨ss', h1, h2, _⟩ := sorted_out_str hS a1 a2
  obtain ⟨e, he⟩ := sortedHeap_at (out := (arrOf st').map (·.2)) hoL
  refine wpAny_pure ⟨_, rfl, h _ _ ((arrOf st').map (·.2)).toList ss' e (fun b o hb => ?_) (Nat.le_refl _) ?_ h1 h2⟩
  · have hlt := Heap.lt_size hb
    rw [sortedHeap_old (Nat.ne_of_lt hlt) (by rw [size_push']; exact Nat.lt_succ_of_lt hlt)]
    exact Heap.get?_push_of_some _ hb
  · exact he
end
section
variable {X : Cx}
end
end L2

namespace GS
open PySem PySem.Spec PyProof.Rows
theorem orStandIn_led (t : SetTable) (n : Nat) : (t.orStandIn n).led = t.led := by
  unfold SetTable.orStandIn
  split <;> rfl
theorem layNew_led (t : SetTable) (es : Array (Int × Value)) (h : Int) (x : Value) : (layNew t es h x).2.1.led = t.led := by
  unfold layNew
  split
  · rw [orStandIn_led]; rfl
  · rfl
theorem laid_led {mask finger moves : Nat} {led plain : Bool} {hashes : Array Int} {t : SetTable} {o : Array Nat} (h : SetTable.laid mask finger moves led plain hashes = some (t, o)) : t.led = led ∧ t.plain = plain := by
  unfold SetTable.laid at h
  simp only [bind, Option.bind] at h
  split at h
  · cases h
  · cases h
    exact ⟨rfl, rfl⟩
theorem relayAll_led (t : SetTable) (es : Array (Int × Value)) (n : Nat) : (relayAll t es n).2.1.led = t.led ∧ (t.plain = false → (relayAll t es n).2.1.plain = false) := by
  unfold relayAll
  split
  · rename_i t' o e
    have := laid_led e
    dsimp only
    split
    · exact ⟨this.1, fun h => by rw [this.2]; exact h⟩
    · exact ⟨rfl, fun _ => rfl⟩
  · exact ⟨rfl, fun _ => rfl⟩
end GS
namespace GS
open PySem PySem.Spec PyProof.Rows
section
variable {prog : Program} {w : World} {A : Around} {E : Value → Shared → Prop} {s : Shared}
noncomputable def SetL (prog : Program) (w : World) (h : Heap) (a : Addr) (S : Str → Bool) (n : Nat) : Prop :=
  ∃ o es ep t, h.get? a = some o ∧ o.ExactSet ∧ o.data = .set es ep t ∧ ElemsOf (strKind prog w) es.toList ∧ (∀ k, S k = true ↔ ∃ e ∈ es.toList, (strKind prog w).is k e.2 = true) ∧ es.size < scanBound ∧ t.fits es.size = true ∧ es.size = n
    ∧ t.led = !w.params.followText "set-order" ∧ (0 < n → t.plain = false)
theorem SetL.setOf {h : Heap} {a : Addr} {S : Str → Bool} {n : Nat} (x : SetL prog w h a S n) : h.SetOf (strKind prog w) a S n := by
  obtain ⟨o, es, ep, t, h1, h2, h3, h4, h5, h6, h7, h8, _⟩ := x
  exact ⟨o, es, ep, t, h1, h2, h3, h4, h5, h6, h7, h8⟩
theorem SetL.congr {h : Heap} {a : Addr} {S S' : Str → Bool} {n n' : Nat} (x : SetL prog w h a S n) (e : ∀ k, S k = S' k) (en : n = n') : SetL prog w h a S' n' := by
  have : S = S' := funext e
  subst this; subst en; exact x
theorem SetL.keep {h h' : Heap} {a : Addr} {S : Str → Bool} {n : Nat} (x : SetL prog w h a S n) (k : ∀ o, h.get? a = some o → h'.get? a = some o) : SetL prog w h' a S n := by
  obtain ⟨o, es, ep, t, h1, r⟩ := x
  exact ⟨o, es, ep, t, k _ h1, r⟩
theorem addL {a : Addr} {S : Str → Bool} {n : Nat} {k : Str} {tk : Tok} {Q : Bool → Shared → Prop} (hS : SetL prog w s.heap a S n) (hroom : n + 1 < scanBound)
    (h : ∀ h', Heap.SameBut a s.heap h' → SetL prog w h' a (fun k' => S k' || decide (k' = k)) (if S k then n else n + 1) → Q (!S k) { s with heap := h' }) :
    wpAny (model prog w) A (setAddHashed a (.str k tk) ((strKind prog w).hash k)) Q E s := by
  have hkey : (strKind prog w).is k (.str k tk) = true := strKind_is _ _ _ _
  have hsc : (Value.str k tk).scannable = true := rfl
  obtain ⟨o, es, ep, t, ho, hex, hd, hel, hmem, hb, hf, hn, hled, hpl⟩ := hS
  have hb1 : es.size + 1 < scanBound := by rw [hn]; exact hroom
  unfold setAddHashed setAddHashedIn
  refine wpAny_holding (wpAny_bind (wpAny_setState_of ho hd hf ?_))
  dsimp only
  rw [byScan_of hsc hb hel]
  simp only [↓reduceIte]
  unfold setAddByScan
  refine wpAny_bind ?_
  refine wpAny_bind (wpAny_rule ?_)
  refine wpAny_bind (wpAny_setScan_of hkey ho hd hf hel ?_)
  cases hr : List.findIdx? (fun e => (strKind prog w).is k e.2) es.toList with
  | some j =>
    dsimp only
    obtain ⟨hj, hpj, _⟩ := List.findIdx?_eq_some_iff_getElem.mp hr
    have hSk : S k = true := (hmem k).mpr ⟨es.toList[j], List.getElem_mem hj, hpj⟩
    refine wpAny_pure (wpAny_pure ?_)
    have e : s = { s with heap := s.heap } := by cases s; rfl
    have := h s.heap (Heap.SameBut.refl a s.heap) ⟨o, es, ep, t, ho, hex, hd, hel, fun k' => by
      rw [Bool.or_eq_true, decide_eq_true_eq, ← hmem k']
      exact ⟨fun hk => hk.elim id (fun e => e ▸ hSk), .inl⟩, hb, hf, by rw [hSk]; exact hn, hled, by rw [hSk]; exact hpl⟩
    rw [hSk] at this; rw [e]; exact this
  | none =>
    dsimp only
    have hSk : S k = false := by
      cases hk : S k with
      | false => rfl
      | true => obtain ⟨e, he, hp⟩ := (hmem k).mp hk; have := List.findIdx?_eq_none_iff.mp hr e he; rw [hp] at this; exact Bool.noConfusion this
    have hgw : ∀ (b : Bool) {s₁ : Shared} {Q' : Unit → Shared → Prop}, Q' () s₁ → wpAny (model prog w) A (match b with | true => rule "set.scan.the-table-gave-way" | false => pure ()) Q' E s₁ :=
      fun b s₁ Q' hq => by cases b <;> first | exact wpAny_pure hq | exact wpAny_rule hq
    have hperm := layNew_perm t es ((strKind prog w).hash k) (.str k tk)
    have hfits := layNew_fits t es ((strKind prog w).hash k) (.str k tk)
    have hll := layNew_led t es ((strKind prog w).hash k) (.str k tk)
    generalize hL : layNew t es ((strKind prog w).hash k) (.str k tk) = L at hperm hfits hll ⊢
    obtain ⟨es1, t1, wasDummy, gave⟩ := L
    dsimp only at hperm hfits hll ⊢
    rw [Array.toList_push] at hperm
    have hel1 : ElemsOf (strKind prog w) es1.toList := (hel.push hkey hsc).perm hperm
    have hmem1 : ∀ k', (S k' || decide (k' = k)) = true ↔ ∃ e ∈ es1.toList, (strKind prog w).is k' e.2 = true := mem_push_iff hkey hmem hperm
    have hb1' : es1.size < scanBound := by rw [← Array.length_toList, hperm.length_eq, List.length_append, Array.length_toList]; simpa using hb1
    have hsz1 : es1.size = n + 1 := by rw [← Array.length_toList, hperm.length_eq, List.length_append, Array.length_toList, hn]; rfl
    refine wpAny_bind (hgw _ ?_)
    -- the tail, whatever the table but not plain
    have tail : ∀ t2 : SetTable, t2.fits es1.size = true → t2.led = t.led → t2.plain = false → wpAny (model prog w) A (do
        storeSet a es1 t2
        if (!wasDummy && t2.tooFull) = true then do
            (match (relayAll t2 es1 (SetTable.grown es1.size)).2.2 with | true => rule "set.scan.the-table-gave-way" | false => pure ())
            storeSet a (relayAll t2 es1 (SetTable.grown es1.size)).1 (relayAll t2 es1 (SetTable.grown es1.size)).2.1
            pure (some true)
          else pure (some true)) (fun r s' => r = some true ∧ Q true s') E s := by
      intro t2 hf2 hl2 hp2
      refine wpAny_bind (wpAny_storeSet_of ho hd ?_ (fits_of_scanBound hb1'))
      obtain ⟨ho1, _⟩ := SetOf_store (knd := strKind prog w) ho hex hd hel1 hmem1 hb1' hf2
      have hsb1 := Heap.SameBut.update s.heap a (Obj.putSet es1 t2)
      have hend : ∀ h', Heap.SameBut a s.heap h' → SetL prog w h' a (fun k' => S k' || decide (k' = k)) (n + 1) → Q true { s with heap := h' } := fun h' hsb hS' => by
        have := h h' hsb
        rw [hSk] at this
        exact this hS'
      split
      · have hp := relayAll_perm t2 es1 (SetTable.grown es1.size)
        have hfr := relayAll_fits t2 es1 (SetTable.grown es1.size)
        have hlr := relayAll_led t2 es1 (SetTable.grown es1.size)
        generalize hRl : relayAll t2 es1 (SetTable.grown es1.size) = Rl at hp hfr hlr ⊢
        obtain ⟨es2, t3, gave2⟩ := Rl
        dsimp only at hp hfr hlr ⊢
        have hel2 : ElemsOf (strKind prog w) es2.toList := hel1.perm hp
        have hmem2 : ∀ k', (S k' || decide (k' = k)) = true ↔ ∃ e ∈ es2.toList, (strKind prog w).is k' e.2 = true := fun k' => (hmem1 k').trans ⟨fun ⟨e, he, q⟩ => ⟨e, hp.mem_iff.mpr he, q⟩, fun ⟨e, he, q⟩ => ⟨e, hp.mem_iff.mp he, q⟩⟩
        have hsz : es2.size = es1.size := by rw [← Array.length_toList, hp.length_eq, Array.length_toList]
        have hb2 : es2.size < scanBound := by rw [hsz]; exact hb1'
        refine wpAny_bind (hgw _ ?_)
        refine wpAny_bind (wpAny_storeSet_of ho1 rfl ?_ (fits_of_scanBound hb2))
        obtain ⟨ho2, _⟩ := SetOf_store (knd := strKind prog w) ho1 hex rfl hel2 hmem2 hb2 hfr
        exact wpAny_pure ⟨rfl, hend _ (hsb1.trans (Heap.SameBut.update _ a _)) ⟨_, es2, _, t3, ho2, hex, rfl, hel2, hmem2, hb2, hfr, hsz.trans hsz1, by rw [hlr.1, hl2]; exact hled, fun _ => hlr.2 hp2⟩⟩
      · exact wpAny_pure ⟨rfl, hend _ hsb1 ⟨_, es1, _, t2, ho1, hex, rfl, hel1, hmem1, hb1', hf2, hsz1, by rw [hl2]; exact hled, fun _ => hp2⟩⟩
    split
    · rename_i hpp
      refine wpAny_bind (wpAny_pure ?_)
      refine wpAny_mono (tail { t1 with plain := false } (SetTable.fits_plain_off hfits) hll rfl) (fun r s' q => ?_) fun _ _ e => e
      obtain ⟨rfl, q⟩ := q
      dsimp only
      exact wpAny_pure q
    · rename_i hpp
      refine wpAny_bind (wpAny_pure ?_)
      simp only [↓reduceIte]
      refine wpAny_mono (tail t1 hfits hll (by simpa using hpp)) (fun r s' q => ?_) fun _ _ e => e
      obtain ⟨rfl, q⟩ := q
      dsimp only
      exact wpAny_pure q
end
end GS


namespace GS
open PySem PySem.Spec PyProof.Rows
section
variable {prog : Program} {w : World} {A : Around} {R : Result → Shared → Prop} {I : Addr} {fp wr : List Addr} {G : Array GenState → Array GenState → Prop} {n : Nat} {P : Nat → Value → Prop} {St : Nat → Shared → Prop}
theorem set_loop_strL (W : WalksS prog w A.in1 I fp wr G n P St) (S : Addr) (hSf : S ∉ fp)
    (val : Nat → Str) (hval : ∀ i v, P i v → ∃ t, v = .str (val i) t) (hb : ∀ i, (fm val i).length + 1 < scanBound) :
    ∀ (k i : Nat) (s : Shared), n - i = k → i ≤ n → St i s →
      SetL prog w s.heap S (fun k' => decide (k' ∈ fm val i)) (fm val i).length →
      (∀ s', Moved (S :: wr) G s s' → SetL prog w s'.heap S (fun k' => decide (k' ∈ fm val n)) (fm val n).length → R (.ok (.ret .none)) s') →
      codeAny (model prog w) A (.builtin "set.update.loop" ⟨[.ref S, .ref I], []⟩) R s := by
  have hSw : S ∉ wr := fun h => hSf (W.sub _ h)
  have hsub : ∀ b ∈ wr, b ∈ S :: wr := fun b hb => List.mem_cons_of_mem _ hb
  intro k
  induction k with
  | zero =>
    intro i s hk hi hst hS hR
    have hin : i = n := by omega
    subst hin
    refine codeAny_builtin F.entry_set_update_loop ?_
    rw [Around.under_plainId F.plain_set_update_loop _]
    show wpAny _ A.in1 (pyNext (.ref I) >>= _) _ _ s
    refine wpAny_bind (W.done s _ _ hst fun s' hm => ?_)
    show wpAny _ A.in1 (ret Value.none) _ _ s'
    exact wpAny_pure (hR s' (hm.mono hsub) (by
      obtain ⟨o, es, ep, t, ho, rest⟩ := hS
      exact ⟨o, es, ep, t, hm.heap S _ hSw ho, rest⟩))
  | succ k ih =>
    intro i s hk hi hst hS hR
    have hlt : i < n := by omega
    refine codeAny_builtin F.entry_set_update_loop ?_
    rw [Around.under_plainId F.plain_set_update_loop _]
    show wpAny _ A.in1 (pyNext (.ref I) >>= _) _ _ s
    refine wpAny_bind (W.item i s _ _ hlt hst fun v s' hP hst' hm => ?_)
    obtain ⟨t, rfl⟩ := hval i v hP
    have hS' : SetL prog w s'.heap S (fun k' => decide (k' ∈ fm val i)) (fm val i).length := by
      obtain ⟨o, es, ep, tb, ho, rest⟩ := hS
      exact ⟨o, es, ep, tb, hm.heap S _ hSw ho, rest⟩
    show wpAny _ A.in1 (holding [Value.str (val i) t] (setAdd S (.str (val i) t)) >>= _) _ _ s'
    refine wpAny_bind (wpAny_holding ?_)
    unfold setAdd
    refine wpAny_holding ?_
    refine wpAny_bind ((strKind prog w).pyHash (k := val i) (strKind_is _ _ _ _) ?_)
    refine addL (s := { s' with toks := s'.toks + 1 }) hS' (hb i) fun h' hsb hS2 => ?_
    have hSi : SetL prog w h' S (fun k' => decide (k' ∈ fm val (i + 1))) (fm val (i + 1)).length :=
      hS2.congr (fun k' => (fm_step val i k').symm) (fm_len val i).symm
    refine wpAny_pure ⟨plainId_quiet F.plain_set_update_loop _, ih (i + 1) _ (by omega) hlt (W.frame _ s' _ _ hst' (Nat.le_succ _) fun b hb o e => ?_) hSi fun s'' hm'' hS'' => ?_⟩
    · rw [hsb.2 b (fun h : b = S => hSf (by rw [← h]; exact hb))]; exact e
    · refine hR s'' (Moved.trans W.gtrans ((hm.mono hsub).then_heap (Nat.le_succ _) fun b o hb e => ?_) hm'') hS''
      rw [hsb.2 b (fun h : b = S => hb (by rw [h]; exact List.mem_cons_self))]; exact e
end
section
variable {prog : Program} {w : World} {A : Around} {E : Value → Shared → Prop} {s : Shared}
theorem set_new_L (a : Value) {Q₁ : Value → Shared → Prop}
    (h : Q₁ (.ref s.heap.objs.size) { s with heap := s.heap.push { cls := .type "set", dict := none, data := .set #[] 0 (.fresh 0 0 (!w.params.followText "set-order")) } }) :
    codeAny (model prog w) A (.call (.builtin "set.__new__") ⟨[.type "set", a], []⟩) (wants Q₁ E) s := by
  refine codeAny_of_tree ?_
  show wpAny _ A.in1 (do checkBuiltinCall "set.__new__" ⟨[.type "set", a], []⟩; again (.builtin "set.__new__" ⟨[.type "set", a], []⟩)) _ _ s
  refine wpAny_bind (wpAny_of_eq (PySem.F.newCall_set_1 a) (wpAny_pure ⟨plainId_quiet PySem.F.plain_set_new _, codeAny_builtin PySem.F.entry_set_new ?_⟩))
  rw [Around.under_plainId PySem.F.plain_set_new _]
  unfold Builtin.«set.__new__» Builtin.Frozenset.newClass
  have hsub := sub_set_self
  obtain ⟨hp, g, d, tk, os⟩ := s
  dsimp only
  wp_walk
  refine wpAny_askSetting (wpAny_pure ?_)
  dsimp only
  simp only [newObj]
  refine wpAny_bind (wpAny_alloc (wpAny_pure ?_))
  exact wpAny_pure h
set_option maxHeartbeats 3200000 in
theorem call_set_strL {x : Str} {t : Tok} {Q : Value → Shared → Prop}
    (hh : A.handled = none) (hb : ∀ i, (fm (sg x) i).length + 1 < scanBound)
    (h : ∀ (h' : Heap) (tk : Nat), SetL prog w h' s.heap.objs.size (fun k' => decide (k' ∈ fm (sg x) x.cps.size)) (fm (sg x) x.cps.size).length →
      (∀ b o, b < s.heap.objs.size → s.heap.get? b = some o → h'.get? b = some o) → Q (.ref s.heap.objs.size) { s with heap := h', toks := tk }) :
    wpAny (model prog w) A (call (.type "set") [.str x t]) Q E s := by
  obtain ⟨c, tl, hmro⟩ := PySem.F.called_set.mro
  have hmade := PySem.F.called_set.made
  have hsub := PySem.F.called_set.sub
  refine wpAny_call (codeAny_of_tree ?_)
  show wpAny _ _ (callAny (.type "set") _) _ _ _
  refine wpAny_pure ⟨Code.quiet_builtin _ (by decide +kernel), codeAny_builtin PySem.F.entry_type_call ?_⟩
  rw [Around.under_plain (weight_type_call_type "set" [.str x t] []) rfl]
  have h1 := PySem.F.called_set.notType
  have h2 := PySem.F.called_set.canCreate
  have hct := PySem.F.typeCall_set_1 (.str x t)
  repeat (any_goals (first | assumption | wp_step))
  refine codeAny_mono (set_new_L (.str x t) (E := E) (Q₁ := fun obj s₁ => ∃ led : Bool, led = (!w.params.followText "set-order") ∧ obj = .ref s.heap.objs.size ∧ s₁ = { s with heap := s.heap.push { cls := .type "set", dict := none, data := .set #[] 0 (.fresh 0 0 led) } }) ⟨_, rfl, rfl, rfl⟩) fun r s₁ hr => ?_
  cases r with
  | error e => exact hr
  | ok fl =>
    cases fl with
    | ret obj =>
      obtain ⟨led, hled, rfl, rfl⟩ := hr
      have hS : (s.heap.push { cls := .type "set", dict := none, data := .set #[] 0 (.fresh 0 0 led) }).get? s.heap.objs.size = some { cls := .type "set", dict := none, data := .set #[] 0 (.fresh 0 0 led) } := Heap.get?_push_size _ rfl
      have hT : Shared.TypeIs { s with heap := s.heap.push { cls := .type "set", dict := none, data := .set #[] 0 (.fresh 0 0 led) } } (.ref s.heap.objs.size) "set" := ⟨_, hS, rfl⟩
      have hli := PySem.F.called_set.init.lookup
      have hbi := PySem.F.called_set.init.bind (.ref s.heap.objs.size)
      repeat (any_goals (first | assumption | wp_step))
      refine codeAny_mono (codeAny_call_builtin (R := wants (fun r s₂ => r = .none ∧ ∃ h' tk, s₂ = { s with heap := h', toks := tk } ∧
          SetL prog w h' s.heap.objs.size (fun k' => decide (k' ∈ fm (sg x) x.cps.size)) (fm (sg x) x.cps.size).length ∧
          (∀ b o, b < s.heap.objs.size → s.heap.get? b = some o → h'.get? b = some o)) E) PySem.F.called_set.init.plain PySem.F.entry_set_init (check_set_init_1 hT ?_)) fun r₂ s₂ hr₂ => ?_
      · have hsls := F.sub_str_set
        have hslf := F.sub_str_frozenset
        have hne : (Value.type "str" == Value.type "dict") = false := by decide
        unfold Builtin.«set.__init__» noKeywords Builtin.Frozenset.updateFrom
        generalize hPI : pyIter = PI
        wp_walk
        subst hPI
        refine wpAny_pyIter_str fun o St hW hSt => ?_
        refine wpAny_bind (wpAny_runValue ?_)
        have hh3 : A.in1.in1.in1.handled = none := by simp [hh]
        have hSf : s.heap.objs.size ∉ [(s.heap.push { cls := .type "set", dict := none, data := .set #[] 0 (.fresh 0 0 led) }).objs.size] := by
          rw [Heap.size_push]; simp only [List.mem_cons, List.not_mem_nil, or_false]
          exact Nat.ne_of_lt (Nat.lt_succ_self _)
        have hval : ∀ (i : Nat) (v : Value), SignAt x i v → ∃ t, v = .str (sg x i) t := fun i v hv => by
          obtain ⟨c, u, e, rfl⟩ := hv
          refine ⟨u, ?_⟩
          unfold sg
          rw [Array.getD_eq_getD_getElem?, e]; rfl
        refine set_loop_strL ((hW _ hh3).toS) s.heap.objs.size
          hSf (sg x) hval hb (x.cps.size - 0) 0 _ (by omega) (Nat.zero_le _) hSt ?hS0 ?hR
        case hS0 =>
          have hget : ((s.heap.push { cls := .type "set", dict := none, data := .set #[] 0 (.fresh 0 0 led) }).push o).get? s.heap.objs.size
              = some { cls := .type "set", dict := none, data := .set #[] 0 (.fresh 0 0 led) } := Heap.get?_push_of_some _ hS
          exact ⟨_, #[], 0, _, hget, ⟨rfl, rfl, rfl⟩, rfl, fun e he => by simp at he, fun k => by simp [fm], by decide, by rfl, rfl, hled, fun h => absurd h (Nat.not_lt_zero _)⟩
        case hR =>
          intro s' hm hS'
          obtain ⟨h', g', d', tk', os'⟩ := s'
          have eg : g' = s.gens := hm.gens
          have ed : d' = s.drawn := hm.drawn
          have eo : os' = s.os := hm.os
          subst eg; subst ed; subst eo
          show wpAny _ _ _ _ _ _
          refine wpAny_pure ?_
          show wpAny _ _ (ret Value.none) _ _ _
          refine wpAny_pure ⟨rfl, h', tk', rfl, hS', fun b o hb e => ?_⟩
          have hb1 : b ≠ s.heap.objs.size := Nat.ne_of_lt hb
          have hb2 : b ≠ (s.heap.push { cls := .type "set", dict := none, data := .set #[] 0 (.fresh 0 0 led) }).objs.size := by
            rw [Heap.size_push]; exact Nat.ne_of_lt (Nat.lt_succ_of_lt hb)
          exact hm.heap b o (by simp only [List.mem_cons, List.mem_singleton, List.not_mem_nil, or_false, not_or]; exact ⟨hb1, hb2⟩) (Heap.get?_push_of_some _ (Heap.get?_push_of_some _ e))
      · cases r₂ with
        | error e => exact hr₂
        | ok fl₂ =>
          cases fl₂ with
          | ret r =>
            obtain ⟨rfl, h', tk, rfl, hS', hk'⟩ := hr₂
            repeat (any_goals (first | assumption | wp_step))
            exact h _ _ hS' hk'
          | _ => exact hr₂.elim
    | _ => exact hr.elim
end
end GS

namespace GS
open PySem PySem.Spec PyProof.Rows
section
variable {prog : Program} {w : World} {A : Around} {E : Value → Shared → Prop}
theorem erase_perm {α : Type} : ∀ {l : List α} {i : Nat} (h : i < l.length), (l[i] :: l.eraseIdx i).Perm l
  | x :: xs, 0, _ => List.Perm.refl _
  | x :: xs, i + 1, h => by
    have h' : i < xs.length := Nat.lt_of_succ_lt_succ h
    show (xs[i] :: x :: xs.eraseIdx i).Perm (x :: xs)
    exact (List.Perm.swap _ _ _).trans (List.Perm.cons _ (erase_perm h'))
theorem choose_ {src : Source} {n : Nat} {s : Shared} {Q : Nat → Shared → Prop} (hn : n ≠ 0) (h : ∀ i d, i < n → Q i { s with drawn := d }) : wpAny (model prog w) A (choose src n) Q E s := by
  intro Γ p hG
  unfold choose
  rw [Sem.wp_choose]
  exact ⟨hn, by rw [Sem.wp]; exact h _ _ (Nat.mod_lt _ (Nat.pos_of_ne_zero hn))⟩
theorem drawOrder_ {α : Type} : ∀ (n : Nat) (xs : List α) (s : Shared) (Q : List α → Shared → Prop), n = xs.length → (∀ ys d, ys.Perm xs → Q ys { s with drawn := d }) → wpAny (model prog w) A (drawOrder n xs) Q E s
  | 0, [], s, Q, _, h => wpAny_pure (h [] s.drawn (List.Perm.refl _))
  | n + 1, x :: xs, s, Q, hn, h => by
    unfold drawOrder
    refine wpAny_bind (choose_ (by simp) fun i d hi => ?_)
    rw [List.getElem?_eq_getElem hi]
    dsimp only
    have hl : n = ((x :: xs).eraseIdx i).length := by rw [List.length_eraseIdx_of_lt hi, ← hn]; rfl
    refine wpAny_bind (drawOrder_ n ((x :: xs).eraseIdx i) { s with drawn := d } _ hl fun ys d' hp => wpAny_pure (h _ d' ?_))
    exact (List.Perm.cons _ hp).trans (erase_perm hi)
end
end GS

namespace GS
open PySem PySem.Spec PyProof.Rows
namespace F2
theorem slot_next : Slot "set_iterator" "__next__" "set_iterator.__next__" :=
  .of (owner := "set_iterator") (n := "__next__") (by rw [typeLookup_type, builtinLookup_eq_fast]; kernel_rfl) (by decide +kernel) (by decide +kernel) (by decide +kernel)
    (by first | exact .inl (by decide +kernel) | exact .inr (by decide +kernel)) (by rw [isSubtype_type]; kernel_rfl)
theorem slot_iter : Slot "set_iterator" "__iter__" "set_iterator.__iter__" :=
  .of (owner := "set_iterator") (n := "__iter__") (by rw [typeLookup_type, builtinLookup_eq_fast]; kernel_rfl) (by decide +kernel) (by decide +kernel) (by decide +kernel)
    (by first | exact .inl (by decide +kernel) | exact .inr (by decide +kernel)) (by rw [isSubtype_type]; kernel_rfl)
theorem entry_next : entryFor table "set_iterator.__next__" = some Builtin.«set_iterator.__next__» := entryFor_of_tree (by kernel_rfl)
theorem entry_iter : entryFor table "set_iterator.__iter__" = some Builtin.«dict_keyiterator.__iter__» :=
  entryFor_alias (id' := "dict_keyiterator.__iter__") (by kernel_rfl) (by first | rfl | decide +kernel) (by decide +kernel) (by kernel_rfl)
theorem entry_set_iter : entryFor table "set.__iter__" = some Builtin.«frozenset.__iter__» :=
  entryFor_alias (id' := "frozenset.__iter__") (by kernel_rfl) (by first | rfl | decide +kernel) (by decide +kernel) (by kernel_rfl)
theorem args_next (a : Value) : argsOk "set_iterator.__next__" ⟨[a], []⟩ := by unfold argsOk; kernel_rfl
theorem args_iter (a : Value) : argsOk "set_iterator.__iter__" ⟨[a], []⟩ := by unfold argsOk; kernel_rfl
end F2
noncomputable abbrev siO (first : Value) (i : Int) (a : Addr) (n ep : Nat) : Obj := { cls := .type "set_iterator", data := .fields #[first, rawInt i, .ref a, rawInt n, rawInt ep] }
noncomputable def SAt (h : Heap) (a : Addr) (es : Array (Int × Value)) (ep : Nat) (t : SetTable) : Prop := ∃ o, h.get? a = some o ∧ o.data = .set es ep t ∧ t.fits es.size = true
section
variable {prog : Program} {w : World} {A : Around} {E : Value → Shared → Prop} {s : Shared} {it a : Addr} {es : Array (Int × Value)} {ep : Nat} {t : SetTable}
theorem si_iter {first : Value} {i : Int} {n : Nat} {Q : Value → Shared → Prop} (hit : s.heap.get? it = some (siO first i a n ep)) (h : Q (.ref it) s) : wpAny (model prog w) A (pyIter (.ref it)) Q E s := by
  have hT : s.TypeIs (.ref it) "set_iterator" := ⟨_, hit, rfl⟩
  refine wpAny_pyIter_slot hT F2.slot_iter (wpAny_call_entry F2.slot_iter hT F2.entry_iter ?_ (F2.args_iter _))
  show wpAny _ _ (ret (.ref it)) _ _ s
  exact wpAny_pure ⟨_, rfl, "set_iterator", _, hT, F2.slot_next.lookup, h⟩
theorem si_stop {Q : Option Value → Shared → Prop} {s' : Shared} (hh : A.handled = none) (hQ : ∀ h', (∀ b o, s'.heap.get? b = some o → h'.get? b = some o) → Q none { s' with heap := h' }) :
    wpAny (model prog w) A.in1 (newExc (.type "StopIteration") [] >>= fun e => raiseNew e)
      (fun fin s1 => ∃ v, fin = PySem.Fin.done (.ret v) ∧ wpAny (model prog w) A (pure (some v)) Q E s1) (fun e s1 => wpAny (model prog w) A (do if ← isInstance e (.type "StopIteration") then pure none else throw e) Q E s1) s' := by
  refine wpAny_bind ?_
  simp only [newExc, newTuple]
  refine wpAny_bind (wpAny_newObj_type ?_ (by size_fits))
  refine wpAny_bind (m := firstArgMember _ _) (wpAny_of_eq (a := Value.none) (by first | rfl | (simp only [firstArgMember]; rfl)) ?_)
  refine wpAny_newObj_type ?_ (by size_fits)
  simp only [raiseNew]
  refine wpAny_bind (wpAny_handled ?_)
  rw [show A.in1.handled = none from hh]
  refine wpAny_bind (wpAny_pure (wpAny_throw ?_))
  refine wpAny_bind (wpAny_isInstance (T := "StopIteration") (b := true) ⟨_, Heap.get?_push_size _ rfl, rfl⟩ isSubtype_stop ?_)
  exact wpAny_pure (hQ _ fun b o e => Heap.get?_push_of_some _ (Heap.get?_push_of_some _ e))
theorem si_next_int {slot slot' i : Nat} {x : Value} {Q : Option Value → Shared → Prop} (hit : s.heap.get? it = some (siO (rawInt slot) i a es.size ep)) (ha : SAt s.heap a es ep t)
    (hn : ∀ {Q : Option (Value × Nat) → Shared → Prop} {E : Value → Shared → Prop}, Q (some (x, slot')) s → wpAny (model prog w) A.in1 (setNext a slot i ep) Q E s)
    (hQ : ∀ h', h'.get? it = some (siO (rawInt slot') ((i : Int) + 1) a es.size ep) → Heap.SameBut it s.heap h' → Q (some x) { s with heap := h' }) : wpAny (model prog w) A (pyNext (.ref it)) Q E s := by
  have hT : s.TypeIs (.ref it) "set_iterator" := ⟨_, hit, rfl⟩
  obtain ⟨o, ho, hd, hf⟩ := ha
  unfold pyNext
  refine wpAny_bind (wpAny_attempt (wpAny_callSpecial?_slot (name := Str.ofString "__next__") hT F2.slot_next
    (wpAny_call_entry F2.slot_next hT F2.entry_next ?_ (F2.args_next _))))
  show wpAny _ _ (fieldsOf (.ref it) >>= _) _ _ s
  refine wpAny_bind (wpAny_fieldsOf hit rfl ?_)
  show wpAny _ _ (setEntries a >>= _) _ _ s
  refine wpAny_bind (wpAny_setEntries_of ho hd hf ?_)
  have e : ((es.size : Int) != (es.size : Int)) = false := by simp
  rw [e]
  show wpAny _ _ (setNext a ((slot : Int).toNat) ((i : Int).toNat) ((ep : Int).toNat) >>= _) _ _ s
  rw [Int.toNat_natCast, Int.toNat_natCast, Int.toNat_natCast]
  refine wpAny_bind (hn ?_)
  refine wpAny_bind (wpAny_setField_rec hit (by simp) fun h1 hz1 hs1 => ?_)
  refine wpAny_bind (wpAny_setField_rec hz1 (by simp) fun h2 hz2 hs2 => ?_)
  exact wpAny_pure ⟨_, rfl, wpAny_pure (hQ h2 hz2 (hs1.trans hs2))⟩
theorem si_end_int {slot i : Nat} {Q : Option Value → Shared → Prop} (hh : A.handled = none) (hit : s.heap.get? it = some (siO (rawInt slot) i a es.size ep)) (ha : SAt s.heap a es ep t)
    (hn : ∀ {Q : Option (Value × Nat) → Shared → Prop} {E : Value → Shared → Prop}, Q none s → wpAny (model prog w) A.in1 (setNext a slot i ep) Q E s)
    (hQ : ∀ h', (∀ b o, b ≠ it → s.heap.get? b = some o → h'.get? b = some o) → Q none { s with heap := h' }) : wpAny (model prog w) A (pyNext (.ref it)) Q E s := by
  have hT : s.TypeIs (.ref it) "set_iterator" := ⟨_, hit, rfl⟩
  obtain ⟨o, ho, hd, hf⟩ := ha
  unfold pyNext
  refine wpAny_bind (wpAny_attempt (wpAny_callSpecial?_slot (name := Str.ofString "__next__") hT F2.slot_next
    (wpAny_call_entry F2.slot_next hT F2.entry_next ?_ (F2.args_next _))))
  show wpAny _ _ (fieldsOf (.ref it) >>= _) _ _ s
  refine wpAny_bind (wpAny_fieldsOf hit rfl ?_)
  show wpAny _ _ (setEntries a >>= _) _ _ s
  refine wpAny_bind (wpAny_setEntries_of ho hd hf ?_)
  have e : ((es.size : Int) != (es.size : Int)) = false := by simp
  rw [e]
  show wpAny _ _ (setNext a ((slot : Int).toNat) ((i : Int).toNat) ((ep : Int).toNat) >>= _) _ _ s
  rw [Int.toNat_natCast, Int.toNat_natCast, Int.toNat_natCast]
  refine wpAny_bind (hn ?_)
  refine wpAny_bind (wpAny_setField_rec hit (by simp) fun h1 hz1 hs1 => ?_)
  refine si_stop hh fun h' k => hQ h' fun b o hb e => k b o (by rw [hs1.2 b hb]; exact e)
end
end GS

namespace GS
open PySem PySem.Spec PyProof.Rows
theorem pick_go {α : Type} (next : Nat → Nat) : ∀ (fuel k : Nat) (left : List α) (out : Array α), fuel = left.length → (pickOrder.go next fuel k left out).toList.Perm (out.toList ++ left)
  | 0, k, [], out, _ => by unfold pickOrder.go; simp
  | fuel + 1, k, x :: xs, out, h => by
    unfold pickOrder.go
    have hi : next k % (x :: xs).length < (x :: xs).length := Nat.mod_lt _ (by simp)
    rw [List.getElem?_eq_getElem hi]
    dsimp only
    have hl : fuel = ((x :: xs).eraseIdx (next k % (x :: xs).length)).length := by rw [List.length_eraseIdx_of_lt hi, ← h]; rfl
    refine (pick_go next fuel (k + 1) _ _ hl).trans ?_
    rw [Array.toList_push, List.append_assoc]
    exact List.Perm.append_left _ (erase_perm hi)
theorem pick_perm {α : Type} (next : Nat → Nat) (xs : Array α) : (pickOrder next xs).toList.Perm xs.toList := by
  have := pick_go next xs.size 0 xs.toList #[] (by simp)
  simpa [pickOrder] using this
section
variable {prog : Program} {w : World} {A : Around} {E : Value → Shared → Prop} {s : Shared} {it a : Addr} {es : Array (Int × Value)} {ep : Nat} {t : SetTable}
theorem byText_ {Q : Bool → Shared → Prop} (h : Q (w.params.followText "set-order") s) : wpAny (model prog w) A setsByText Q E s := wpAny_bind (wpAny_askSetting (wpAny_pure h))
theorem setNext_text {slot i : Nat} {Q : Option (Value × Nat) → Shared → Prop} (hbt : w.params.followText "set-order" = true) (ha : SAt s.heap a es ep t)
    (h : Q (((pickOrder (w.params.setOrder a ep) es)[i]?).map fun e => (e.2, slot)) s) : wpAny (model prog w) A (setNext a slot i ep) Q E s := by
  obtain ⟨o, ho, hd, hf⟩ := ha
  unfold setNext
  refine wpAny_bind (wpAny_setState_of ho hd hf ?_)
  refine wpAny_bind (byText_ ?_)
  rw [hbt]
  simp only [bne_self_eq_false, if_true, Bool.false_eq_true, if_false]
  refine wpAny_bind ?_
  unfold setWalk
  refine wpAny_bind (wpAny_setState_of ho hd hf ?_)
  refine wpAny_bind (byText_ ?_)
  rw [hbt]
  simp only [if_true]
  refine wpAny_bind (wpAny_askSetting ?_)
  exact wpAny_pure (wpAny_pure h)
theorem setNext_table {slot i : Nat} {Q : Option (Value × Nat) → Shared → Prop} (hbt : w.params.followText "set-order" = false) (ha : SAt s.heap a es ep t) (hl : t.led = true) (hz : es.size ≤ 1)
    (h : Q (match es[SetTable.below t.place slot]?, t.place[SetTable.below t.place slot]? with | some (_, x), some j => some (x, j + 1) | _, _ => none) s) : wpAny (model prog w) A (setNext a slot i ep) Q E s := by
  obtain ⟨o, ho, hd, hf⟩ := ha
  unfold setNext
  refine wpAny_bind (wpAny_setState_of ho hd hf ?_)
  refine wpAny_bind (byText_ ?_)
  rw [hbt]
  simp only [Bool.false_eq_true, if_false]
  have e1 : (!t.plain && decide (es.size > 1)) = false := by rw [decide_eq_false (by omega), Bool.and_false]
  show wpAny _ _ (if (!t.plain && decide (es.size > 1)) = true then _ else _) _ _ _
  rw [e1]
  simp only [Bool.false_eq_true, if_false]
  refine wpAny_bind ?_
  show wpAny _ _ (if (!t.led && !es.isEmpty) = true then _ else pure ()) _ _ _
  rw [hl]
  simp only [Bool.not_true, Bool.false_and, Bool.false_eq_true, if_false]
  exact wpAny_pure (wpAny_pure h)
noncomputable def TAt (h : Heap) (p : Addr) (pl : List Nat) : Prop := ∃ o, h.get? p = some o ∧ o.data = .seq (pl.map fun (i : Nat) => rawInt i).toArray
theorem si_next_drawn {p : Addr} {pl : List Nat} {i k : Nat} {hx : Int} {x : Value} {Q : Option Value → Shared → Prop} (hit : s.heap.get? it = some (siO (.ref p) i a es.size ep)) (ha : SAt s.heap a es ep t) (hp : TAt s.heap p pl) (hk : pl[i]? = some k) (hx' : es[k]? = some (hx, x))
    (hQ : ∀ h', h'.get? it = some (siO (.ref p) ((i : Int) + 1) a es.size ep) → Heap.SameBut it s.heap h' → Q (some x) { s with heap := h' }) : wpAny (model prog w) A (pyNext (.ref it)) Q E s := by
  have hT : s.TypeIs (.ref it) "set_iterator" := ⟨_, hit, rfl⟩
  obtain ⟨o, ho, hd, hf⟩ := ha
  obtain ⟨op, hop, hdp⟩ := hp
  unfold pyNext
  refine wpAny_bind (wpAny_attempt (wpAny_callSpecial?_slot (name := Str.ofString "__next__") hT F2.slot_next
    (wpAny_call_entry F2.slot_next hT F2.entry_next ?_ (F2.args_next _))))
  show wpAny _ _ (fieldsOf (.ref it) >>= _) _ _ s
  refine wpAny_bind (wpAny_fieldsOf hit rfl ?_)
  show wpAny _ _ (setEntries a >>= _) _ _ s
  refine wpAny_bind (wpAny_setEntries_of ho hd hf ?_)
  have e : ((es.size : Int) != (es.size : Int)) = false := by simp
  rw [e]
  show wpAny _ _ (seqItems? (.ref p) >>= _) _ _ s
  refine wpAny_bind (wpAny_seqItems hop hdp ?_)
  have hg : (pl.map fun (i : Nat) => rawInt i).toArray[((i : Nat) : Int).toNat]? = some (rawInt k) := by
    rw [Int.toNat_natCast, List.getElem?_toArray, List.getElem?_map, hk]; rfl
  simp only [hg]
  show wpAny _ _ (setNextDrawn a (k : Int).toNat (ep : Int).toNat >>= _) _ _ s
  refine wpAny_bind ?_
  unfold setNextDrawn
  refine wpAny_bind (wpAny_setState_of ho hd hf ?_)
  simp only [Int.toNat_natCast, bne_self_eq_false, Bool.false_eq_true, if_false, hx']
  refine wpAny_pure ?_
  refine wpAny_bind (wpAny_setField_rec hit (by simp) fun h1 hz1 hs1 => ?_)
  exact wpAny_pure ⟨_, rfl, wpAny_pure (hQ h1 hz1 hs1)⟩
theorem si_end_drawn {p : Addr} {pl : List Nat} {i : Nat} {Q : Option Value → Shared → Prop} (hh : A.handled = none) (hit : s.heap.get? it = some (siO (.ref p) i a es.size ep)) (ha : SAt s.heap a es ep t) (hp : TAt s.heap p pl) (hk : pl[i]? = none)
    (hQ : ∀ h', (∀ b o, b ≠ it → s.heap.get? b = some o → h'.get? b = some o) → Q none { s with heap := h' }) : wpAny (model prog w) A (pyNext (.ref it)) Q E s := by
  have hT : s.TypeIs (.ref it) "set_iterator" := ⟨_, hit, rfl⟩
  obtain ⟨o, ho, hd, hf⟩ := ha
  obtain ⟨op, hop, hdp⟩ := hp
  unfold pyNext
  refine wpAny_bind (wpAny_attempt (wpAny_callSpecial?_slot (name := Str.ofString "__next__") hT F2.slot_next
    (wpAny_call_entry F2.slot_next hT F2.entry_next ?_ (F2.args_next _))))
  show wpAny _ _ (fieldsOf (.ref it) >>= _) _ _ s
  refine wpAny_bind (wpAny_fieldsOf hit rfl ?_)
  show wpAny _ _ (setEntries a >>= _) _ _ s
  refine wpAny_bind (wpAny_setEntries_of ho hd hf ?_)
  have e : ((es.size : Int) != (es.size : Int)) = false := by simp
  rw [e]
  show wpAny _ _ (seqItems? (.ref p) >>= _) _ _ s
  refine wpAny_bind (wpAny_seqItems hop hdp ?_)
  have hg : (pl.map fun (i : Nat) => rawInt i).toArray[((i : Nat) : Int).toNat]? = none := by
    rw [Int.toNat_natCast, List.getElem?_toArray, List.getElem?_map, hk]; rfl
  simp only [hg]
  refine wpAny_bind (wpAny_setField_rec hit (by simp) fun h1 hz1 hs1 => ?_)
  refine wpAny_bind (wpAny_setField_rec hz1 (by simp) fun h2 hz2 hs2 => ?_)
  refine si_stop hh fun h' k => hQ h' fun b o hb e => k b o (by rw [hs2.2 b hb, hs1.2 b hb]; exact e)
end
end GS

namespace GS
open PySem PySem.Spec PyProof.Rows
section
variable {prog : Program} {w : World} {A : Around} {I a p : Addr} {es : Array (Int × Value)} {ep : Nat} {t : SetTable}
theorem SAt.keep {h h' : Heap} (x : SAt h a es ep t) (k : ∀ o, h.get? a = some o → h'.get? a = some o) : SAt h' a es ep t := by
  obtain ⟨o, h1, r⟩ := x
  exact ⟨o, k _ h1, r⟩
theorem TAt.keep {h h' : Heap} {pl : List Nat} (x : TAt h p pl) (k : ∀ o, h.get? p = some o → h'.get? p = some o) : TAt h' p pl := by
  obtain ⟨o, h1, r⟩ := x
  exact ⟨o, k _ h1, r⟩
theorem walks_int (hh : A.handled = none) (hne : a ≠ I) (ys : List Value) (hys : ys.length = es.size) (sl : Nat → Nat)
    (hn : ∀ (s : Shared) (i : Nat) (x : Value) (A : Around) (Q : Option (Value × Nat) → Shared → Prop) (E : Value → Shared → Prop), SAt s.heap a es ep t → ys[i]? = some x → Q (some (x, sl (i + 1))) s → wpAny (model prog w) A (setNext a (sl i) i ep) Q E s)
    (he : ∀ (s : Shared) (A : Around) (Q : Option (Value × Nat) → Shared → Prop) (E : Value → Shared → Prop), SAt s.heap a es ep t → Q none s → wpAny (model prog w) A (setNext a (sl es.size) es.size ep) Q E s) :
    Walks prog w A I [I, a] [I] es.size (fun i v => ys[i]? = some v) (fun i h => h.get? I = some (siO (rawInt (sl i)) i a es.size ep) ∧ SAt h a es ep t) where
  sub := fun b hb => by simp at hb; simp [hb]
  frame := fun _ _ _ st hk => ⟨hk I (by simp) _ st.1, st.2.keep fun o e => hk a (by simp) o e⟩
  item := fun i s Q E hi st hQ => by
    have hx : ys[i]? = some ys[i] := List.getElem?_eq_getElem (by omega)
    refine si_next_int (slot' := sl (i + 1)) st.1 st.2 (fun q => hn s i _ A.in1 _ _ st.2 hx q) fun h' h1 h2 => ?_
    refine hQ _ h' s.toks hx ⟨by rw [h1]; rfl, st.2.keep fun o e => by rw [h2.2 a hne]; exact e⟩ fun b o hb e => by rw [h2.2 b (by simpa using hb)]; exact e
  done := fun s Q E st hQ => si_end_int hh st.1 st.2 (fun q => he s A.in1 _ _ st.2 q) fun h' k => hQ h' s.toks fun b o hb e => k b o (by simpa using hb) e
  self := fun i s Q E st q => si_iter st.1 q
theorem walks_drawn (hh : A.handled = none) (hne : a ≠ I) (hnp : p ≠ I) (pl : List Nat) (hpl : pl.length = es.size) (hlt : ∀ k ∈ pl, k < es.size) :
    Walks prog w A I [I, a, p] [I] es.size (fun i v => ∃ k hx, pl[i]? = some k ∧ es[k]? = some (hx, v)) (fun i h => h.get? I = some (siO (.ref p) i a es.size ep) ∧ SAt h a es ep t ∧ TAt h p pl) where
  sub := fun b hb => by simp at hb; simp [hb]
  frame := fun _ _ _ st hk => ⟨hk I (by simp) _ st.1, st.2.1.keep fun o e => hk a (by simp) o e, st.2.2.keep fun o e => hk p (by simp) o e⟩
  item := fun i s Q E hi st hQ => by
    have hk : pl[i]? = some pl[i] := List.getElem?_eq_getElem (by omega)
    have hl := hlt _ (List.mem_of_getElem? hk)
    have hx : es[pl[i]]? = some (es[pl[i]].1, es[pl[i]].2) := Array.getElem?_eq_getElem hl
    refine si_next_drawn st.1 st.2.1 st.2.2 hk hx fun h' h1 h2 => ?_
    refine hQ _ h' s.toks ⟨_, _, hk, hx⟩ ⟨by rw [h1]; rfl, st.2.1.keep fun o e => by rw [h2.2 a hne]; exact e, st.2.2.keep fun o e => by rw [h2.2 p hnp]; exact e⟩ fun b o hb e => by rw [h2.2 b (by simpa using hb)]; exact e
  done := fun s Q E st hQ => si_end_drawn hh st.1 st.2.1 st.2.2 (List.getElem?_eq_none (by omega)) fun h' k => hQ h' s.toks fun b o hb e => k b o (by simpa using hb) e
  self := fun i s Q E st q => si_iter st.1 q
end
section
variable {prog : Program} {w : World} {A : Around} {E : Value → Shared → Prop} {s : Shared} {a : Addr}
structure Walked (prog : Program) (w : World) (A : Around) (a : Addr) (vs : List Value) (h₀ : Heap) (I : Addr) (h₁ : Heap) (fp : List Addr) (P : Nat → Value → Prop) (St : Nat → Heap → Prop) : Prop where
  walk : Walks prog w A I fp [I] vs.length P St
  start : St 0 h₁
  new : h₀.objs.size ≤ I
  keep : ∀ b o, h₀.get? b = some o → h₁.get? b = some o
  old : ∀ b ∈ fp, b = a ∨ h₀.objs.size ≤ b
  there : ∀ b ∈ fp, b < h₁.objs.size
  all : ∀ acc : List Value, acc.length = vs.length → (∀ (j : Nat) (v : Value), acc[j]? = some v → P j v) → acc.Perm vs
theorem drawn_perm {es : Array (Int × Value)} {pl : List Nat} (hp : pl.Perm (List.range es.size)) (acc : List Value) (hl : acc.length = es.size) (h : ∀ (j : Nat) (v : Value), acc[j]? = some v → ∃ k hx, pl[j]? = some k ∧ es[k]? = some (hx, v)) : acc.Perm (es.toList.map (·.2)) := by
  have e1 : acc = pl.map fun k => (es.toList.map (·.2)).getD k .none := by
    apply List.ext_getElem?
    intro j
    cases hj : acc[j]? with
    | none =>
      have : acc.length ≤ j := by simpa using hj
      have hpl : pl.length = es.size := by rw [hp.length_eq, List.length_range]
      rw [List.getElem?_map, List.getElem?_eq_none (by omega)]; rfl
    | some v =>
      obtain ⟨k, hx, h1, h2⟩ := h j v hj
      rw [List.getElem?_map, h1]
      have : (es.toList.map (·.2))[k]? = some v := by rw [List.getElem?_map, Array.getElem?_toList, h2]; rfl
      rw [Option.map_some, List.getD_eq_getElem?_getD, this]; rfl
  rw [e1]
  refine (hp.map _).trans ?_
  have e2 : ((List.range es.size).map fun k => (es.toList.map (·.2)).getD k .none) = es.toList.map (·.2) := by
    apply List.ext_getElem?
    intro j
    rw [List.getElem?_map]
    by_cases hj : j < es.size
    · rw [List.getElem?_range hj, Option.map_some, List.getD_eq_getElem?_getD, List.getElem?_eq_getElem (by simpa using hj)]; rfl
    · rw [List.getElem?_eq_none (by simp; omega), List.getElem?_eq_none (by simp; omega)]; rfl
  rw [e2]
theorem ix_all {ys acc : List Value} (hl : acc.length = ys.length) (h : ∀ (j : Nat) (v : Value), acc[j]? = some v → ys[j]? = some v) : acc = ys := by
  apply List.ext_getElem?
  intro j
  cases hj : acc[j]? with
  | none =>
    have : acc.length ≤ j := by simpa using hj
    rw [List.getElem?_eq_none (by omega)]
  | some v => rw [h j v hj]
theorem below1 (j k : Nat) : SetTable.below #[j] k = if j < k then 1 else 0 := by
  unfold SetTable.below
  show SetTable.below.go #[j] k 1 0 1 = _
  unfold SetTable.below.go
  simp only [Nat.zero_lt_one, if_true]
  show (if j < k then SetTable.below.go #[j] k 0 1 1 else SetTable.below.go #[j] k 0 0 0) = _
  rfl
theorem set_iter {es : Array (Int × Value)} {ep : Nat} {t : SetTable} {o : Obj} {Q : Value → Shared → Prop} (hh : A.handled = none) (ho : s.heap.get? a = some o) (hcl : o.cls = .type "set") (hd : o.data = .set es ep t) (hf : t.fits es.size = true) (hl : t.led = !w.params.followText "set-order") (hp : 0 < es.size → t.plain = false) (hz : es.size ≤ 1000)
    (h : ∀ I h₁ d fp P St, Walked prog w A a (es.toList.map (·.2)) s.heap I h₁ fp P St → Q (.ref I) { s with heap := h₁, drawn := d }) : wpAny (model prog w) A (pyIter (.ref a)) Q E s := by
  have hT : s.TypeIs (.ref a) "set" := ⟨o, ho, hcl⟩
  have hS : SAt s.heap a es ep t := ⟨o, ho, hd, hf⟩
  have hlt := Heap.lt_size ho
  have hev : (es.toList.map (·.2)).length = es.size := by simp
  refine wpAny_pyIter_slot hT PySem.F.slot_set_iter (wpAny_call_entry PySem.F.slot_set_iter hT F2.entry_set_iter ?_ (PySem.F.args_set_iter_1 _))
  unfold Builtin.«frozenset.__iter__»
  refine wpAny_bind (wpAny_pure ?_)
  refine wpAny_bind ?_
  unfold Builtin.Frozenset.sizeOf
  refine wpAny_bind (wpAny_setEntries_of ho hd hf (wpAny_pure ?_))
  refine wpAny_bind ?_
  unfold setDrawn
  refine wpAny_bind (wpAny_setState_of ho hd hf ?_)
  refine wpAny_bind (byText_ (wpAny_pure ?_))
  show wpAny _ _ (if (!w.params.followText "set-order" && (!t.plain && decide (es.size > 1))) = true then _ else _) _ _ _
  by_cases hdr : (!w.params.followText "set-order" && (!t.plain && decide (es.size > 1))) = true
  · rw [if_pos hdr]
    refine wpAny_bind (drawOrder_ es.size (List.range es.size) s _ (by simp) fun pl d hpl => ?_)
    have hll : pl.length = es.size := by rw [hpl.length_eq, List.length_range]
    generalize ho2 : ({ cls := .type "tuple", data := .seq (pl.map fun (i : Nat) => rawInt i).toArray } : Obj) = oT
    have hoT : oT.data = .seq (pl.map fun (i : Nat) => rawInt i).toArray := by rw [← ho2]
    have hfT : oT.isFreed = false := by rw [← ho2]; rfl
    refine wpAny_bind (wpAny_newTuple ?_ (by rw [List.length_map, hll, sizeLine_eq]; omega))
    rw [ho2]
    have hS1 : SAt (s.heap.push oT) a es ep t := hS.keep fun o e => Heap.get?_push_of_some _ e
    obtain ⟨o1, ho1, hd1, hf1⟩ := id hS1
    refine wpAny_bind (wpAny_setEpoch_of ho1 hd1 hf1 ?_)
    refine wpAny_bind (wpAny_newObj_type ?_)
    refine wpAny_pure ⟨_, rfl, "set_iterator", _, ⟨_, Heap.get?_push_size _ rfl, rfl⟩, F2.slot_next.lookup, ?_⟩
    have hz1 : (s.heap.push oT).objs.size = s.heap.objs.size + 1 := Heap.size_push _ _
    have hlt1 : a < (s.heap.push oT).objs.size := by rw [hz1]; exact Nat.lt_succ_of_lt hlt
    have hlt2 : s.heap.objs.size < (s.heap.push oT).objs.size := by rw [hz1]; exact Nat.lt_succ_self _
    have W := walks_drawn (prog := prog) (w := w) (I := (s.heap.push oT).objs.size) (ep := ep) (t := t) hh (Nat.ne_of_lt hlt1) (Nat.ne_of_lt hlt2) pl hll (fun k hk => by have := hpl.mem_iff.mp hk; simpa using this)
    rw [← hev] at W
    refine h (s.heap.push oT).objs.size _ d [(s.heap.push oT).objs.size, a, s.heap.objs.size] _ _ ⟨W, ⟨by rw [hev]; exact Heap.get?_push_size _ rfl, hS1.keep fun o e => Heap.get?_push_of_some _ e, ⟨oT, Heap.get?_push_of_some _ (Heap.get?_push_size _ hfT), hoT⟩⟩, Nat.le_of_lt hlt2, fun b o e => Heap.get?_push_of_some _ (Heap.get?_push_of_some _ e), ?_, ?_, ?_⟩
    · intro b hb
      simp only [List.mem_cons, List.not_mem_nil, or_false] at hb
      rcases hb with rfl | rfl | rfl
      · right; exact Nat.le_of_lt hlt2
      · left; rfl
      · right; exact Nat.le_refl _
    · intro b hb
      rw [Heap.size_push]
      simp only [List.mem_cons, List.not_mem_nil, or_false] at hb
      rcases hb with rfl | rfl | rfl
      · exact Nat.lt_succ_self _
      · exact Nat.lt_succ_of_lt hlt1
      · exact Nat.lt_succ_of_lt hlt2
    · intro acc hl hP
      exact drawn_perm hpl acc (by rw [hl, hev]) hP
  · rw [if_neg hdr]
    show wpAny _ _ (pure (rawInt 0) >>= fun first => _) _ _ _
    refine wpAny_bind (wpAny_pure ?_)
    refine wpAny_bind (wpAny_setEpoch_of ho hd hf ?_)
    refine wpAny_bind (wpAny_newObj_type ?_)
    refine wpAny_pure ⟨_, rfl, "set_iterator", _, ⟨_, Heap.get?_push_size _ rfl, rfl⟩, F2.slot_next.lookup, ?_⟩
    have fin : ∀ (ys : List Value) (sl : Nat → Nat), sl 0 = 0 → ys.Perm (es.toList.map (·.2)) →
      (∀ (s : Shared) (i : Nat) (x : Value) (A : Around) (Q : Option (Value × Nat) → Shared → Prop) (E : Value → Shared → Prop), SAt s.heap a es ep t → ys[i]? = some x → Q (some (x, sl (i + 1))) s → wpAny (model prog w) A (setNext a (sl i) i ep) Q E s) →
      (∀ (s : Shared) (A : Around) (Q : Option (Value × Nat) → Shared → Prop) (E : Value → Shared → Prop), SAt s.heap a es ep t → Q none s → wpAny (model prog w) A (setNext a (sl es.size) es.size ep) Q E s) →
      Q (.ref s.heap.objs.size) { s with heap := s.heap.push (siO (rawInt 0) 0 a es.size ep) } := by
      intro ys sl h0 hys hn he
      have hyl : ys.length = es.size := by rw [hys.length_eq, hev]
      have W := walks_int (I := s.heap.objs.size) hh (Nat.ne_of_lt hlt) ys hyl sl hn he
      rw [← hev] at W
      refine h s.heap.objs.size (s.heap.push (siO (rawInt 0) 0 a es.size ep)) s.drawn [s.heap.objs.size, a] _ _ ⟨W, ⟨by rw [h0, hev]; exact Heap.get?_push_size _ rfl, hS.keep fun o e => Heap.get?_push_of_some _ e⟩, Nat.le_refl _, fun b o e => Heap.get?_push_of_some _ e, ?_, ?_, ?_⟩
      · intro b hb
        simp only [List.mem_cons, List.not_mem_nil, or_false] at hb
        rcases hb with rfl | rfl
        · right; exact Nat.le_refl _
        · left; rfl
      · intro b hb
        rw [Heap.size_push]
        simp only [List.mem_cons, List.not_mem_nil, or_false] at hb
        rcases hb with rfl | rfl
        · exact Nat.lt_succ_self _
        · exact Nat.lt_succ_of_lt hlt
      · intro acc hl hP
        rw [ix_all (by rw [hl, hev, hyl]) hP]
        exact hys
    cases hbt : w.params.followText "set-order" with
    | true =>
      refine fin ((pickOrder (w.params.setOrder a ep) es).toList.map (·.2)) (fun _ => 0) rfl ((pick_perm _ es).map _) (fun s i x A Q E hS hx q => setNext_text hbt hS ?_) (fun s A Q E hS q => setNext_text hbt hS ?_)
      · rw [List.getElem?_map, Array.getElem?_toList] at hx
        obtain ⟨e, he, rfl⟩ := Option.map_eq_some_iff.mp hx
        rw [he]; exact q
      · have : (pickOrder (w.params.setOrder a ep) es).size = es.size := by
          have := (pick_perm (w.params.setOrder a ep) es).length_eq
          simpa using this
        rw [Array.getElem?_eq_none (by omega)]; exact q
    | false =>
      rw [hbt] at hl hdr
      have hz1 : es.size ≤ 1 := by
        refine Classical.byContradiction fun hn => hdr ?_
        rw [hp (by omega), decide_eq_true (by omega)]; rfl
      have hpl : t.place.size = es.size := by
        have := hf
        unfold SetTable.fits at this
        simp at this
        omega
      by_cases h0 : es.size = 0
      · refine fin [] (fun _ => 0) rfl (by rw [List.eq_nil_of_length_eq_zero (show (es.toList.map (·.2)).length = 0 by rw [hev]; exact h0)]) (fun s i x A Q E hS hx q => by simp at hx) (fun s A Q E hS q => setNext_table hbt hS hl hz1 ?_)
        rw [Array.getElem?_eq_none (by omega)]; exact q
      · have h1 : es.size = 1 := by omega
        obtain ⟨e, hes⟩ : ∃ e, es = #[e] := ⟨es[0], by
          apply Array.ext
          · simpa using h1
          · intro i hi _
            have : i = 0 := by omega
            subst this; rfl⟩
        obtain ⟨j, hj⟩ : ∃ j, t.place = #[j] := ⟨t.place[0], by
          apply Array.ext
          · simp; omega
          · intro i hi _
            have : i = 0 := by omega
            subst this; rfl⟩
        refine fin [e.2] (fun i => if i = 0 then 0 else j + 1) rfl (by rw [hes]; exact List.Perm.refl _) (fun s i x A Q E hS hx q => setNext_table hbt hS hl hz1 ?_) (fun s A Q E hS q => setNext_table hbt hS hl hz1 ?_)
        · have hi : i = 0 := by
            have := (List.getElem?_eq_some_iff.mp hx).1
            simpa using this
          subst hi
          have hx' : e.2 = x := by simpa using hx
          rw [hj, if_pos rfl, below1, if_neg (by omega), hes]
          subst hx'
          exact q
        · rw [hj, h1, if_neg (by decide), below1, if_pos (by omega), hes]
          exact q
end
end GS

namespace GS
open PySem PySem.Spec PyProof.Rows
section
variable {prog : Program} {w : World} {A : Around} {E : Value → Shared → Prop} {s : Shared} {r : Addr}
theorem hint_set {Q : Bool → Shared → Prop} (hT : s.TypeIs (.ref r) "set") (h : Q false s) : wpAny (model prog w) A (Builtin.List.listLengthHint (.ref r)) Q E s := by
  unfold Builtin.List.listLengthHint
  refine wpAny_bind (wpAny_specialOf hT PySem.F.slot_set_len.lookup ?_)
  generalize hid : ("set.__len__" : String) = id0
  wp_delta
  rw [show splitId id0 = some ("set", "__len__") from by subst hid; decide +kernel]
  subst hid
  refine wpAny_bind (wpAny_isInstance (T := "set") (b := true) hT (by rw [isSubtype_type]; kernel_rfl) ?_)
  refine wpAny_ite_split (fun hab => absurd hab (by decide)) (fun _ => ?_)
  refine wpAny_ite_split (fun _ => ?_) (fun hab => absurd (by decide +kernel) hab)
  refine wpAny_bind (wpAny_typeOf hT ?_)
  exact wpAny_pure h
theorem strKind_shape {k : Str} {v : Value} (h : (PySem.strKind prog w).is k v = true) : ∃ t, v = .str k t := by
  cases v with
  | str z t =>
    have : z = k := by simpa [PySem.strKind, Value.isStrOf] using h
    subst this; exact ⟨t, rfl⟩
  | _ => simp [PySem.strKind, Value.isStrOf] at h
theorem set_collect {S : Str → Bool} {n : Nat} {R : List Value → Shared → Prop} (hh : A.handled = none) (hS : SetL prog w s.heap r S n) (hz : n ≤ 1000)
    (h : ∀ (h' : Heap) (tk : Nat) (d : Drawn) (vs : List Value) (ss : List Str), (∀ b o, s.heap.get? b = some o → h'.get? b = some o) → StrsAre vs ss → ss.length = n → (∀ k, k ∈ ss ↔ S k = true) → R vs { s with heap := h', toks := tk, drawn := d }) :
    wpAny (model prog w) A (collect (.ref r)) R E s := by
  obtain ⟨o, es, ep, t, ho, hex, hd, hel, hmem, hb, hf, hn, hled, hpl⟩ := hS
  have hcl : o.cls = .type "set" := hex.1
  have hlt := Heap.lt_size ho
  have hev : (es.toList.map (·.2)).length = n := by rw [List.length_map, Array.length_toList]; exact hn
  have hstrs : ∀ vs : List Value, vs.Perm (es.toList.map (·.2)) → ∃ ss : List Str, StrsAre vs ss ∧ ss.length = n ∧ ∀ k, k ∈ ss ↔ S k = true := by
    intro vs hp
    have key : ∀ vs : List Value, (∀ v ∈ vs, ∃ k t, v = .str k t) → ∃ ss : List Str, StrsAre vs ss ∧ ss.length = vs.length ∧ ∀ k, k ∈ ss ↔ ∃ t, Value.str k t ∈ vs := by
      intro vs
      induction vs with
      | nil => intro _; exact ⟨[], .nil, rfl, fun k => by simp⟩
      | cons v vs ih =>
        intro hv
        obtain ⟨k, t, rfl⟩ := hv v List.mem_cons_self
        obtain ⟨ss, q1, q2, q3⟩ := ih fun u hu => hv u (List.mem_cons_of_mem _ hu)
        refine ⟨k :: ss, .cons k t q1, by simp [q2], fun k' => ?_⟩
        rw [List.mem_cons, q3]
        constructor
        · rintro (rfl | ⟨t', h⟩)
          · exact ⟨t, List.mem_cons_self⟩
          · exact ⟨t', List.mem_cons_of_mem _ h⟩
        · rintro ⟨t', h⟩
          rcases List.mem_cons.mp h with e | h
          · cases e; exact .inl rfl
          · exact .inr ⟨t', h⟩
    have hall : ∀ v ∈ vs, ∃ k t, v = .str k t := fun v hv => by
      obtain ⟨e, he, rfl⟩ := List.mem_map.mp (hp.mem_iff.mp hv)
      obtain ⟨⟨k, hk, _⟩, _⟩ := hel e he
      obtain ⟨t, ht⟩ := strKind_shape hk
      exact ⟨k, t, ht⟩
    obtain ⟨ss, q1, q2, q3⟩ := key vs hall
    refine ⟨ss, q1, by rw [q2, hp.length_eq, hev], fun k => ?_⟩
    rw [q3, hmem]
    constructor
    · rintro ⟨t, ht⟩
      obtain ⟨e, he, e2⟩ := List.mem_map.mp (hp.mem_iff.mp ht)
      exact ⟨e, he, by rw [e2]; exact strKind_is _ _ _ _⟩
    · rintro ⟨e, he, hk⟩
      obtain ⟨t, ht⟩ := strKind_shape hk
      exact ⟨t, hp.mem_iff.mpr (List.mem_map.mpr ⟨e, he, ht⟩)⟩
  unfold collect
  refine wpAny_bind (wpAny_runValue (codeAny_builtin entry_proto_collect' ?_))
  rw [Around.under_plainId PySem.F.plain_proto_collect _]
  show wpAny _ A.in1 (newList [] >>= fun l => again (.builtin "list.__iadd__" ⟨[l, .ref r], []⟩)) _ _ s
  refine wpAny_bind (wpAny_newObj_type ?_)
  refine wpAny_pure ⟨plainId_quiet PySem.F.plain_list_iadd _, codeAny_builtin entry_list_iadd' ?_⟩
  rw [Around.under_plainId PySem.F.plain_list_iadd _]
  generalize hL : s.heap.objs.size = L
  have hS₁ : (s.heap.push { cls := .type "list", data := .seq ([] : List Value).toArray }).get? L = some { cls := .type "list", data := .seq #[] } := by rw [← hL]; exact Heap.get?_push_size _ rfl
  have k1 : ∀ b o, s.heap.get? b = some o → (s.heap.push { cls := .type "list", data := .seq ([] : List Value).toArray }).get? b = some o := fun b o e => Heap.get?_push_of_some _ e
  generalize s.heap.push { cls := .type "list", data := .seq ([] : List Value).toArray } = h₁ at hS₁ k1
  show wpAny _ A.in1 (Builtin.List.listExtendWith (.ref L) (.ref r) (.ref L)) _ _ _
  have hLr : L ≠ r := fun z => by rw [← hL] at z; rw [z] at hlt; exact Nat.lt_irrefl _ hlt
  have ho₁ := k1 _ _ ho
  have hT₁ : Shared.TypeIs { s with heap := h₁ } (.ref r) "set" := ⟨o, ho₁, hcl⟩
  unfold Builtin.List.listExtendWith
  refine wpAny_bind (wpAny_typeOf (T := "set") hT₁ ?_)
  have h1 : Builtin.List.listSameRef (.ref L) (.ref r) = false := by simp [Builtin.List.listSameRef, hLr]
  have h2 : (Value.type "set" == Value.type "list") = false := by decide +kernel
  have h3 : (Value.type "set" == Value.type "tuple") = false := by decide +kernel
  simp only [h1, h2, h3, Bool.or_false, Bool.false_eq_true, if_false]
  refine wpAny_bind (set_iter (s := { s with heap := h₁ }) (A := A.in1) hh ho₁ hcl hd hf hled (fun hz => hpl (by omega)) (by omega) fun I h₂ d fp P St W => ?_)
  have hT₂ : Shared.TypeIs { s with heap := h₂, drawn := d } (.ref r) "set" := ⟨o, W.keep _ _ ho₁, hcl⟩
  have hS₂ := W.keep _ _ hS₁
  have hLI : L ∉ fp := fun hm => by
    rcases W.old L hm with z | z
    · exact hLr z
    · exact absurd (Heap.lt_size hS₁) (Nat.not_lt.mpr z)
  have key : ∀ (h : Heap) (c₁ : Nat), St 0 h → (∀ b o, b ≠ L → h₂.get? b = some o → h.get? b = some o) →
      h.get? L = some { cls := .type "list", data := .seq #[] c₁ } → codeAny (model prog w) A (.builtin "list.extend.loop" ⟨[.ref L, .ref I, .ref L], []⟩) (fun q s' => ∃ (h' : Heap) (tk : Nat) (acc' : Array Value) (c' : Nat), q = .ok (.ret (.ref L)) ∧ s' = { s with heap := h', toks := tk, drawn := d } ∧
      (∀ b o, s.heap.get? b = some o → h'.get? b = some o) ∧ h'.get? L = some { cls := .type "list", dict := none, data := .seq acc' c', slots := #[] } ∧ ItemsOf P acc' (es.toList.map (·.2)).length) { s with heap := h, drawn := d } := by
    intro h c₁ hst hk hS₁'
    refine codeAny_extend_loopS W.walk.toS (by rw [hev, sizeLine_eq]; omega) L hLI (.ref L) (es.toList.map (·.2)).length 0 _ #[] c₁ rfl (Nat.zero_le _) hst hS₁' (ItemsOf.nil _) fun s' acc' c' hm hS' hacc => ?_
    refine ⟨s'.heap, s'.toks, acc', c', rfl, Moved.eq_with hm, fun b o e => ?_, hS', hacc⟩
    have hbL : b ≠ L := fun z => by rw [← hL] at z; rw [z] at e; exact Nat.lt_irrefl _ (Heap.lt_size e)
    refine hm.heap b o (fun hmem => ?_) (hk b o hbL (W.keep _ _ (k1 _ _ e)))
    rcases List.mem_cons.mp hmem with e' | hmem
    · exact hbL e'
    · rw [List.mem_singleton] at hmem
      have := W.new
      rw [← hmem] at this
      exact absurd (Heap.lt_size (k1 _ _ e)) (Nat.not_lt.mpr this)
  refine wpAny_bind (wpAny_holding (hint_set hT₂ ?_))
  have fin : ∀ {X : Result → Shared → Prop}, (∀ (h' : Heap) (tk : Nat) (acc' : Array Value) (c' : Nat), (∀ b o, s.heap.get? b = some o → h'.get? b = some o) → h'.get? L = some { cls := .type "list", dict := none, data := .seq acc' c', slots := #[] } → ItemsOf P acc' (es.toList.map (·.2)).length → X (.ok (.ret (.ref L))) { s with heap := h', toks := tk, drawn := d }) →
      ∀ (h : Heap) (c₁ : Nat), St 0 h → (∀ b o, b ≠ L → h₂.get? b = some o → h.get? b = some o) → h.get? L = some { cls := .type "list", data := .seq #[] c₁ } → codeAny (model prog w) A (.builtin "list.extend.loop" ⟨[.ref L, .ref I, .ref L], []⟩) X { s with heap := h, drawn := d } := by
    intro X hX h c₁ a1 a2 a3
    refine codeAny_mono (key h c₁ a1 a2 a3) ?_
    rintro q s' ⟨h', tk, acc', c', rfl, rfl, b1, b2, b3⟩
    exact hX h' tk acc' c' b1 b2 b3
  have out : ∀ (h' : Heap) (tk : Nat) (acc' : Array Value) (c' : Nat), (∀ b o, s.heap.get? b = some o → h'.get? b = some o) → h'.get? L = some { cls := .type "list", dict := none, data := .seq acc' c', slots := #[] } → ItemsOf P acc' (es.toList.map (·.2)).length → R acc'.toList { s with heap := h', toks := tk, drawn := d } := by
    intro h' tk acc' c' hk hS' hacc
    have hperm := W.all acc'.toList (by rw [Array.length_toList]; exact hacc.1) fun j v hv => hacc.2 j v (by rw [← Array.getElem?_toList]; exact hv)
    obtain ⟨ss, q1, q2, q3⟩ := hstrs _ hperm
    exact h h' tk d acc'.toList ss hk q1 q2 q3
  refine wpAny_ite_split (fun _ => ?_) (fun _ => wpAny_pure ⟨plainId_quiet PySem.F.plain_extend_loop _, fin (fun h' tk acc' c' hk hS' hacc => ?_) _ _ W.start (fun b o _ e => e) hS₂⟩)
  · refine wpAny_bind (wpAny_rule ?_)
    refine wpAny_bind ?_
    show wpAny _ _ (updateSeq L (·.push .none) >>= fun _ => updateSeq L (·.pop)) _ _ _
    refine wpAny_bind (wpAny_updateSeq hS₂ rfl ?_)
    have hS₃ := Heap.get?_update_self (Obj.mapSeq (·.push Value.none)) hS₂ rfl
    refine wpAny_updateSeq (hz := by seq_fits) hS₃ rfl ?_
    have hS₄ := Heap.get?_update_self (Obj.mapSeq (·.pop)) hS₃ rfl
    refine wpAny_pure ⟨plainId_quiet PySem.F.plain_extend_loop _, fin (fun h' tk acc' c' hk hS' hacc => ?_) _ _ ?_ (fun b o hb e => ?_) hS₄⟩
    · show wpAny _ A (load L >>= _) _ _ _
      exact wpAny_bind (wpAny_load hS' (wpAny_pure (out h' tk acc' c' hk hS' hacc)))
    · refine W.walk.frame 0 _ _ W.start fun b hb o e => ?_
      have hbS : b ≠ L := fun h => hLI (h ▸ hb)
      exact (Heap.get?_update_other _ _ (Ne.symm hbS)).trans ((Heap.get?_update_other _ _ (Ne.symm hbS)).trans e)
    · exact (Heap.get?_update_other _ _ (Ne.symm hb)).trans ((Heap.get?_update_other _ _ (Ne.symm hb)).trans e)
  · show wpAny _ A (load L >>= _) _ _ _
    exact wpAny_bind (wpAny_load hS' (wpAny_pure (out h' tk acc' c' hk hS' hacc)))
end
end GS

namespace L2
open PySem PySem.Spec PyProof.Rows GT
section
variable {X : Cx}
noncomputable def SetD (P : Program) (w : World) (a : Addr) (S : Str → Bool) (n : Nat) : HO := .ext fun h => GS.SetL P w h a S n
theorem setD_ok {P : Program} {w : World} {H : Hp} {h : Heap} {a : Addr} {S : Str → Bool} {n : Nat} (x : GS.SetL P w h a S n) : ObjOk P w H h a (SetD P w a S n) := by
  refine ⟨x, ?_, fun h1 h2 q k => ?_⟩
  · obtain ⟨o, es, ep, t, e, _⟩ := x; exact ⟨o, e⟩
  · obtain ⟨o, es, ep, t, e, r⟩ := q; exact ⟨o, es, ep, t, k o e, r⟩
theorem call_setL (hc : X.calm = true) : CallR X (.type "set") (fun xs H Q => ∃ l : List Nat, xs = [.str (tx l)] ∧ (sgn l).length ≤ 100 ∧ ∀ p, H p = none → Q (.ref p) (upd H p (SetD X.prog X.w p (fun k => decide (k ∈ sgn l)) (sgn l).length))) := by
  intro pins s σ H xs us Q I r h
  obtain ⟨l, rfl, hl, q⟩ := h
  obtain ⟨u, rfl, ru⟩ := vals1 r
  obtain ⟨t, rfl⟩ := ru
  have hz : (tx l).cps.size = l.length := by show l.toArray.size = _; simp
  refine GS.call_set_strL (I.ok.hd hc) (fun i => ?_) fun h' tk hS hk => ?_
  · have := fm_le l i
    unfold scanBound
    omega
  · rw [hz] at hS
    exact ⟨.ref s.heap.objs.size, _, I.laid (t' := tk) (fun b o e => hk b o (Heap.lt_size e) e) (Nat.le_refl _) (setD_ok hS), rfl, q _ I.fresh⟩
theorem Inv.drew {pins : List (Addr × Obj)} {σ : St} {H : Hp} {s : Shared} (I : Inv X pins σ H s) (d : Drawn) : Inv X pins σ H { s with drawn := d } := ⟨I.ok, I.os, I.bare, I.base, I.loc, I.cell, I.free, I.freeC, I.pin, I.hok, I.len⟩
theorem call_sortedS (hc : X.calm = true) : CallR X (.builtin "sorted") (fun xs H Q => Ex3 fun (p : Addr) (S : Str → Bool) (n : Nat) => xs = [.ref p] ∧ H p = some (SetD X.prog X.w p S n) ∧ n < 64 ∧ ∀ (q : Addr) (ss : List Str), H q = none → ss.length = n → (∀ k, k ∈ ss ↔ S k = true) → Q (.ref q) (upd H q (.lst (ss.map V.str)))) := by
  intro pins s σ H xs us Q I r h
  obtain ⟨p, S, n, rfl, hp, h64, q⟩ := h
  obtain ⟨u, rfl, ru⟩ := vals1 r
  cases ru
  obtain ⟨hS, _⟩ := I.hok p _ hp
  refine Calls.call_function_entry kind_sorted plain_sorted entry_sorted (args_sorted1 _) ?_
  unfold Builtin.«sorted»
  refine wpAny_bind (m := checkCount "sorted" 1 1 _) (wpAny_pure ?_)
  have hh : X.A.in1.handled = none := by simpa using I.ok.hd hc
  refine wpAny_bind (GS.set_collect (A := X.A.in1) hh hS (by omega) fun h' tk d vs ss hk' hss hl hm => ?_)
  have hlen : vs.length < 64 := by rw [hss.length, hl]; exact h64
  refine sort_new (s := { s with heap := h', toks := tk, drawn := d }) hss hlen fun h2 D vs' ss' e k2 hD hDv hS' hperm => ?_
  have I2 : Inv X pins σ H { s with heap := h', toks := tk, drawn := d } := (I.kept (t' := tk) hk').drew d
  refine ⟨.ref D, _, I2.laid (a := D) (o := .lst (ss'.map V.str)) (t' := tk) k2 hD ⟨?_, vs', e, vals_strs hS', hDv⟩, rfl, q D ss' (I2.hok.fresh hD) (by rw [hperm.length_eq, hl]) fun k => by rw [hperm.mem_iff, hm]⟩
  rw [List.length_map, hperm.length_eq, sizeLine_eq]
  omega
end
end L2

namespace GM
noncomputable def Met (R : Ru) (c t e : Nat) : Prop := ∃ j, j ≤ t ∧ e ∈ grow R j [c]
theorem mem_rule {R : Ru} {e g j c : Nat} (h : e ∈ grow R j [c]) (hg : g ∈ R.getD (e - 97) []) : g ∈ grow R (j + 1) [c] := by
  rw [grow_succ']
  unfold once
  exact List.mem_flatMap.mpr ⟨e, h, hg⟩
theorem of_rule {R : Ru} {g j c : Nat} (h : g ∈ grow R (j + 1) [c]) : ∃ e, e ∈ grow R j [c] ∧ g ∈ R.getD (e - 97) [] := by
  rw [grow_succ'] at h
  unfold once at h
  exact List.mem_flatMap.mp h
theorem Met.mono {R : Ru} {c t s e : Nat} (h : Met R c t e) (hts : t ≤ s) : Met R c s e := by
  obtain ⟨j, hj, he⟩ := h
  exact ⟨j, Nat.le_trans hj hts, he⟩
theorem Met.step {R : Ru} {c t e g : Nat} (h : Met R c t e) (hg : g ∈ R.getD (e - 97) []) : Met R c (t + 1) g := by
  obtain ⟨j, hj, he⟩ := h
  exact ⟨j + 1, Nat.succ_le_succ hj, mem_rule he hg⟩
theorem stall {R : Ru} {c t : Nat} (h : ∀ e, Met R c (t + 1) e → Met R c t e) : ∀ s e, Met R c s e → Met R c t e := by
  intro s
  induction s with
  | zero => intro e he; exact he.mono (Nat.zero_le _)
  | succ s ih =>
    rintro e ⟨j, hj, he⟩
    by_cases hjs : j ≤ s
    · exact ih e ⟨j, hjs, he⟩
    · have : j = s + 1 := by omega
      subst this
      obtain ⟨f, hf, hef⟩ := of_rule he
      exact h e ((ih f ⟨s, Nat.le_refl _, hf⟩).step hef)
theorem countP_more {α : Type} {p q : α → Bool} : ∀ {l : List α}, (∀ x, p x = true → q x = true) → (∃ x ∈ l, q x = true ∧ p x = false) → l.countP p + 1 ≤ l.countP q
  | [], _, ⟨x, hx, _⟩ => by simp at hx
  | a :: l, h, ⟨x, hx, h1, h2⟩ => by
    have hle : l.countP p ≤ l.countP q := List.countP_mono_left fun x _ hp => h x hp
    rcases List.mem_cons.mp hx with rfl | hx
    · rw [List.countP_cons_of_pos h1, List.countP_cons_of_neg (by rw [h2]; exact Bool.false_ne_true)]
      omega
    · have ih := countP_more (l := l) h ⟨x, hx, h1, h2⟩
      by_cases hq : q a = true
      · rw [List.countP_cons_of_pos hq]
        by_cases hp : p a = true
        · rw [List.countP_cons_of_pos hp]; omega
        · rw [List.countP_cons_of_neg hp]; omega
      · have hp : ¬ p a = true := fun z => hq (h a z)
        rw [List.countP_cons_of_neg hq, List.countP_cons_of_neg hp]; exact ih
open Classical in
theorem all_or_stall {R : Ru} (hR : OkRu R) {c : Nat} (hc : 97 ≤ c ∧ c < 97 + R.length) : ∀ t, t + 1 ≤ (lets R.length).countP (fun e => decide (Met R c t e)) ∨ ∃ s, s < t ∧ ∀ e, Met R c (s + 1) e → Met R c s e := by
  intro t
  induction t with
  | zero =>
    left
    have : 0 < (lets R.length).countP (fun e => decide (Met R c 0 e)) := List.countP_pos_iff.mpr ⟨c, mem_lets.mpr hc, by simp only [decide_eq_true_eq]; exact ⟨0, Nat.le_refl _, List.mem_singleton.mpr rfl⟩⟩
    omega
  | succ t ih =>
    rcases ih with ih | ⟨s, hs, h⟩
    · by_cases hst : ∀ e, Met R c (t + 1) e → Met R c t e
      · exact .inr ⟨t, Nat.lt_succ_self _, hst⟩
      · left
        obtain ⟨e, he⟩ := Classical.not_forall.mp hst
        obtain ⟨h1, h2⟩ := Classical.not_imp.mp he
        have hel : e ∈ lets R.length := by
          obtain ⟨j, _, hj⟩ := h1
          exact mem_lets.mpr (OkTx.grow hR (fun d hd => by rw [List.mem_singleton.mp hd]; exact hc) e hj)
        have := countP_more (l := lets R.length) (p := fun e => decide (Met R c t e)) (q := fun e => decide (Met R c (t + 1) e)) (fun x hx => by simp only [decide_eq_true_eq] at hx ⊢; exact hx.mono (Nat.le_succ _)) ⟨e, hel, by simp only [decide_eq_true_eq]; exact h1, by simp only [decide_eq_false_iff_not]; exact h2⟩
        omega
    · exact .inr ⟨s, Nat.lt_succ_of_lt hs, h⟩
theorem shut {R : Ru} (hR : OkRu R) {c d : Nat} (hc : 97 ≤ c ∧ c < 97 + R.length) (hd : 97 ≤ d ∧ d < 97 + R.length) (hn : ¬ Met R c (R.length - 1) d) {e g : Nat} (he : Met R c (R.length - 1) e) (hg : g ∈ R.getD (e - 97) []) : Met R c (R.length - 1) g := by
  classical
  have h1 := hR.pos
  rcases all_or_stall hR hc (R.length - 1) with h | ⟨s, hs, h⟩
  · exfalso
    have hle : (lets R.length).countP (fun e => decide (Met R c (R.length - 1) e)) ≤ (lets R.length).length := List.countP_le_length
    have heq : (lets R.length).countP (fun e => decide (Met R c (R.length - 1) e)) = (lets R.length).length := by rw [lets_length] at hle ⊢; omega
    have := List.countP_eq_length.mp heq d (mem_lets.mpr hd)
    simp only [decide_eq_true_eq] at this
    exact hn this
  · exact (stall h _ g (he.step hg)).mono (by omega)
end GM

namespace GP
open PySem L2 GT GM
noncomputable abbrev Let (n c : Nat) : Prop := 97 ≤ c ∧ c < 97 + n
theorem Let.ok {n c : Nat} (h : Let n c) : OkTx n [c] := fun d hd => by rw [List.mem_singleton.mp hd]; exact h
inductive SpInit1 (C : Addr) (f : Str) (vs : List V) (H : Hp) (Q : VK) : Prop
  | mk (p dx v) (h0 : vs = [.ref p, v]) (h1 : H p = some (.ins C dx [])) (h2 : Q .non (upd H p (.ins C dx (putF f v [])))) : SpInit1 C f vs H Q
noncomputable def spInit1 (C : Addr) (f : Str) : Sp := fun vs H Q _ => SpInit1 C f vs H Q
inductive SpTimes (C : Addr) (vs : List V) (H : Hp) (Q : VK) : Prop
  | mk (p dx m a R c d) (h0 : vs = [.ref p, .ref a, sv [c], sv [d]]) (h1 : H p = some (.ins C dx (putF "many" (.int m) []))) (h2 : RuAt H a R) (h3 : OkRu R) (h4 : (∀ r ∈ R, r.length ≤ 100000)) (h5 : Let R.length c) (h6 : Let R.length d) (h7 : anyH H Q (.bl (decide (0 ≤ m ∧ m ≤ (R.length : Int) ∧ d ∈ grow R m.toNat [c])))) : SpTimes C vs H Q
noncomputable def spTimes (C : Addr) : Sp := fun vs H Q _ => SpTimes C vs H Q
inductive SpIsTextIn (vs : List V) (H : Hp) (Q : VK) : Prop
  | mk (L x : Tx) (h0 : vs = [sv L, sv x]) (h1 : OkTx 26 L) (h2 : OkTx 26 x) (h3 : (∀ c ∈ x, c ∈ L)) (h4 : anyH H Q (.bl true)) : SpIsTextIn vs H Q
inductive SpCheckLetter (vs : List V) (H : Hp) (Q : VK) : Prop
  | mk (a R c) (h0 : vs = [.ref a, sv [c]]) (h1 : RuAt H a R) (h2 : OkRu R) (h3 : Let R.length c) (h4 : anyH H Q .non) : SpCheckLetter vs H Q
structure ShutIs (R : Ru) (L : Tx) (c d : Nat) : Prop where
  ok : OkTx R.length L
  le : L.length ≤ 26
  one : c ∈ L
  not : d ∉ L
  shut : ∀ e ∈ L, ∀ g ∈ R.getD (e - 97) [], g ∈ L
inductive SpShut (C : Addr) (vs : List V) (H : Hp) (Q : VK) : Prop
  | mk (p dx L a R c d) (h0 : vs = [.ref p, .ref a, sv [c], sv [d]]) (h1 : H p = some (.ins C dx (putF "letters" (sv L) []))) (h2 : RuAt H a R) (h3 : OkRu R) (h4 : (∀ r ∈ R, r.length ≤ 100000)) (h5 : ((c ∉ L ∧ anyH H Q (.bl false)) ∨ (ShutIs R L c d ∧ anyH H Q (.bl true)))) : SpShut C vs H Q
inductive SpComes (CT CS : Addr) (vs : List V) (H : Hp) (Q : VK) : Prop
  | mk (a R c d) (h0 : vs = [.ref a, sv [c], sv [d]]) (h1 : RuAt H a R) (h2 : OkRu R) (h3 : (∀ r ∈ R, r.length ≤ 100000)) (h4 : Let R.length c) (h5 : Let R.length d) (h6 : (∀ t p dx H', t < R.length → d ∈ grow R t [c] → Same H H' → H p = none → H' p = some (.ins CT dx (putF "many" (.int (t : Nat)) [])) → Q (.ref p) H')) (h7 : (∀ L p dx H', ShutIs R L c d → Same H H' → H p = none → H' p = some (.ins CS dx (putF "letters" (sv L) [])) → Q (.ref p) H')) : SpComes CT CS vs H Q
theorem putF_get (f : Str) (v : V) : (putF f v []).lookup f = some v := by rw [lookup_putF, if_pos rfl]
theorem nd_len : ∀ {l m : List Str}, l.Nodup → (∀ k ∈ l, k ∈ m) → l.length ≤ m.length
  | [], m, _, _ => Nat.zero_le _
  | a :: l, m, nd, h => by
    have ha := h a List.mem_cons_self
    have nd' := List.nodup_cons.mp nd
    have ih := nd_len (l := l) (m := m.erase a) nd'.2 fun k hk => (List.mem_erase_of_ne (fun z => nd'.1 (by rw [← z]; exact hk))).mpr (h k (List.mem_cons_of_mem _ hk))
    rw [List.length_erase_of_mem ha] at ih
    have : 0 < m.length := List.length_pos_of_mem ha
    rw [List.length_cons]; omega
theorem sgn_in {L x : Tx} (h : ∀ c ∈ x, c ∈ L) : (sgn x).length ≤ (sgn L).length :=
  nd_len (sgn_nodup x) fun k hk => by
    obtain ⟨c, hc, rfl⟩ := (mem_sgn x k).mp hk
    exact (mem_sgn L _).mpr ⟨c, h c hc, rfl⟩
theorem cnt_ix {n : Nat} {x : Tx} {d : Nat} (hd : Let n d) : (ivs (cnt n x))[d - 97]? = some (V.int (x.count d : Nat)) := by
  unfold ivs cnt
  rw [List.map_map, List.getElem?_map, lets_get (by omega)]
  have : 97 + (d - 97) = d := by omega
  rw [this]
  rfl
end GP
namespace L2
open PySem PySem.Spec PyProof.Rows GT
noncomputable def but (H : Hp) (c : Addr) : Hp := fun b => if b = c then none else H b
end L2
namespace GP
open PySem L2 GT GM
end GP

namespace GP
open PySem L2 GT GM
theorem takeWhile_len {p : Nat → Bool} : ∀ {l : Tx}, (∀ c ∈ l, p c = true) → (l.takeWhile p).length = l.length
  | [], _ => rfl
  | a :: l, h => by
    rw [List.takeWhile_cons, if_pos (h a List.mem_cons_self), List.length_cons, List.length_cons, takeWhile_len fun c hc => h c (List.mem_cons_of_mem _ hc)]
theorem takeWhile_lt {p : Nat → Bool} : ∀ {l : Tx}, (∃ c ∈ l, p c = false) → (l.takeWhile p).length < l.length ∧ ∃ d, l[(l.takeWhile p).length]? = some d ∧ p d = false
  | [], ⟨c, hc, _⟩ => by simp at hc
  | a :: l, ⟨c, hc, hp⟩ => by
    by_cases ha : p a = true
    · have hcl : c ∈ l := by
        rcases List.mem_cons.mp hc with rfl | z
        · rw [ha] at hp; cases hp
        · exact z
      obtain ⟨h1, d, h2, h3⟩ := takeWhile_lt (l := l) ⟨c, hcl, hp⟩
      rw [List.takeWhile_cons, if_pos ha, List.length_cons, List.length_cons]
      exact ⟨by omega, d, by rw [List.getElem?_cons_succ]; exact h2, h3⟩
    · rw [List.takeWhile_cons, if_neg ha]
      exact ⟨by simp, a, rfl, by simpa using ha⟩
theorem strip_all {x y : Tx} (h : ∀ c ∈ x, c ∈ y) : Txt.stripChars (tx x) (tx y) = tx [] := by
  have hg : ∀ c ∈ x, (tx y).cps.contains c = true := fun c hc => by
    show y.toArray.contains c = true
    simpa using h c hc
  rw [Txt.stripChars, PySem.W.stripBy_eq]
  unfold PySem.W.stripped
  have e1 : ((tx x).cps.toList.takeWhile (tx y).cps.contains).length = x.length := takeWhile_len (l := x) hg
  simp only [if_true, e1]
  have e2 : (tx x).cps.toList.drop x.length = [] := by show x.drop x.length = []; exact List.drop_length
  rw [e2]
  simp [Builtin.Str.strSub, tx, Str.length]
theorem strip_some {x y : Tx} (h : ∃ c ∈ x, c ∉ y) : Txt.stripChars (tx x) (tx y) ≠ tx [] := by
  obtain ⟨c, hc, hn⟩ := h
  have hf : (tx y).cps.contains c = false := by
    show y.toArray.contains c = false
    simpa using hn
  obtain ⟨h1, d, h2, h3⟩ := takeWhile_lt (p := (tx y).cps.contains) (l := x) ⟨c, hc, hf⟩
  rw [Txt.stripChars, PySem.W.stripBy_eq]
  unfold PySem.W.stripped
  simp only [if_true]
  have e0 : (tx x).cps.toList = x := rfl
  rw [e0]
  have hd : d ∈ (x.drop (x.takeWhile (tx y).cps.contains).length).reverse := by
    rw [List.mem_reverse]
    refine List.mem_of_getElem? (i := 0) ?_
    rw [List.getElem?_drop]; exact h2
  have h4 := (takeWhile_lt (p := (tx y).cps.contains) ⟨d, hd, h3⟩).1
  rw [List.length_reverse, List.length_drop] at h4
  generalize (x.takeWhile (tx y).cps.contains).length = a at *
  generalize ((x.drop a).reverse.takeWhile (tx y).cps.contains).length = b at *
  intro z
  have hz : ((tx x).cps.extract a ((tx x).length - b)).size = 0 := congrArg (fun s : Str => s.cps.size) z
  rw [Array.size_extract, tx_len] at hz
  have hs : (tx x).cps.size = x.length := by show x.toArray.size = _; simp
  rw [hs] at hz
  omega
end GP

namespace GP
open PySem L2 GT GM
inductive SpLawKinds (vs : List V) (H : Hp) (Q : VK) : Prop
  | mk (a R c t) (h0 : vs = [.ref a, sv [c], .int (t : Nat)]) (h1 : RuAt H a R) (h2 : OkRu R) (h3 : (∀ r ∈ R, r.length ≤ 100)) (h4 : Let R.length c) (h5 : t ≤ 1000) (h6 : ∀ y : Tx, (∀ d, d ∈ y ↔ d ∈ grow R t [c]) → anyH H Q (sv y)) : SpLawKinds vs H Q
noncomputable def spLawKinds : Sp := fun vs H Q _ => SpLawKinds vs H Q
inductive SpLawRight (CT CS : Addr) (vs : List V) (H : Hp) (Q : VK) : Prop
  | mk (a R c d p dx) (h0 : vs = [.ref a, sv [c], sv [d], .ref p]) (h1 : RuAt H a R) (h2 : OkRu R) (h3 : (∀ r ∈ R, r.length ≤ 100)) (h4 : Let R.length c) (h5 : Let R.length d) (h6 : ((∃ t : Nat, t < R.length ∧ d ∈ grow R t [c] ∧ H p = some (.ins CT dx (putF "many" (.int (t : Nat)) []))) ∨ (∃ L, ShutIs R L c d ∧ H p = some (.ins CS dx (putF "letters" (sv L) []))))) (h7 : anyH H Q (.bl true)) : SpLawRight CT CS vs H Q
theorem singles {ss : List Str} (h : ∀ k ∈ ss, ∃ e, k = tx [e]) : ∃ us : Tx, ss = us.map fun e => tx [e] := by
  induction ss with
  | nil => exact ⟨[], rfl⟩
  | cons k ss ih =>
    obtain ⟨e, rfl⟩ := h k List.mem_cons_self
    obtain ⟨us, rfl⟩ := ih fun k hk => h k (List.mem_cons_of_mem _ hk)
    exact ⟨e :: us, rfl⟩
theorem once_mem {R : Ru} {x y : Tx} (h : ∀ d, d ∈ x ↔ d ∈ y) : ∀ d, d ∈ once R x ↔ d ∈ once R y := fun d => by
  unfold once
  rw [List.mem_flatMap, List.mem_flatMap]
  constructor
  · rintro ⟨c, hc, hd⟩; exact ⟨c, (h c).mp hc, hd⟩
  · rintro ⟨c, hc, hd⟩; exact ⟨c, (h c).mpr hc, hd⟩
theorem sorted_out {n : Nat} {x : Tx} (hx : OkTx n x) {ss : List Str} (hl : ss.length = (sgn x).length) (hm : ∀ k, k ∈ ss ↔ decide (k ∈ sgn x) = true) : ∃ us : Tx, ss = us.map (fun e => tx [e]) ∧ us.length ≤ n ∧ ∀ d, d ∈ us ↔ d ∈ x := by
  have hm' : ∀ k, k ∈ ss ↔ ∃ c ∈ x, k = tx [c] := fun k => by rw [hm, decide_eq_true_eq, mem_sgn]
  obtain ⟨us, rfl⟩ := singles (ss := ss) fun k hk => by
    obtain ⟨c, _, e⟩ := (hm' k).mp hk
    exact ⟨c, e⟩
  refine ⟨us, rfl, ?_, fun d => ?_⟩
  · have := sgn_small hx
    rw [List.length_map] at hl
    omega
  · constructor
    · intro hd
      obtain ⟨c, hc, e⟩ := (hm' (tx [d])).mp (List.mem_map.mpr ⟨d, hd, rfl⟩)
      rw [(List.cons.inj (tx_inj e)).1]; exact hc
    · intro hd
      obtain ⟨c, hc, e⟩ := List.mem_map.mp ((hm' (tx [d])).mpr ⟨d, hd, rfl⟩)
      rw [← (List.cons.inj (tx_inj e)).1]; exact hc
theorem once_shut {R : Ru} {L : Tx} (h : ∀ e ∈ L, ∀ g ∈ R.getD (e - 97) [], g ∈ L) : ∀ c ∈ once R L, c ∈ L := fun c hc => by
  unfold once at hc
  obtain ⟨e, he, hg⟩ := List.mem_flatMap.mp hc
  exact h e he c hg
noncomputable def PairAt (n : Nat) (H : Hp) (v : V) : Prop := ∃ q c d, v = .ref q ∧ H q = some (.tup [sv [c], sv [d]]) ∧ Let n c ∧ Let n d
theorem PairAt.same {n : Nat} {H H' : Hp} {v : V} (h : PairAt n H v) (s : Same H H') : PairAt n H' v := by
  obtain ⟨q, c, d, e, h1, r⟩ := h
  exact ⟨q, c, d, e, s _ _ h1, r⟩
noncomputable def FoundAt (CT CS : Addr) (R : Ru) (c d : Nat) (H : Hp) (p dx : Addr) : Prop := (∃ t : Nat, t < R.length ∧ d ∈ grow R t [c] ∧ H p = some (.ins CT dx (putF "many" (.int (t : Nat)) []))) ∨ (∃ L, ShutIs R L c d ∧ H p = some (.ins CS dx (putF "letters" (sv L) [])))
theorem FoundAt.same {CT CS : Addr} {R : Ru} {c d : Nat} {H H' : Hp} {p dx : Addr} (h : FoundAt CT CS R c d H p dx) (s : Same H H') : FoundAt CT CS R c d H' p dx := by
  rcases h with ⟨t, h1, h2, h3⟩ | ⟨L, h1, h2⟩
  · exact .inl ⟨t, h1, h2, s _ _ h3⟩
  · exact .inr ⟨L, h1, s _ _ h2⟩
theorem let_by {n : Nat} (h : 1 ≤ n) (z d : Int) : ∃ k : Nat, z / d % (n : Int) = (k : Int) ∧ k < n := by
  have r : 0 ≤ z / d % (n : Int) ∧ z / d % (n : Int) < (n : Int) := ⟨Int.emod_nonneg _ (by omega), Int.emod_lt_of_pos _ (by omega)⟩
  exact ⟨(z / d % (n : Int)).toNat, by omega, by omega⟩
end GP

namespace GM
noncomputable def sumN : Nat → (Nat → Int) → Int
  | 0, _ => 0
  | m + 1, f => sumN m f + f m
theorem sumN_congr : ∀ {m : Nat} {f g : Nat → Int}, (∀ i, i < m → f i = g i) → sumN m f = sumN m g
  | 0, _, _, _ => rfl
  | m + 1, f, g, h => by
    show sumN m f + f m = sumN m g + g m
    rw [sumN_congr fun i hi => h i (Nat.lt_succ_of_lt hi), h m (Nat.lt_succ_self _)]
theorem sumN_zero : ∀ (m : Nat), sumN m (fun _ => 0) = 0
  | 0 => rfl
  | m + 1 => by show sumN m (fun _ => 0) + 0 = 0; rw [sumN_zero m]; rfl
theorem sumN_zero' {m : Nat} {f : Nat → Int} (h : ∀ i, i < m → f i = 0) : sumN m f = 0 := (sumN_congr h).trans (sumN_zero m)
theorem sumN_add : ∀ (m : Nat) (f g : Nat → Int), sumN m (fun i => f i + g i) = sumN m f + sumN m g
  | 0, _, _ => rfl
  | m + 1, f, g => by
    show sumN m (fun i => f i + g i) + (f m + g m) = (sumN m f + f m) + (sumN m g + g m)
    rw [sumN_add m f g]; omega
theorem sumN_mul (c : Int) : ∀ (m : Nat) (f : Nat → Int), sumN m (fun i => c * f i) = c * sumN m f
  | 0, _ => by show (0 : Int) = c * 0; rw [Int.mul_zero]
  | m + 1, f => by
    show sumN m (fun i => c * f i) + c * f m = c * (sumN m f + f m)
    rw [sumN_mul c m f, Int.mul_add]
theorem sumN_mulr (c : Int) (m : Nat) (f : Nat → Int) : sumN m (fun i => f i * c) = sumN m f * c := by
  rw [Int.mul_comm, ← sumN_mul]
  exact sumN_congr fun i _ => Int.mul_comm _ _
theorem sumN_swap : ∀ (n m : Nat) (f : Nat → Nat → Int), sumN n (fun i => sumN m (fun k => f i k)) = sumN m (fun k => sumN n (fun i => f i k))
  | 0, m, f => (sumN_zero m).symm
  | n + 1, m, f => by
    show sumN n (fun i => sumN m (fun k => f i k)) + sumN m (fun k => f n k) = sumN m (fun k => sumN n (fun i => f i k) + f n k)
    rw [sumN_swap n m f, sumN_add]
noncomputable def skip (p j : Nat) : Nat := if j < p then j else j + 1
theorem skip_sum : ∀ (m p : Nat) (f : Nat → Int), p ≤ m → sumN (m + 1) f = f p + sumN m (fun j => f (skip p j))
  | 0, p, f, h => by
    have : p = 0 := by omega
    subst this
    show 0 + f 0 = f 0 + 0
    omega
  | m + 1, p, f, h => by
    show sumN (m + 1) f + f (m + 1) = f p + (sumN m (fun j => f (skip p j)) + f (skip p m))
    by_cases hp : p = m + 1
    · subst hp
      have e : sumN (m + 1) f = sumN (m + 1) (fun j => f (skip (m + 1) j)) := sumN_congr fun i hi => by unfold skip; rw [if_pos hi]
      rw [e]
      show sumN m (fun j => f (skip (m + 1) j)) + f (skip (m + 1) m) + f (m + 1) = _
      omega
    · have hpm : p ≤ m := by omega
      rw [skip_sum m p f hpm]
      have e : skip p m = m + 1 := by unfold skip; rw [if_neg (by omega)]
      rw [e]; omega
theorem dep : ∀ (n : Nat) (v : Nat → Nat → Int), ∃ c : Nat → Int, (∃ i, i ≤ n ∧ c i ≠ 0) ∧ ∀ k, k < n → sumN (n + 1) (fun i => c i * v i k) = 0
  | 0, v => ⟨fun _ => 1, ⟨0, Nat.le_refl _, by decide⟩, fun k hk => absurd hk (Nat.not_lt_zero _)⟩
  | n + 1, v => by
    by_cases hp : ∃ p, p ≤ n + 1 ∧ v p n ≠ 0
    · obtain ⟨p, hpn, hv⟩ := hp
      obtain ⟨d, ⟨j, hj, hdj⟩, hd⟩ := dep n (fun j k => v p n * v (skip p j) k - v (skip p j) n * v p k)
      have key : ∀ k, k < n + 1 → sumN (n + 1) (fun j => d j * (v p n * v (skip p j) k - v (skip p j) n * v p k)) = 0 := fun k hk => by
        by_cases hkn : k = n
        · subst hkn
          refine sumN_zero' fun i _ => ?_
          rw [Int.mul_comm (v (skip p i) k) (v p k), Int.sub_self, Int.mul_zero]
        · exact hd k (by omega)
      refine ⟨fun i => if i = p then - sumN (n + 1) (fun j => d j * v (skip p j) n) else if i < p then d i * v p n else d (i - 1) * v p n, ⟨skip p j, by unfold skip; split <;> omega, ?_⟩, fun k hk => ?_⟩
      · have hne : skip p j ≠ p := by unfold skip; split <;> omega
        show (if skip p j = p then _ else if skip p j < p then d (skip p j) * v p n else d (skip p j - 1) * v p n) ≠ 0
        rw [if_neg hne]
        unfold skip
        by_cases hjp : j < p
        · rw [if_pos hjp, if_pos hjp]; exact Int.mul_ne_zero hdj hv
        · rw [if_neg hjp, if_neg (by omega)]; exact Int.mul_ne_zero hdj hv
      · rw [skip_sum (n + 1) p _ hpn]
        show (if p = p then - sumN (n + 1) (fun j => d j * v (skip p j) n) else _) * v p k + _ = 0
        rw [if_pos rfl]
        have e : sumN (n + 1) (fun j => (if skip p j = p then - sumN (n + 1) (fun j => d j * v (skip p j) n) else if skip p j < p then d (skip p j) * v p n else d (skip p j - 1) * v p n) * v (skip p j) k) = sumN (n + 1) (fun j => d j * (v p n * v (skip p j) k)) := sumN_congr fun i hi => by
          have hne : skip p i ≠ p := by unfold skip; split <;> omega
          rw [if_neg hne]
          have e2 : (if skip p i < p then d (skip p i) * v p n else d (skip p i - 1) * v p n) = d i * v p n := by
            by_cases hip : i < p
            · have e3 : skip p i = i := by unfold skip; rw [if_pos hip]
              rw [e3, if_pos hip]
            · have e3 : skip p i = i + 1 := by unfold skip; rw [if_neg hip]
              rw [e3, if_neg (by omega), Nat.add_sub_cancel]
          rw [e2, Int.mul_assoc]
        rw [e, Int.neg_mul, ← sumN_mulr]
        have e4 := key k hk
        have e5 : sumN (n + 1) (fun j => d j * (v p n * v (skip p j) k - v (skip p j) n * v p k)) = sumN (n + 1) (fun j => d j * (v p n * v (skip p j) k)) - sumN (n + 1) (fun j => d j * v (skip p j) n * v p k) := by
          have := sumN_add (n + 1) (fun j => d j * (v p n * v (skip p j) k - v (skip p j) n * v p k)) (fun j => d j * v (skip p j) n * v p k)
          have e6 : sumN (n + 1) (fun j => d j * (v p n * v (skip p j) k - v (skip p j) n * v p k) + d j * v (skip p j) n * v p k) = sumN (n + 1) (fun j => d j * (v p n * v (skip p j) k)) := sumN_congr fun i _ => by
            rw [Int.mul_sub, ← Int.mul_assoc (d i) (v (skip p i) n) (v p k)]; omega
          rw [e6] at this
          omega
        rw [e5] at e4
        omega
    · obtain ⟨c, ⟨i, hi, hci⟩, hc⟩ := dep n v
      refine ⟨fun i => if i ≤ n then c i else 0, ⟨i, by omega, by show (if i ≤ n then c i else 0) ≠ 0; rw [if_pos hi]; exact hci⟩, fun k hk => ?_⟩
      show sumN (n + 1) (fun i => (if i ≤ n then c i else 0) * v i k) + (if n + 1 ≤ n then c (n + 1) else 0) * v (n + 1) k = 0
      rw [if_neg (by omega), Int.zero_mul, Int.add_zero]
      by_cases hkn : k = n
      · subst hkn
        refine sumN_zero' fun i hi => ?_
        have : v i k = 0 := Classical.byContradiction fun z => hp ⟨i, by omega, z⟩
        rw [this, Int.mul_zero]
      · rw [← hc k (by omega)]
        exact sumN_congr fun i hi => by rw [if_pos (by omega)]
theorem recur {n : Nat} {A w : Nat → Nat → Int} {g : Nat → Int} (hw : ∀ t k, k < n → w (t + 1) k = sumN n (fun m => A k m * w t m)) (h0 : ∀ t, t < n → sumN n (fun k => g k * w t k) = 0) : ∀ t, sumN n (fun k => g k * w t k) = 0 := by
  obtain ⟨c, ⟨i0, hi0, hc0⟩, hc⟩ := dep n w
  -- at every later time
  have later : ∀ s k, k < n → sumN (n + 1) (fun i => c i * w (i + s) k) = 0 := by
    intro s
    induction s with
    | zero => intro k hk; exact hc k hk
    | succ s ih =>
      intro k hk
      have e : sumN (n + 1) (fun i => c i * w (i + (s + 1)) k) = sumN (n + 1) (fun i => sumN n (fun m => A k m * (c i * w (i + s) m))) := sumN_congr fun i _ => by
        show c i * w (i + s + 1) k = _
        rw [hw (i + s) k hk, ← sumN_mul]
        exact sumN_congr fun m _ => by rw [← Int.mul_assoc, ← Int.mul_assoc, Int.mul_comm (c i)]
      rw [e, sumN_swap]
      refine sumN_zero' fun m hm => ?_
      rw [sumN_mul, ih m hm, Int.mul_zero]
  have later2 : ∀ s, sumN (n + 1) (fun i => c i * sumN n (fun k => g k * w (i + s) k)) = 0 := by
    intro s
    have e : sumN (n + 1) (fun i => c i * sumN n (fun k => g k * w (i + s) k)) = sumN (n + 1) (fun i => sumN n (fun k => g k * (c i * w (i + s) k))) := sumN_congr fun i _ => by
      rw [← sumN_mul]
      exact sumN_congr fun k _ => by rw [← Int.mul_assoc, ← Int.mul_assoc, Int.mul_comm (c i)]
    rw [e, sumN_swap]
    refine sumN_zero' fun k hk => ?_
    rw [sumN_mul, later s k hk, Int.mul_zero]
  -- the last one that counts
  have top : ∃ T, T ≤ n ∧ c T ≠ 0 ∧ ∀ i, T < i → i ≤ n → c i = 0 := by
    have : ∀ m, (∃ i, i ≤ n ∧ c i ≠ 0 ∧ n - i ≤ m) → ∃ T, T ≤ n ∧ c T ≠ 0 ∧ ∀ i, T < i → i ≤ n → c i = 0 := by
      intro m
      induction m with
      | zero =>
        rintro ⟨i, h1, h2, h3⟩
        exact ⟨i, h1, h2, fun j h4 h5 => by omega⟩
      | succ m ih =>
        rintro ⟨i, h1, h2, h3⟩
        by_cases hx : ∃ j, i < j ∧ j ≤ n ∧ c j ≠ 0
        · obtain ⟨j, h4, h5, h6⟩ := hx
          exact ih ⟨j, h5, h6, by omega⟩
        · exact ⟨i, h1, h2, fun j h4 h5 => Classical.byContradiction fun z => hx ⟨j, h4, h5, z⟩⟩
    exact this n ⟨i0, hi0, hc0, by omega⟩
  obtain ⟨T, hT, hcT, htop⟩ := top
  intro t
  induction t using Nat.strongRecOn with
  | _ t ih =>
    by_cases htn : t < n
    · exact h0 t htn
    · have h := later2 (t - T)
      rw [skip_sum n T _ hT] at h
      have z : sumN n (fun j => c (skip T j) * sumN n (fun k => g k * w (skip T j + (t - T)) k)) = 0 := sumN_zero' fun j hj => by
        by_cases hjT : j < T
        · have e : skip T j = j := by unfold skip; rw [if_pos hjT]
          rw [e, ih (j + (t - T)) (by omega), Int.mul_zero]
        · have e : skip T j = j + 1 := by unfold skip; rw [if_neg hjT]
          rw [e, htop (j + 1) (by omega) (by omega), Int.zero_mul]
      rw [z, Int.add_zero, show T + (t - T) = t by omega] at h
      exact (Int.mul_eq_zero.mp h).resolve_left hcT
end GM

namespace GM
noncomputable def gap (u v : List Int) : List Int := List.zipWith (· - ·) u v
theorem gap_length {u v : List Int} (h : u.length = v.length) : (gap u v).length = u.length := by unfold gap; rw [List.length_zipWith]; omega
theorem gap_sum : ∀ {u v : List Int}, u.length = v.length → (gap u v).sum = u.sum - v.sum
  | [], [], _ => rfl
  | a :: u, b :: v, h => by
    show (a - b + (gap u v).sum) = (a + u.sum) - (b + v.sum)
    rw [gap_sum (Nat.succ.inj h)]; omega
theorem gap_weigh (f : List Int → Int) : ∀ {u v : List Int} {T : List (List Int)}, u.length = v.length → ((List.zip (gap u v) T).map fun p => p.1 * f p.2).sum = ((List.zip u T).map fun p => p.1 * f p.2).sum - ((List.zip v T).map fun p => p.1 * f p.2).sum
  | [], [], T, _ => by simp [gap]
  | a :: u, b :: v, [], _ => by simp
  | a :: u, b :: v, l :: T, h => by
    show ((a - b) * f l + ((List.zip (gap u v) T).map fun p => p.1 * f p.2).sum) = (a * f l + ((List.zip u T).map fun p => p.1 * f p.2).sum) - (b * f l + ((List.zip v T).map fun p => p.1 * f p.2).sum)
    rw [gap_weigh f (Nat.succ.inj h), Int.sub_mul]; omega
theorem hnext_gap {T : List (List Int)} {u v : List Int} (hT : ∀ l ∈ T, l.length = T.length) (h : u.length = v.length) : hnext T (gap u v) = gap (hnext T u) (hnext T v) := by
  apply List.ext_getElem?
  intro k
  by_cases hk : k < T.length
  · rw [hnext_get hT hk, gap_weigh (fun l => l.getD k 0) h]
    unfold gap
    rw [List.getElem?_zipWith, hnext_get hT hk, hnext_get hT hk]
  · rw [List.getElem?_eq_none (by rw [hnext_length hT]; omega), List.getElem?_eq_none (by rw [gap_length (by rw [hnext_length hT, hnext_length hT]), hnext_length hT]; omega)]
theorem gap_grow {R : Ru} (hR : OkRu R) {x y : Tx} (hx : OkTx R.length x) (hy : OkTx R.length y) (t : Nat) : hnext (table R) (gap (cnt R.length (grow R t x)) (cnt R.length (grow R t y))) = gap (cnt R.length (grow R (t + 1) x)) (cnt R.length (grow R (t + 1) y)) := by
  rw [hnext_gap (table_rows R) (by rw [cnt_length, cnt_length]), hnext_cnt (OkTx.grow hR hx), hnext_cnt (OkTx.grow hR hy), ← grow_succ', ← grow_succ']
theorem sumN_list : ∀ (n : Nat) (f : Nat → Int), sumN n f = ((List.range n).map f).sum
  | 0, _ => rfl
  | n + 1, f => by
    show sumN n f + f n = _
    rw [List.range_succ, List.map_append, List.sum_append, ← sumN_list n f]
    simp
theorem weigh_sumN {n : Nat} {u v : List Int} (hu : u.length = n) (hv : v.length = n) : weigh u v = sumN n (fun k => u.getD k 0 * v.getD k 0) := by
  rw [sumN_list]
  unfold weigh
  congr 1
  apply List.ext_getElem?
  intro k
  by_cases hk : k < n
  · rw [List.getElem?_zipWith, List.getElem?_map, List.getElem?_range hk, List.getElem?_eq_getElem (show k < u.length by omega), List.getElem?_eq_getElem (show k < v.length by omega)]
    simp [List.getD_eq_getElem?_getD, List.getElem?_eq_getElem (show k < u.length by omega), List.getElem?_eq_getElem (show k < v.length by omega)]
  · rw [List.getElem?_eq_none (by rw [List.length_zipWith]; omega), List.getElem?_eq_none (by rw [List.length_map, List.length_range]; omega)]
theorem weigh_gap : ∀ {u v w : List Int}, u.length = v.length → weigh (gap u v) w = weigh u w - weigh v w
  | [], [], w, _ => by cases w <;> rfl
  | a :: u, b :: v, [], _ => rfl
  | a :: u, b :: v, c :: w, h => by
    show ((a - b) * c + weigh (gap u v) w) = (a * c + weigh u w) - (b * c + weigh v w)
    rw [weigh_gap (Nat.succ.inj h), Int.sub_mul]; omega
theorem alike {R : Ru} (hR : OkRu R) {x y : Tx} (hx : OkTx R.length x) (hy : OkTx R.length y) (h : ∀ t, t < R.length → (grow R t x).length = (grow R t y).length) (t : Nat) : (grow R t x).length = (grow R t y).length := by
  have hl : (cnt R.length x).length = (cnt R.length y).length := by rw [cnt_length, cnt_length]
  have key : ∀ t, sumN R.length (fun k => (gap (cnt R.length x) (cnt R.length y)).getD k 0 * (szs R t).getD k 0) = ((grow R t x).length : Int) - ((grow R t y).length : Int) := fun t => by
    rw [← weigh_sumN (by rw [gap_length hl, cnt_length]) (szs_length R t), weigh_gap hl, weigh_szs hR t hx, weigh_szs hR t hy]
  have := recur (n := R.length) (A := fun k m => ((table R).getD k []).getD m 0) (w := fun t k => (szs R t).getD k 0) (g := fun k => (gap (cnt R.length x) (cnt R.length y)).getD k 0)
    (fun t k hk => by
      have hkT : k < (table R).length := by rw [table_length]; exact hk
      have e : (szs R (t + 1)).getD k 0 = weigh ((table R).getD k []) (szs R t) := by
        show ((table R).map fun l => weigh l (szs R t)).getD k 0 = _
        rw [List.getD_eq_getElem?_getD, List.getElem?_map, List.getElem?_eq_getElem hkT, List.getD_eq_getElem?_getD, List.getElem?_eq_getElem hkT]; rfl
      rw [e]
      refine weigh_sumN ?_ (szs_length R t)
      rw [List.getD_eq_getElem?_getD, List.getElem?_eq_getElem hkT]
      show ((table R)[k]).length = _
      rw [table_rows R _ (List.getElem_mem hkT), table_length])
    (fun t ht => by rw [key t, h t ht]; omega) t
  rw [key t] at this
  omega
end GM

namespace GP
open PySem L2 GT GM
structure Rows2 (H : Hp) (a : Addr) (R : Ru) (x y : Tx) : Prop where
  ru : RuAt H a R
  ok : OkRu R
  le : ∀ r ∈ R, r.length ≤ 100000
  one : OkTx R.length x
  two : OkTx R.length y
noncomputable abbrev LenEq (R : Ru) (x y : Tx) (t : Nat) : Prop := (grow R t x).length = (grow R t y).length
inductive SpParting (vs : List V) (H : Hp) (Q : VK) : Prop
  | mk (a R x y) (h0 : vs = [.ref a, sv x, sv y]) (h1 : Rows2 H a R x y) (h2 : (∀ t : Nat, t < R.length → ¬ LenEq R x y t → anyH H Q (.int (t : Nat)))) (h3 : ((∀ t, t < R.length → LenEq R x y t) → anyH H Q .non)) : SpParting vs H Q
noncomputable def spParting : Sp := fun vs H Q _ => SpParting vs H Q
inductive SpAlike (vs : List V) (H : Hp) (Q : VK) : Prop
  | mk (p a R x y) (h0 : vs = [.ref p, .ref a, sv x, sv y]) (h1 : Rows2 H a R x y) (h2 : (∀ t, t < R.length → ¬ LenEq R x y t → anyH H Q (.bl false))) (h3 : ((∀ t, t < R.length → LenEq R x y t) → anyH H Q (.bl true))) : SpAlike vs H Q
noncomputable def spAlike : Sp := fun vs H Q _ => SpAlike vs H Q
inductive SpApart (C : Addr) (vs : List V) (H : Hp) (Q : VK) : Prop
  | mk (p dx m a R x y) (h0 : vs = [.ref p, .ref a, sv x, sv y]) (h1 : H p = some (.ins C dx (putF "many" (.int m) []))) (h2 : Rows2 H a R x y) (h3 : anyH H Q (.bl (decide (0 ≤ m ∧ m ≤ (R.length : Int) - 1 ∧ ¬ LenEq R x y m.toNat)))) : SpApart C vs H Q
noncomputable def spApart (C : Addr) : Sp := fun vs H Q _ => SpApart C vs H Q
inductive SpLengths (CA CP : Addr) (vs : List V) (H : Hp) (Q : VK) : Prop
  | mk (a R x y) (h0 : vs = [.ref a, sv x, sv y]) (h1 : Rows2 H a R x y) (h2 : ((∀ t, t < R.length → LenEq R x y t) → ∀ p dx H', Same H H' → H p = none → H' p = some (.ins CA dx []) → Q (.ref p) H')) (h3 : (∀ t : Nat, t < R.length → ¬ LenEq R x y t → ∀ p dx H', Same H H' → H p = none → H' p = some (.ins CP dx (putF "many" (.int (t : Nat)) [])) → Q (.ref p) H')) : SpLengths CA CP vs H Q
theorem gap_map (u v : List Int) : (u.zip v).map (fun p => p.1 - p.2) = gap u v := by
  unfold gap
  rw [List.zip_eq_zipWith, List.map_zipWith]
end GP
namespace L2
open PySem PySem.Spec PyProof.Rows GT
theorem cs3 {X : Cx} {scope : Scope} {ns : List Str} {x y z : Str} {k m l : Nat} (hx : X.N[k]? = some x) (hy : X.N[m]? = some y) (hz : X.N[l]? = some z) (hc : X.env.kindOf x = some .cell ∨ X.env.kindOf x = some .free) (hc' : X.env.kindOf y = some .cell ∨ X.env.kindOf y = some .free) (hc'' : X.env.kindOf z = some .cell ∨ X.env.kindOf z = some .free)
    (hl : scope.names.lookup x = some .free) (hl' : scope.names.lookup y = some .free) (hl'' : scope.names.lookup z = some .free) (h3 : ∀ u ∈ scope.names, u.2 = .free → u.1 = x ∨ u.1 = y ∨ u.1 = z)
    (hk : scope.kind = .function := by rfl) (h1 : ∀ y ∈ scope.names, y.2 ≠ .cell := by decide +kernel) (h2 : ∀ y ∈ scope.names, y.2 = .local → scope.names.lookup y.1 = some .local := by decide +kernel) : CScope X scope (ns ++ [x, y, z]) ns.length [k, m, l] where
  kind := hk
  nocell := h1
  names := h2
  frees := fun u hu e => by
    rcases h3 u hu e with q | q | q
    · rw [q]; exact hc
    · rw [q]; exact hc'
    · rw [q]; exact hc''
  nlen := by simp
  caps := fun j k' e => by
    match j with
    | 0 =>
      cases e
      refine ⟨x, hx, by simp, ?_, hc, hl⟩
      rcases hc with z | z
      · exact .inr (.inl z)
      · exact .inr (.inr z)
    | 1 =>
      cases e
      refine ⟨y, hy, by simp, ?_, hc', hl'⟩
      rcases hc' with z | z
      · exact .inr (.inl z)
      · exact .inr (.inr z)
    | 2 =>
      cases e
      refine ⟨z, hz, by simp, ?_, hc'', hl''⟩
      rcases hc'' with z | z
      · exact .inr (.inl z)
      · exact .inr (.inr z)
    | j + 3 => simp at e
end L2
namespace GP
open PySem L2 GT GM
inductive SpLawAlike (vs : List V) (H : Hp) (Q : VK) : Prop
  | mk (a R x y) (h0 : vs = [.ref a, sv x, sv y]) (h1 : Rows2 H a R x y) (h2 : (∀ t, t < R.length → ¬ LenEq R x y t → anyH H Q (.bl false))) (h3 : ((∀ t, t < R.length → LenEq R x y t) → anyH H Q (.bl true))) : SpLawAlike vs H Q
end GP

namespace GQ
noncomputable def G : Nat → Nat → Nat
  | 0, i => i
  | n + 1, i => G n (i * 5 + 1)
theorem G_add : ∀ m n i, G (m + n) i = G n (G m i)
  | 0, n, i => by rw [Nat.zero_add]; rfl
  | m + 1, n, i => by
    rw [show m + 1 + n = (m + n) + 1 by omega]
    show G (m + n) (i * 5 + 1) = G n (G m (i * 5 + 1))
    exact G_add m n _
theorem G_shift : ∀ n i d, G n (i + d) = G n i + 5 ^ n * d
  | 0, i, d => by simp [G]
  | n + 1, i, d => by
    show G n ((i + d) * 5 + 1) = G n (i * 5 + 1) + 5 ^ (n + 1) * d
    rw [show (i + d) * 5 + 1 = (i * 5 + 1) + 5 * d by omega, G_shift n, Nat.pow_succ, Nat.mul_assoc]
noncomputable def B : Nat → Nat
  | 0 => 1
  | k + 1 => 2 * ((1 + 2 * B k) * B k)
theorem B_odd : ∀ k, ∃ c, B k = 2 ^ k * (2 * c + 1)
  | 0 => ⟨0, rfl⟩
  | k + 1 => by
    obtain ⟨c, e⟩ := B_odd k
    refine ⟨c + (2 * c + 1) * B k, ?_⟩
    show 2 * ((1 + 2 * B k) * B k) = _
    rw [Nat.pow_succ]
    generalize 2 ^ k = p at *
    generalize B k = b at *
    subst e
    grind
theorem G_pow : ∀ k i, G (2 ^ k) i = (1 + 4 * B k) * i + B k
  | 0, i => by show i * 5 + 1 = (1 + 4 * 1) * i + 1; omega
  | k + 1, i => by
    rw [Nat.pow_succ, Nat.mul_two, G_add, G_pow k, G_pow k]
    show _ = (1 + 4 * (2 * ((1 + 2 * B k) * B k))) * i + 2 * ((1 + 2 * B k) * B k)
    generalize B k = b
    grind
theorem G_half (k i : Nat) : ∃ d, G (2 ^ k) i = (i + 2 ^ k) + 2 ^ (k + 1) * d := by
  obtain ⟨c, e⟩ := B_odd k
  rw [G_pow]
  refine ⟨2 * (2 * c + 1) * i + c, ?_⟩
  rw [e, Nat.pow_succ]
  generalize 2 ^ k = p
  grind
theorem five_odd : ∀ n, ∃ c, 5 ^ n = 2 * c + 1
  | 0 => ⟨0, rfl⟩
  | n + 1 => by
    obtain ⟨c, e⟩ := five_odd n
    exact ⟨5 * c + 2, by rw [Nat.pow_succ, e]; omega⟩
theorem G_all : ∀ k i t, ∃ n, n < 2 ^ k ∧ G n i % 2 ^ k = t % 2 ^ k
  | 0, i, t => ⟨0, by decide, by simp [Nat.mod_one]⟩
  | k + 1, i, t => by
    obtain ⟨n, hn, e⟩ := G_all k i t
    have hp : 0 < 2 ^ k := Nat.pow_pos (by decide)
    have h2 : 2 ^ (k + 1) = 2 ^ k * 2 := Nat.pow_succ ..
    have key : ∀ a b : Nat, a % 2 ^ k = b % 2 ^ k → a % 2 ^ (k + 1) = b % 2 ^ (k + 1) ∨ (a + 2 ^ k) % 2 ^ (k + 1) = b % 2 ^ (k + 1) := by
      intro a b h
      rw [h2, Nat.mod_mul, Nat.mod_mul, Nat.mod_mul, h, Nat.add_mod_right, Nat.add_div_right _ hp, h]
      have r1 : a / 2 ^ k % 2 = 0 ∨ a / 2 ^ k % 2 = 1 := by omega
      have r2 : b / 2 ^ k % 2 = 0 ∨ b / 2 ^ k % 2 = 1 := by omega
      have r3 : (a / 2 ^ k).succ % 2 = 1 - a / 2 ^ k % 2 := by omega
      rw [r3]
      rcases r1 with r1 | r1 <;> rcases r2 with r2 | r2 <;> rw [r1, r2] <;> simp
    rcases key _ _ e with h | h
    · exact ⟨n, by omega, h⟩
    · refine ⟨2 ^ k + n, by omega, ?_⟩
      rw [← h, G_add]
      obtain ⟨d, hd⟩ := G_half k i
      obtain ⟨c, hc⟩ := five_odd n
      rw [hd, Nat.add_assoc, G_shift, hc]
      have : G n i + (2 * c + 1) * (2 ^ k + 2 ^ (k + 1) * d) = (G n i + 2 ^ k) + 2 ^ (k + 1) * (c + (2 * c + 1) * d) := by
        rw [h2]
        generalize 2 ^ k = p
        grind
      rw [this, Nat.add_mul_mod_self_left]
end GQ

namespace GQ
open PySem
noncomputable def walk (mask : Nat) : Nat → Nat → Nat → Nat × Nat
  | 0, i, p => (i, p)
  | n + 1, i, p => walk mask n (SetTable.leap mask i p).1 (SetTable.leap mask i p).2
theorem walk_add (mask : Nat) : ∀ m n i p, walk mask (m + n) i p = walk mask n (walk mask m i p).1 (walk mask m i p).2
  | 0, n, i, p => by rw [Nat.zero_add]; rfl
  | m + 1, n, i, p => by
    rw [show m + 1 + n = (m + n) + 1 by omega]
    exact walk_add mask m n _ _
theorem walk_p (mask : Nat) : ∀ n i p, (walk mask n i p).2 = p / 32 ^ n
  | 0, i, p => by simp [walk]
  | n + 1, i, p => by
    show (walk mask n _ (p / 32)).2 = _
    rw [walk_p mask n, Nat.div_div_eq_div_mul, Nat.pow_succ, Nat.mul_comm]
theorem walk_lt (mask : Nat) : ∀ n i p, i < mask + 1 → (walk mask n i p).1 < mask + 1
  | 0, i, p, h => h
  | n + 1, i, p, h => walk_lt mask n _ _ (Nat.mod_lt _ (Nat.succ_pos _))
theorem walk_G (mask : Nat) : ∀ n i, i < mask + 1 → (walk mask n i 0).1 = G n i % (mask + 1)
  | 0, i, h => (Nat.mod_eq_of_lt h).symm
  | n + 1, i, h => by
    have e : SetTable.leap mask i 0 = ((i * 5 + 1) % (mask + 1), 0) := by simp [SetTable.leap]
    show (walk mask n (SetTable.leap mask i 0).1 (SetTable.leap mask i 0).2).1 = _
    rw [e, walk_G mask n _ (Nat.mod_lt _ (Nat.succ_pos _))]
    show G n _ % _ = G n (i * 5 + 1) % _
    have := G_shift n ((i * 5 + 1) % (mask + 1)) ((mask + 1) * ((i * 5 + 1) / (mask + 1)))
    rw [Nat.mod_add_div] at this
    rw [this, Nat.mul_left_comm, Nat.add_mul_mod_self_left]
theorem walk_all {mask k : Nat} (hm : mask + 1 = 2 ^ k) {i p : Nat} (hi : i < mask + 1) (hp : p < 2 ^ 65) (t : Nat) (ht : t < mask + 1) : ∃ n, n < mask + 15 ∧ (walk mask n i p).1 = t := by
  have h13 : (walk mask 13 i p).2 = 0 := by
    rw [walk_p]
    exact Nat.div_eq_of_lt (by rw [show (32 : Nat) ^ 13 = 2 ^ 65 from by decide]; exact hp)
  obtain ⟨n, hn, e⟩ := G_all k (walk mask 13 i p).1 t
  refine ⟨13 + n, by omega, ?_⟩
  rw [walk_add, h13, walk_G mask n _ (walk_lt mask 13 i p hi), hm, e, ← hm, Nat.mod_eq_of_lt ht]
theorem run_ge (mask i : Nat) : i ≤ SetTable.runEnd mask i := by unfold SetTable.runEnd; split <;> omega
theorem free_none {mask : Nat} {owner : Array (Option Nat)} : ∀ fuel i p, SetTable.layClean.free mask owner fuel i p = none → ∀ n, n < fuel → (owner.getD (walk mask n i p).1 (some 0)).isNone = false
  | 0, _, _, _, n, h => by omega
  | fuel + 1, i, p, h, n, hn => by
    unfold SetTable.layClean.free at h
    split at h
    · cases h
    · rename_i hf
      cases n with
      | zero =>
        have := List.find?_eq_none.mp hf 0 (List.mem_range.mpr (by have := run_ge mask i; omega))
        rw [Nat.add_zero] at this
        exact Bool.eq_false_iff.mpr this
      | succ n => exact free_none fuel _ _ h n (by omega)
theorem free_some {mask : Nat} {owner : Array (Option Nat)} : ∀ fuel i p j, SetTable.layClean.free mask owner fuel i p = some j → (owner.getD j (some 0)).isNone = true
  | 0, _, _, j, h => by unfold SetTable.layClean.free at h; cases h
  | fuel + 1, i, p, j, h => by
    unfold SetTable.layClean.free at h
    split at h
    · rename_i k hk
      cases h
      have := List.find?_some (p := fun k => (owner.getD (i + k) (some 0)).isNone) hk
      exact this
    · exact free_some fuel _ _ j h
theorem free_ok {mask k : Nat} (hm : mask + 1 = 2 ^ k) {owner : Array (Option Nat)} (hs : owner.size = mask + 1) (hfree : ∃ j, j < mask + 1 ∧ owner.getD j (some 0) = none) (h : Int) :
    ∃ j, SetTable.layClean.free mask owner (SetTable.turns mask) (SetTable.bits h % (mask + 1)) (SetTable.bits h) = some j ∧ j < mask + 1 ∧ owner.getD j none = none := by
  cases hf : SetTable.layClean.free mask owner (SetTable.turns mask) (SetTable.bits h % (mask + 1)) (SetTable.bits h) with
  | none =>
    obtain ⟨t, ht, e⟩ := hfree
    have hb : SetTable.bits h < 2 ^ 65 := by
      unfold SetTable.bits
      have h1 := Int.emod_lt_of_pos h (show (0 : Int) < 2 ^ 64 by decide)
      have h2 := Int.emod_nonneg h (show (2 ^ 64 : Int) ≠ 0 by decide)
      omega
    obtain ⟨n, hn, e2⟩ := walk_all hm (i := SetTable.bits h % (mask + 1)) (p := SetTable.bits h) (Nat.mod_lt _ (Nat.succ_pos _)) hb t ht
    have := free_none _ _ _ hf n hn
    rw [e2, e] at this
    cases this
  | some j =>
    have h1 := free_some _ _ _ _ hf
    have hj : j < owner.size := by
      refine Classical.byContradiction fun hn => ?_
      rw [Array.getD, dif_neg hn] at h1
      cases h1
    refine ⟨j, rfl, by omega, ?_⟩
    have e : owner.getD j (some 0) = owner.getD j none := by rw [Array.getD, Array.getD, dif_pos hj, dif_pos hj]
    rw [e] at h1
    exact Option.isNone_iff_eq_none.mp h1
end GQ

namespace GQ
open PySem
theorem fm_congr {α : Type} {f g : Nat → Option α} : ∀ {l : List Nat}, (∀ i ∈ l, g i = f i) → l.filterMap g = l.filterMap f
  | [], _ => rfl
  | a :: l, h => by
    rw [List.filterMap_cons, List.filterMap_cons, h a List.mem_cons_self, fm_congr fun i hi => h i (List.mem_cons_of_mem _ hi)]
theorem fm_set {α : Type} {f g : Nat → Option α} {j : Nat} {c : α} (hj : f j = none) (gj : g j = some c) (hg : ∀ i, i ≠ j → g i = f i) : ∀ {l : List Nat}, l.Nodup → j ∈ l → (l.filterMap g).Perm (c :: l.filterMap f)
  | [], _, h => by simp at h
  | a :: l, nd, h => by
    have nd' := List.nodup_cons.mp nd
    by_cases ha : a = j
    · subst ha
      rw [List.filterMap_cons_some gj, List.filterMap_cons_none hj]
      refine List.Perm.cons _ (List.Perm.of_eq (fm_congr fun i hi => hg i fun z => nd'.1 (z ▸ hi)))
    · have hl : j ∈ l := by
        rcases List.mem_cons.mp h with z | z
        · exact absurd z.symm ha
        · exact z
      have ih := fm_set hj gj hg nd'.2 hl
      cases hf : f a with
      | none => rw [List.filterMap_cons_none hf, List.filterMap_cons_none (by rw [hg a ha]; exact hf)]; exact ih
      | some b =>
        rw [List.filterMap_cons_some hf, List.filterMap_cons_some (by rw [hg a ha]; exact hf)]
        exact (List.Perm.cons b ih).trans (List.Perm.swap ..)
theorem fm_full {α : Type} {f : Nat → Option α} : ∀ {l : List Nat}, (∀ j ∈ l, f j ≠ none) → (l.filterMap f).length = l.length
  | [], _ => rfl
  | a :: l, h => by
    obtain ⟨b, hb⟩ := Option.ne_none_iff_exists'.mp (h a List.mem_cons_self)
    rw [List.filterMap_cons_some hb, List.length_cons, List.length_cons, fm_full fun j hj => h j (List.mem_cons_of_mem _ hj)]
structure Own (mask c : Nat) (owner : Array (Option Nat)) : Prop where
  size : owner.size = mask + 1
  perm : ((List.range (mask + 1)).filterMap fun j => owner.getD j none).Perm (List.range c)
noncomputable def stepL (mask : Nat) (acc : Option (Array (Option Nat) × Nat)) (h : Int) : Option (Array (Option Nat) × Nat) := do
  let (owner, k) ← acc
  let j ← SetTable.layClean.free mask owner (SetTable.turns mask) (SetTable.bits h % (mask + 1)) (SetTable.bits h)
  pure (owner.setIfInBounds j (some k), k + 1)
theorem step_ok {mask k : Nat} (hm : mask + 1 = 2 ^ k) : ∀ (l : List Int) (owner : Array (Option Nat)) (c : Nat), Own mask c owner → c + l.length ≤ mask → ∃ owner', l.foldl (stepL mask) (some (owner, c)) = some (owner', c + l.length) ∧ Own mask (c + l.length) owner'
  | [], owner, c, o, _ => ⟨owner, rfl, o⟩
  | h :: l, owner, c, o, hl => by
    rw [List.length_cons] at hl
    have hfree : ∃ j, j < mask + 1 ∧ owner.getD j (some 0) = none := by
      refine Classical.byContradiction fun hn => ?_
      have : ((List.range (mask + 1)).filterMap fun j => owner.getD j none).length = (List.range (mask + 1)).length := fm_full fun j hj => by
        have hj' := List.mem_range.mp hj
        have e : owner.getD j (some 0) = owner.getD j none := by
          have : j < owner.size := by rw [o.size]; exact hj'
          rw [Array.getD, Array.getD, dif_pos this, dif_pos this]
        exact fun z => hn ⟨j, hj', by rw [e]; exact z⟩
      rw [o.perm.length_eq, List.length_range, List.length_range] at this
      omega
    obtain ⟨j, hj, hjl, hjn⟩ := free_ok hm o.size hfree h
    have o' : Own mask (c + 1) (owner.setIfInBounds j (some c)) := by
      refine ⟨by rw [Array.size_setIfInBounds]; exact o.size, ?_⟩
      have hjs : j < owner.size := by rw [o.size]; exact hjl
      refine (fm_set (f := fun j => owner.getD j none) (j := j) (c := c) hjn ?_ ?_ List.nodup_range (List.mem_range.mpr hjl)).trans ?_
      · simp [Array.getD_eq_getD_getElem?, hjs]
      · intro i hi
        simp [Array.getD_eq_getD_getElem?, Array.getElem?_setIfInBounds, Ne.symm hi]
      · rw [List.range_succ (n := c)]
        exact (List.Perm.cons c o.perm).trans (by simpa using (List.perm_append_comm (l₁ := [c]) (l₂ := List.range c)))
    obtain ⟨owner', e, o2⟩ := step_ok hm l _ (c + 1) o' (by omega)
    refine ⟨owner', ?_, by rw [List.length_cons]; rw [show c + (l.length + 1) = c + 1 + l.length by omega]; exact o2⟩
    rw [List.foldl_cons, List.length_cons, show c + (l.length + 1) = c + 1 + l.length by omega, ← e]
    congr 1
    simp [stepL, hj]
theorem lay_ok {mask k : Nat} (hm : mask + 1 = 2 ^ k) (hashes : Array Int) (hn : hashes.size ≤ mask) : ∃ owner, SetTable.layClean mask hashes = some owner ∧ Own mask hashes.size owner := by
  have o0 : Own mask 0 (Array.replicate (mask + 1) none) := by
    refine ⟨by simp, ?_⟩
    have : ((List.range (mask + 1)).filterMap fun j => (Array.replicate (mask + 1) (none : Option Nat)).getD j none) = [] := by
      rw [List.filterMap_eq_nil_iff]
      intro j hj
      simp [Array.getD_eq_getD_getElem?, List.mem_range.mp hj]
    rw [this]; exact List.Perm.refl _
  obtain ⟨owner, e, o⟩ := step_ok hm hashes.toList _ 0 o0 (by rw [Array.length_toList]; omega)
  refine ⟨owner, ?_, by rw [Array.length_toList, Nat.zero_add] at o; exact o⟩
  unfold SetTable.layClean
  rw [← Array.foldl_toList]
  show Option.map _ (hashes.toList.foldl (stepL mask) _) = _
  rw [e]; rfl
end GQ

namespace GS
open PySem PySem.Spec PyProof.Rows
section
variable {prog : Program} {w : World} {K : Type} [DecidableEq K] [BEq K] [LawfulBEq K] {knd : KeyKind prog w K} {A : Around} {E : Value → Shared → Prop} {s : Shared}
theorem setWalk2 {a : Addr} {o : Obj} {es : Array (Int × Value)} {ep : Nat} {t : SetTable} {Q : Array (Int × Value) → Shared → Prop} (ho : s.heap.get? a = some o) (hd : o.data = .set es ep t) (hf : t.fits es.size = true)
    (hc : (w.params.followText "set-order" || (t.led && t.plain) || decide (es.size ≤ 1)) = true)
    (h : ∀ es' : Array (Int × Value), es'.toList.Perm es.toList → Q es' s) : wpAny (model prog w) A (setWalk a) Q E s := by
  unfold setWalk setsByText
  refine wpAny_bind (wpAny_setState_of ho hd hf ?_)
  dsimp only
  refine wpAny_bind (wpAny_bind (wpAny_askSetting (wpAny_pure ?_)))
  dsimp only
  cases hb : w.params.followText "set-order" with
  | true =>
    show wpAny _ _ (if Params.followText w.params "set-order" = true then _ else _) _ _ _
    rw [hb, if_pos rfl]
    exact wpAny_bind (wpAny_askSetting (wpAny_pure (h _ (pick_perm _ es))))
  | false =>
    show wpAny _ _ (if Params.followText w.params "set-order" = true then _ else _) _ _ _
    rw [hb, if_neg Bool.false_ne_true]
    rw [hb] at hc
    have hdr : (!t.plain && decide (es.size > 1)) = false := by
      cases h1 : t.plain <;> cases h2 : decide (es.size ≤ 1) <;> simp_all
    have hml : (!t.led && decide (es.size > 1)) = false := by
      cases h1 : t.led <;> cases h2 : decide (es.size ≤ 1) <;> simp_all
    show wpAny _ _ (if (!t.plain && decide (es.size > 1)) = true then _ else _) _ _ _
    rw [hdr, if_neg Bool.false_ne_true]
    refine wpAny_bind ?_
    show wpAny _ _ (if (!t.led && decide (es.size > 1)) = true then _ else _) _ _ _
    rw [hml, if_neg Bool.false_ne_true]
    exact wpAny_pure (wpAny_pure (h es (List.Perm.refl _)))
theorem walkUnseen2 {a b f : Addr} {S S' S'' : K → Bool} {n n' n'' : Nat} {o : Obj} {es : Array (Int × Value)} {ep : Nat} {t : SetTable} {Q : Array (Int × Value) → Shared → Prop}
    (ho : s.heap.get? a = some o) (hd : o.data = .set es ep t) (hf : t.fits es.size = true) (ha : s.heap.SetOf knd a S n) (hb : s.heap.SetOf knd b S' n') (hr : s.heap.SetOf knd f S'' n'')
    (h : ∀ (es' : Array (Int × Value)) (h' : Heap), es'.toList.Perm es.toList → h'.SetOf knd f S'' n'' → Heap.SameBut f s.heap h' → Q es' { s with heap := h' }) :
    wpAny (model prog w) A (setWalkUnseen a [b, f] (some f)) Q E s := by
  unfold setWalkUnseen setsByText
  refine wpAny_bind (wpAny_setState_of ho hd hf ?_)
  dsimp only
  refine wpAny_bind (wpAny_bind (wpAny_askSetting (wpAny_pure ?_)))
  dsimp only
  show wpAny _ _ (if (Params.followText w.params "set-order" || (t.led && t.plain) || decide (es.size ≤ 1)) = true then _ else _) _ _ _
  cases hc : (Params.followText w.params "set-order" || (t.led && t.plain) || decide (es.size ≤ 1)) with
  | true =>
    rw [if_pos rfl]
    exact wpAny_mono (setWalk2 ho hd hf hc fun es' he => h es' s.heap he hr (.refl ..)) (fun _ _ q => q) fun _ _ e => e
  | false =>
    rw [if_neg Bool.false_ne_true]
    refine wpAny_bind (setsQuiet_true (knd := knd) [a, b, f] (fun c hc => ?_) ?_)
    · simp at hc
      rcases hc with rfl | rfl | rfl
      · exact ⟨_, _, ha⟩
      · exact ⟨_, _, hb⟩
      · exact ⟨_, _, hr⟩
    · simp only [Bool.not_true, Bool.false_eq_true, if_false]
      refine wpAny_bind (wpAny_rule ?_)
      obtain ⟨of, ef, epf, tf, hof, hexf, hdf, helf, hmf, hbf, hff, hnf⟩ := id hr
      refine wpAny_bind (wpAny_setState_of hof hdf hff ?_)
      dsimp only
      split
      · refine wpAny_bind (wpAny_storeSet_of hof hdf ?_ (fits_of_scanBound hbf))
        obtain ⟨_, hS2⟩ := SetOf_store (knd := knd) (t' := { tf with led := tf.led && t.led, plain := tf.plain && t.plain }) hof hexf hdf helf hmf hbf (by cases tf; exact hff)
        rw [hnf] at hS2
        exact wpAny_pure (h es _ (List.Perm.refl _) hS2 (Heap.SameBut.update ..))
      · exact wpAny_pure (h es s.heap (List.Perm.refl _) hr (.refl ..))
end
section
variable {prog : Program} {w : World} {A : Around} {E : Value → Shared → Prop} {s : Shared}
theorem strKind_shape2 {k : Str} {v : Value} (h : (PySem.strKind prog w).is k v = true) : ∃ t, v = .str k t := by
  cases v with
  | str z t =>
    have : z = k := by simpa [PySem.strKind, Value.isStrOf] using h
    subst this; exact ⟨t, rfl⟩
  | _ => simp [PySem.strKind, Value.isStrOf] at h
set_option maxHeartbeats 400000 in
theorem sub_near {a b : Addr} {S S' : Str → Bool} {n n' : Nat} {Q : Value → Shared → Prop} (ha : s.heap.SetOf (strKind prog w) a S n) (hb : s.heap.SetOf (strKind prog w) b S' n') (hn : n / 4 ≤ n')
    (h : ∀ h' m, h'.SetOf (strKind prog w) s.heap.objs.size (fun k => S k && !S' k) m → (∀ c o, s.heap.get? c = some o → h'.get? c = some o) → Q (.ref s.heap.objs.size) { s with heap := h' }) :
    wpAny (model prog w) A (binaryOp .Sub (.ref a) (.ref b)) Q E s := by
  refine wpAny_binaryOp_same (T := "set") ha.typeIs hb.typeIs PySem.F.fills_set_sub PySem.F.slot_set_sub ?_
  refine wpAny_call_entry PySem.F.slot_set_sub ha.typeIs FB.entry_set_sub ?_ (PySem.F.args_set_sub_2 _ _)
  have t1 := ha.typeIs
  have t2 := hb.typeIs
  show wpAny _ _ (Builtin.Frozenset.slot1 "__sub__" ⟨[.ref a, .ref b], []⟩ >>= _) _ _ _
  refine wpAny_bind (m := Builtin.Frozenset.slot1 "__sub__" ⟨[.ref a, .ref b], []⟩) (wpAny_pure ?_)
  show wpAny _ _ ((Builtin.Frozenset.isAnySet (.ref a) <&&> Builtin.Frozenset.isAnySet (.ref b)) >>= _) _ _ _
  refine wpAny_bind (wpAny_bind (isAny t1 ?_))
  show wpAny _ _ (Builtin.Frozenset.isAnySet (.ref b)) _ _ _
  refine isAny t2 ?_
  simp only [Bool.not_true, Bool.false_eq_true, if_false]
  refine wpAny_bind (m := Builtin.Frozenset.addrOf (.ref a)) (wpAny_pure ?_)
  refine wpAny_bind ?_
  unfold Builtin.Frozenset.difference
  refine wpAny_bind (isAny t2 ?_)
  simp only [Bool.not_true, Bool.false_eq_true, if_false, Bool.false_and, if_true]
  refine wpAny_bind (m := Builtin.Frozenset.addrOf (.ref b)) (wpAny_pure ?_)
  obtain ⟨oa, ea, epa, ta, hoa, hexa, hda, hela, hma, hba, hfa, hna⟩ := id ha
  obtain ⟨ob, eb, epb, tb, hob, hexb, hdb, helb, hmb, hbb, hfb, hnb⟩ := id hb
  unfold Builtin.Frozenset.sizeOf
  refine wpAny_bind (wpAny_bind (wpAny_setEntries_of hob hdb hfb (wpAny_pure ?_)))
  refine wpAny_bind (wpAny_bind (wpAny_setEntries_of hoa hda hfa (wpAny_pure ?_)))
  rw [if_neg (by rw [hna, hnb]; omega)]
  refine wpAny_bind (wpAny_bind ?_)
  refine wpAny_isInstance t1 sub_set_self (wpAny_pure ?_)
  simp only [if_true]
  refine wpAny_bind (wpAny_newSet_of (knd := strKind prog w) fun led hS0 => ?_)
  refine wpAny_bind (m := Builtin.Frozenset.addrOf (.ref s.heap.objs.size)) (wpAny_pure ?_)
  have up : ∀ c o, s.heap.get? c = some o → (s.heap.push { cls := .type "set", dict := none, data := .set #[] 0 (.fresh 0 0 led) }).get? c = some o := fun c o e => Heap.get?_push_of_some _ e
  generalize hH : s.heap.push { cls := .type "set", dict := none, data := .set #[] 0 (.fresh 0 0 led) } = H1 at up hS0
  have la : a < s.heap.objs.size := Heap.lt_size hoa
  have lb : b < s.heap.objs.size := Heap.lt_size hob
  have ha1 : H1.SetOf (strKind prog w) a S n := ⟨oa, ea, epa, ta, up _ _ hoa, hexa, hda, hela, hma, hba, hfa, hna⟩
  have hb1 : H1.SetOf (strKind prog w) b S' n' := ⟨ob, eb, epb, tb, up _ _ hob, hexb, hdb, helb, hmb, hbb, hfb, hnb⟩
  refine wpAny_bind (wpAny_setEpoch_of (up _ _ hoa) hda hfa ?_)
  refine wpAny_bind (wpAny_holding (wpAny_bind (walkUnseen2 (s := { s with heap := H1 }) (up _ _ hoa) hda hfa ha1 hb1 hS0 fun es' h' hperm hS1 sb => ?_)))
  have hext : ∀ c o, s.heap.get? c = some o → h'.get? c = some o := fun c o e => sb.extBut _ _ (Nat.ne_of_lt (Heap.lt_size e)) (up c o e)
  refine wpAny_bind (PySem.MeetsSeq2.wpAny_forIn_array _ (fun rest _ s' => (∀ e ∈ rest, e ∈ ea.toList) ∧ ∃ (h2 : Heap) (T : Str → Bool) (m : Nat), s' = { s with heap := h2 } ∧ (∀ c o, s.heap.get? c = some o → h2.get? c = some o) ∧ h2.SetOf (strKind prog w) s.heap.objs.size T m ∧ m + rest.length ≤ ea.size ∧ (∀ k, T k = true → S k = true ∧ S' k = false) ∧ ∀ k, S k = true → S' k = false → T k = true ∨ ∃ e ∈ rest, (strKind prog w).is k e.2 = true) _ ?_ ?_ es' _ ⟨fun e he => hperm.mem_iff.mp he, h', _, _, rfl, hext, hS1, ?_, ?_, ?_⟩)
  · rintro ⟨hx, x⟩ rest _ s' ⟨hm, h2, T, m, rfl, k2, hT, hsz, hT1, hT2⟩
    have hin := hm _ List.mem_cons_self
    obtain ⟨⟨k, hk, hh⟩, hsc⟩ := hela _ hin
    have hh' : hx = (strKind prog w).hash k := hh
    have hk' : (strKind prog w).is k x = true := hk
    have hsc' : x.scannable = true := hsc
    have hSk : S k = true := (hma k).mpr ⟨_, hin, hk⟩
    have uniq : ∀ k0, (strKind prog w).is k0 x = true → k0 = k := fun k0 h0 => by
      obtain ⟨t, rfl⟩ := strKind_shape2 hk'
      obtain ⟨t', e⟩ := strKind_shape2 h0
      cases e; rfl
    have hoa2 := k2 _ _ hoa
    have hb2 : h2.SetOf (strKind prog w) b S' n' := ⟨ob, eb, epb, tb, k2 _ _ hob, hexb, hdb, helb, hmb, hbb, hfb, hnb⟩
    rw [List.length_cons] at hsz
    show wpAny _ _ (holding [x] (setFind b x hx >>= _) >>= _) _ _ _
    rw [hh']
    refine wpAny_bind (wpAny_holding (wpAny_bind (wpAny_setFind_of (knd := strKind prog w) (s := { s with heap := h2 }) (k := k) (x := x) (a := b) hk' hsc' hb2 ?_)))
    intro r hr
    refine wpAny_bind (wpAny_pure ?_)
    cases hS : S' k with
    | true =>
      rw [hr, hS]
      simp only [Bool.not_true, Bool.false_eq_true, if_false]
      refine wpAny_pure ?_
      unfold Builtin.Frozenset.unchanged
      refine wpAny_bind (wpAny_bind (wpAny_setEpoch_of hoa2 hda hfa ?_))
      simp only [bne_self_eq_false, Bool.false_eq_true, if_false]
      refine wpAny_pure (wpAny_pure ⟨fun e he => hm e (List.mem_cons_of_mem _ he), h2, T, m, rfl, k2, hT, by omega, hT1, fun k0 a1 a2 => ?_⟩)
      rcases hT2 k0 a1 a2 with z | ⟨e, he, hz⟩
      · exact .inl z
      · rcases List.mem_cons.mp he with rfl | he
        · rw [uniq k0 hz, hS] at a2; cases a2
        · exact .inr ⟨e, he, hz⟩
    | false =>
      rw [hr, hS]
      simp only [Bool.not_false, if_true]
      refine wpAny_bind (wpAny_setAddHashed_of (knd := strKind prog w) (s := { s with heap := h2 }) hk' hsc' hT (by omega) fun h3 sb3 hT3 => ?_)
      refine wpAny_pure ?_
      have k3 : ∀ c o, s.heap.get? c = some o → h3.get? c = some o := fun c o e => sb3.extBut _ _ (Nat.ne_of_lt (Heap.lt_size e)) (k2 c o e)
      unfold Builtin.Frozenset.unchanged
      refine wpAny_bind (wpAny_bind (wpAny_setEpoch_of (k3 _ _ hoa) hda hfa ?_))
      simp only [bne_self_eq_false, Bool.false_eq_true, if_false]
      refine wpAny_pure (wpAny_pure ⟨fun e he => hm e (List.mem_cons_of_mem _ he), h3, _, _, rfl, k3, hT3, ?_, fun k0 z => ?_, fun k0 a1 a2 => ?_⟩)
      · split <;> omega
      · rcases Bool.or_eq_true _ _ |>.mp z with z | z
        · exact hT1 k0 z
        · have : k0 = k := by simpa using z
          subst this; exact ⟨hSk, hS⟩
      · rcases hT2 k0 a1 a2 with z | ⟨e, he, hz⟩
        · exact .inl (by rw [z]; rfl)
        · rcases List.mem_cons.mp he with rfl | he
          · exact .inl (by rw [uniq k0 hz]; simp)
          · exact .inr ⟨e, he, hz⟩
  · rintro r s' ⟨_, h2, T, m, rfl, k2, hT, _, hT1, hT2⟩
    have eT : T = fun k => S k && !S' k := funext fun k => by
      cases hk : T k with
      | true => obtain ⟨a1, a2⟩ := hT1 k hk; rw [a1, a2]; rfl
      | false =>
        cases h1 : S k with
        | false => rfl
        | true =>
          cases h2 : S' k with
          | true => rfl
          | false =>
            rcases hT2 k h1 h2 with z | ⟨e, he, _⟩
            · rw [hk] at z; cases z
            · simp at he
    rw [eT] at hT
    exact wpAny_pure (wpAny_pure (wpAny_pure ⟨_, rfl, (fun z => nomatch z), h h2 m hT k2⟩))
  · rw [hperm.length_eq, Array.length_toList]; omega
  · intro k z; cases z
  · intro k a1 a2
    obtain ⟨e, he, hk⟩ := (hma k).mp a1
    exact .inr ⟨e, hperm.mem_iff.mpr he, hk⟩
end
end GS

namespace GS
open PySem PySem.Spec PyProof.Rows
theorem laid_ok {mask k : Nat} (hm : mask + 1 = 2 ^ k) {f m : Nat} {l p : Bool} (hashes : Array Int) (hn : hashes.size ≤ mask) : ∃ t order, SetTable.laid mask f m l p hashes = some (t, order) ∧ order.toList.Perm (List.range hashes.size) ∧ t.fits hashes.size = true ∧ t.mask = mask ∧ t.dummies = #[] := by
  obtain ⟨owner, e, o⟩ := GQ.lay_ok hm hashes hn
  have hp : (((List.range (mask + 1)).filterMap fun j => (owner.getD j none).map (j, ·)).map (·.2)) = (List.range (mask + 1)).filterMap fun j => owner.getD j none := by
    rw [List.map_filterMap]
    refine GQ.fm_congr fun j _ => ?_
    cases owner.getD j none <;> rfl
  have hl : ((List.range (mask + 1)).filterMap fun j => (owner.getD j none).map (j, ·)).length = hashes.size := by
    have h1 := congrArg List.length hp
    rw [List.length_map] at h1
    rw [h1, o.perm.length_eq, List.length_range]
  refine ⟨_, _, by unfold SetTable.laid; rw [e]; rfl, ?_, ?_, rfl, rfl⟩
  · show ((((List.range (mask + 1)).filterMap fun j => (owner.getD j none).map (j, ·)).map (·.2)).toArray).toList.Perm _
    rw [List.toList_toArray, hp]; exact o.perm
  · unfold SetTable.fits SetTable.fill
    simp only [List.size_toArray, List.length_map, hl]
    simp; omega
theorem reord {es : Array (Int × Value)} {order : Array Nat} (h : order.toList.Perm (List.range es.size)) : (order.filterMap (es[·]?)).toList.Perm es.toList := by
  rw [Array.toList_filterMap]
  refine (h.filterMap _).trans (List.Perm.of_eq ?_)
  have : ∀ (l : List (Int × Value)), (List.range l.length).filterMap (l[·]?) = l := by
    intro l
    induction l with
    | nil => rfl
    | cons a l ih =>
      rw [List.length_cons, List.range_succ_eq_map, List.filterMap_cons, List.filterMap_map]
      show a :: (List.range l.length).filterMap (fun x => l[x]?) = a :: l
      rw [ih]
  have h2 := this es.toList
  rw [Array.length_toList] at h2
  conv => rhs; rw [← h2]
  refine GQ.fm_congr fun i _ => ?_
  simp
theorem above_pow (n : Nat) : ∃ k, SetTable.sizeAbove n = 2 ^ k := by
  unfold SetTable.sizeAbove
  have : ∀ fuel k, ∃ k', SetTable.sizeAbove.go n fuel (2 ^ k) = 2 ^ k' := by
    intro fuel
    induction fuel with
    | zero => intro k; exact ⟨k, rfl⟩
    | succ fuel ih =>
      intro k
      unfold SetTable.sizeAbove.go
      split
      · rw [← Nat.pow_succ]; exact ih (k + 1)
      · exact ⟨k, rfl⟩
  exact this 64 3
theorem above_gt {n : Nat} (h : n ≤ 1000) : n < SetTable.sizeAbove n ∧ SetTable.sizeAbove n ≤ 2048 := by
  have key : ∀ n, n ≤ 1000 → n < SetTable.sizeAbove n ∧ SetTable.sizeAbove n ≤ 2048 := by decide +kernel
  exact key n h
section
variable {prog : Program} {w : World} {K : Type} [DecidableEq K] [BEq K] [LawfulBEq K] {knd : KeyKind prog w K} {A : Around} {E : Value → Shared → Prop} {s : Shared}
theorem relay_ {a : Addr} {S : K → Bool} {n wanted : Nat} {Q : Unit → Shared → Prop} (hS : s.heap.SetOf knd a S n) (hw : wanted ≤ 1000) (hn : n ≤ wanted)
    (h : ∀ h', Heap.SameBut a s.heap h' → h'.SetOf knd a S n → Q () { s with heap := h' }) : wpAny (model prog w) A (setRelay a wanted) Q E s := by
  obtain ⟨o, es, ep, t, ho, hex, hd, hel, hmem, hb, hf, hsz⟩ := hS
  obtain ⟨k, hk⟩ := above_pow wanted
  obtain ⟨hw1, hw2⟩ := above_gt hw
  have hm : SetTable.sizeAbove wanted - 1 + 1 = 2 ^ k := by rw [← hk]; omega
  obtain ⟨t', order, e, hp, hf', _⟩ := laid_ok hm (f := t.finger) (m := t.movedTo (SetTable.sizeAbove wanted - 1)) (l := t.led) (p := t.plain) (es.map (·.1)) (by rw [Array.size_map]; omega)
  rw [Array.size_map] at hp hf'
  have hr := reord hp
  have hrs : (order.filterMap (es[·]?)).size = es.size := by
    have := hr.length_eq
    rw [Array.length_toList, Array.length_toList] at this
    exact this
  unfold setRelay
  refine wpAny_bind (wpAny_setState_of ho hd hf ?_)
  dsimp only
  rw [if_neg (by rw [sizeLine_eq]; omega)]
  refine wpAny_bind ?_
  unfold SetTable.relaid
  rw [e]
  show wpAny _ _ (if ((order.filterMap (es[·]?)).size != es.size) = true then _ else pure (order.filterMap (es[·]?), t')) _ _ _
  rw [if_neg (by rw [hrs]; simp)]
  refine wpAny_pure ?_
  refine wpAny_storeSet_of ho hd ?_ (by rw [hrs]; exact fits_of_scanBound hb)
  have h2 := (SetOf_store (knd := knd) ho hex hd (es' := order.filterMap (es[·]?)) (t' := t') (S' := S) (hel.perm hr) (fun k => (hmem k).trans ⟨fun ⟨x, hx, hk⟩ => ⟨x, hr.mem_iff.mpr hx, hk⟩, fun ⟨x, hx, hk⟩ => ⟨x, hr.mem_iff.mp hx, hk⟩⟩) (by rw [hrs]; exact hb) (by rw [hrs]; exact hf')).2
  rw [hrs, hsz] at h2
  exact h _ (Heap.SameBut.update ..) h2
end
end GS

namespace GS
open PySem PySem.Spec PyProof.Rows
structure Blank (h : Heap) (r : Addr) (mask : Nat) : Prop where
  ex : ∃ o ep t, h.get? r = some o ∧ o.ExactSet ∧ o.data = .set #[] ep t ∧ t.place = #[] ∧ t.dummies = #[] ∧ t.mask = mask
section
variable {prog : Program} {w : World} {K : Type} [DecidableEq K] [BEq K] [LawfulBEq K] {knd : KeyKind prog w K} {A : Around} {E : Value → Shared → Prop} {s : Shared}
theorem blank_fits {t : SetTable} (h1 : t.place = #[]) (h2 : t.dummies = #[]) : t.fits 0 = true := by
  unfold SetTable.fits SetTable.fill
  rw [h1, h2]; simp
theorem relay0 {r : Addr} {wanted mask : Nat} {Q : Unit → Shared → Prop} (hB : Blank s.heap r mask) (hw : wanted ≤ 1000)
    (h : ∀ h', Heap.SameBut r s.heap h' → Blank h' r (SetTable.sizeAbove wanted - 1) → Q () { s with heap := h' }) : wpAny (model prog w) A (setRelay r wanted) Q E s := by
  obtain ⟨o, ep, t, ho, hex, hd, h1, h2, hmk⟩ := hB
  have hf := blank_fits h1 h2
  obtain ⟨k, hk⟩ := above_pow wanted
  obtain ⟨hw1, hw2⟩ := above_gt hw
  have hm : SetTable.sizeAbove wanted - 1 + 1 = 2 ^ k := by rw [← hk]; omega
  obtain ⟨t', order, e, hp, hf', hm', hdm⟩ := laid_ok hm (f := t.finger) (m := t.movedTo (SetTable.sizeAbove wanted - 1)) (l := t.led) (p := t.plain) #[] (by simp)
  have ho0 : order = #[] := by
    have : order.toList = [] := List.Perm.eq_nil (by simpa using hp)
    exact Array.toList_eq_nil_iff.mp this
  subst ho0
  unfold setRelay
  refine wpAny_bind (wpAny_setState_of ho hd hf ?_)
  dsimp only
  rw [if_neg (by rw [sizeLine_eq]; omega)]
  refine wpAny_bind ?_
  unfold SetTable.relaid
  rw [show ((#[] : Array (Int × Value)).map (·.1)) = #[] from by simp, e]
  refine wpAny_pure ?_
  refine wpAny_storeSet_of ho hd ?_ (by simp)
  have hg : (s.heap.update r (Obj.putSet #[] t')).get? r = some { o with data := .set #[] (ep + 1) t' } := by
    have := Heap.get?_update_self (Obj.putSet #[] t') ho (by rw [putSet_of #[] t' hd]; rfl)
    rw [putSet_of #[] t' hd] at this; exact this
  refine h _ (Heap.SameBut.update ..) ⟨_, ep + 1, t', hg, hex, rfl, ?_, hdm, hm'⟩
  unfold SetTable.fits at hf'
  have : t'.place.size = 0 := by
    have := (Bool.and_eq_true _ _ |>.mp hf').1
    simpa using this
  exact Array.eq_empty_of_size_eq_zero this
theorem room0 {r : Addr} {n mask : Nat} {Q : Unit → Shared → Prop} (hB : Blank s.heap r mask) (hm : mask = 7) (hn : n ≤ 400)
    (h : ∀ h' m k, Heap.SameBut r s.heap h' → Blank h' r m → n ≤ m → m + 1 = 2 ^ k → Q () { s with heap := h' }) : wpAny (model prog w) A (setRoomFor r n) Q E s := by
  obtain ⟨o, ep, t, ho, hex, hd, h1, h2, hmk⟩ := id hB
  have hf := blank_fits h1 h2
  unfold setRoomFor
  refine wpAny_bind (wpAny_setState_of ho hd hf ?_)
  dsimp only
  cases hr : t.roomFor n with
  | none =>
    have : n ≤ 7 := by
      unfold SetTable.roomFor SetTable.fill at hr
      rw [h1, h2, hmk, hm] at hr
      split at hr
      · cases hr
      · rename_i hc
        simp at hc
        omega
    exact wpAny_pure (h s.heap mask 3 (.refl ..) hB (by omega) (by rw [hm]))
  | some wanted =>
    have hw : wanted = n * 2 := by
      unfold SetTable.roomFor at hr
      rw [h1] at hr
      split at hr
      · cases hr; simp <;> omega
      · cases hr
    obtain ⟨k, hk⟩ := above_pow wanted
    obtain ⟨hw1, hw2⟩ := above_gt (show wanted ≤ 1000 by omega)
    exact relay0 hB (by omega) fun h' sb B => h h' _ k sb B (by omega) (by rw [← hk]; omega)
theorem copy_ {a : Addr} {S : K → Bool} {n : Nat} {Q : Value → Shared → Prop} (hS : s.heap.SetOf knd a S n) (h0 : 0 < n) (hn : n ≤ 400)
    (h : ∀ h', h'.SetOf knd s.heap.objs.size S n → (∀ c o, s.heap.get? c = some o → h'.get? c = some o) → Q (.ref s.heap.objs.size) { s with heap := h' }) : wpAny (model prog w) A (Builtin.Frozenset.copyOf a) Q E s := by
  obtain ⟨o, es, ep, t, ho, hex, hd, hel, hmem, hb, hf, hsz⟩ := id hS
  unfold Builtin.Frozenset.copyOf
  refine wpAny_bind (wpAny_bind ?_)
  refine wpAny_isInstance hS.typeIs sub_set_self (wpAny_pure ?_)
  simp only [if_true]
  refine wpAny_bind (wpAny_newSet_of (knd := knd) fun led hS0 => ?_)
  refine wpAny_bind (m := Builtin.Frozenset.addrOf (.ref s.heap.objs.size)) (wpAny_pure ?_)
  have up : ∀ c o, s.heap.get? c = some o → (s.heap.push { cls := .type "set", dict := none, data := .set #[] 0 (.fresh 0 0 led) }).get? c = some o := fun c o e => Heap.get?_push_of_some _ e
  have hB : Blank (s.heap.push { cls := .type "set", dict := none, data := .set #[] 0 (.fresh 0 0 led) }) s.heap.objs.size 7 := ⟨_, 0, _, Heap.get?_push_size _ rfl, ⟨rfl, rfl, rfl⟩, rfl, rfl, rfl, rfl⟩
  generalize s.heap.push { cls := .type "set", dict := none, data := .set #[] 0 (.fresh 0 0 led) } = H1 at up hB
  have la : a < s.heap.objs.size := Heap.lt_size ho
  have hne : a ≠ s.heap.objs.size := Nat.ne_of_lt la
  refine wpAny_bind ?_
  unfold setMerge
  rw [if_neg (by simp; exact fun z => hne z.symm)]
  refine wpAny_bind (wpAny_setState_of (s := { s with heap := H1 }) (up _ _ ho) hd hf ?_)
  dsimp only
  rw [if_neg (by simp; intro z; rw [z] at hsz; simp at hsz; omega)]
  refine wpAny_bind (room0 (s := { s with heap := H1 }) hB rfl (by omega) fun h2 m k sb B hnm hm => ?_)
  obtain ⟨o2, ep2, ts, ho2, hex2, hd2, h21, h22, hmk2⟩ := B
  refine wpAny_bind (wpAny_setState_of (s := { s with heap := h2 }) ho2 hd2 (blank_fits h21 h22) ?_)
  dsimp only
  have hfill : (ts.fill != 0) = false := by unfold SetTable.fill; rw [h21, h22]; rfl
  have fin : ∀ es' t', es'.toList.Perm es.toList → t'.fits es.size = true → wpAny (model prog w) A (storeSet s.heap.objs.size es' t') (fun _ s' => wpAny (model prog w) A (pure (.ref s.heap.objs.size)) Q E s') E { s with heap := h2 } := by
    intro es' t' hp hf'
    have hrs : es'.size = es.size := by
      have := hp.length_eq
      rw [Array.length_toList, Array.length_toList] at this
      exact this
    refine wpAny_storeSet_of (s := { s with heap := h2 }) ho2 hd2 ?_ (by rw [hrs]; exact fits_of_scanBound hb)
    have h3 := (SetOf_store (knd := knd) ho2 hex2 hd2 (es' := es') (t' := t') (S' := S) (hel.perm hp) (fun k => (hmem k).trans ⟨fun ⟨x, hx, hk⟩ => ⟨x, hp.mem_iff.mpr hx, hk⟩, fun ⟨x, hx, hk⟩ => ⟨x, hp.mem_iff.mp hx, hk⟩⟩) (by rw [hrs]; exact hb) (by rw [hrs]; exact hf')).2
    rw [hrs, hsz] at h3
    refine wpAny_pure (h _ h3 fun c o e => ?_)
    have hc := Nat.ne_of_lt (Heap.lt_size e)
    exact (Heap.SameBut.update h2 s.heap.objs.size (Obj.putSet es' t')).extBut _ _ hc (sb.extBut _ _ hc (up c o e))
  unfold SetTable.road
  rw [hfill]
  simp only [Bool.false_eq_true, if_false]
  cases hc : (ts.mask == t.mask && t.dummies.isEmpty) with
  | true =>
    simp only [if_true]
    refine wpAny_mono (fin es { t with finger := ts.finger, led := ts.led && t.led, moves := ts.moves, plain := ts.plain && t.plain } (List.Perm.refl _) (by cases t; exact hf)) (fun _ _ q => q) fun _ _ e => e
  | false =>
    simp only [Bool.false_eq_true, if_false]
    obtain ⟨t', order, e, hp, hf', _⟩ := laid_ok (mask := ts.mask) (by rw [hmk2]; exact hm) (f := ts.finger) (m := ts.moves) (l := ts.led && t.led) (p := ts.plain && t.plain) (es.map (·.1)) (by rw [Array.size_map, hmk2]; exact hnm)
    rw [Array.size_map] at hp hf'
    have hr := reord hp
    have hrs : (order.filterMap (es[·]?)).size = es.size := by
      have := hr.length_eq
      rw [Array.length_toList, Array.length_toList] at this
      exact this
    rw [e]
    refine wpAny_bind ?_
    show wpAny _ _ (if ((order.filterMap (es[·]?)).size != es.size) = true then _ else pure (order.filterMap (es[·]?), t')) _ _ _
    rw [if_neg (by rw [hrs]; simp)]
    refine wpAny_pure ?_
    exact fin _ t' hr hf'
end
end GS

namespace GS
open PySem PySem.Spec PyProof.Rows
theorem below_le (xs : Array Nat) (j : Nat) : SetTable.below xs j ≤ xs.size := by
  unfold SetTable.below
  have key : ∀ fuel lo hi, lo ≤ hi → SetTable.below.go xs j fuel lo hi ≤ hi := by
    intro fuel
    induction fuel with
    | zero => intro lo hi h; exact h
    | succ fuel ih =>
      intro lo hi h
      unfold SetTable.below.go
      split
      · dsimp only
        split
        · exact ih _ _ (by omega)
        · exact Nat.le_trans (ih _ _ (by omega)) (by omega)
      · exact h
  exact key _ _ _ (Nat.zero_le _)
theorem erase_size {α : Type} {xs : Array α} {i : Nat} (h : i < xs.size) : (SetTable.eraseAt xs i).size = xs.size - 1 := by
  unfold SetTable.eraseAt
  rw [Array.size_append, Array.size_extract, Array.size_extract]; omega
theorem erase_out {α : Type} {xs : Array α} {i : Nat} (h : xs.size ≤ i) : (SetTable.eraseAt xs i).size = xs.size := by
  unfold SetTable.eraseAt
  rw [Array.size_append, Array.size_extract, Array.size_extract]; omega
theorem erase_mem {α : Type} {xs : Array α} {i : Nat} {x : α} (h : x ∈ (SetTable.eraseAt xs i).toList) : x ∈ xs.toList := by
  unfold SetTable.eraseAt at h
  rw [Array.toList_append] at h
  rcases List.mem_append.mp h with h | h
  · rw [Array.toList_extract] at h
    exact List.mem_of_mem_drop (List.mem_of_mem_take h)
  · rw [Array.toList_extract] at h
    exact List.mem_of_mem_drop (List.mem_of_mem_take h)
theorem insert_size {α : Type} {xs : Array α} {p : Nat} {x : α} (h : p ≤ xs.size) : (SetTable.insertAt xs p x).size = xs.size + 1 := by
  unfold SetTable.insertAt
  rw [Array.size_append, Array.size_push, Array.size_extract, Array.size_extract]; omega
theorem drop_fits {t : SetTable} {n i : Nat} (h : t.fits n = true) (hi : i < n) : (t.drop i).fits (n - 1) = true := by
  unfold SetTable.fits at h ⊢
  obtain ⟨h1, h2⟩ := Bool.and_eq_true _ _ |>.mp h
  have h1' : t.place.size = n := by simpa using h1
  have h2' : t.fill ≤ t.mask := by simpa using h2
  subst h1'
  have hp : t.place[i]? = some t.place[i] := Array.getElem?_eq_getElem hi
  unfold SetTable.drop
  rw [hp]
  unfold SetTable.fill at h2' ⊢
  dsimp only
  rw [erase_size hi, insert_size (below_le _ _)]
  simp; omega
section
variable {prog : Program} {w : World} {K : Type} [DecidableEq K] [BEq K] [LawfulBEq K] {knd : KeyKind prog w K} {A : Around} {E : Value → Shared → Prop} {s : Shared}
theorem discard_ {r : Addr} {T : K → Bool} {m : Nat} {k : K} {x : Value} {Q : Bool → Shared → Prop} (hk : knd.is k x = true) (hsc : x.scannable = true) (hT : s.heap.SetOf knd r T m)
    (h : ∀ b h' T' m', Heap.SameBut r s.heap h' → h'.SetOf knd r T' m' → m - 1 ≤ m' → m' ≤ m → Q b { s with heap := h' }) : wpAny (model prog w) A (setDiscardHashed r x (knd.hash k)) Q E s := by
  unfold setDiscardHashed
  refine wpAny_bind (wpAny_setFind_of (knd := knd) hk hsc hT fun f hf => ?_)
  cases f with
  | none => exact wpAny_pure (h false s.heap T m (.refl ..) hT (by omega) (Nat.le_refl _))
  | some i =>
    obtain ⟨o, es, ep, t, ho, hex, hd, hel, hmem, hb, hft, hsz⟩ := id hT
    dsimp only
    refine wpAny_bind (wpAny_setState_of ho hd hft ?_)
    dsimp only
    have hes : (SetTable.eraseAt es i).size = es.size - 1 ∧ (t.drop i).fits (es.size - 1) = true ∨ (SetTable.eraseAt es i).size = es.size ∧ (t.drop i).fits es.size = true := by
      by_cases hi : i < es.size
      · exact .inl ⟨erase_size hi, drop_fits hft hi⟩
      · refine .inr ⟨erase_out (by omega), ?_⟩
        have hp : t.place[i]? = none := by
          unfold SetTable.fits at hft
          have : t.place.size = es.size := by simpa using (Bool.and_eq_true _ _ |>.mp hft).1
          exact Array.getElem?_eq_none (by omega)
        unfold SetTable.drop
        rw [hp]; exact hft
    have hle : (SetTable.eraseAt es i).size ≤ es.size := by rcases hes with ⟨e, _⟩ | ⟨e, _⟩ <;> omega
    have hge : es.size - 1 ≤ (SetTable.eraseAt es i).size := by rcases hes with ⟨e, _⟩ | ⟨e, _⟩ <;> omega
    have hfit : (t.drop i).fits (SetTable.eraseAt es i).size = true := by rcases hes with ⟨e, f⟩ | ⟨e, f⟩ <;> rw [e] <;> exact f
    refine wpAny_bind (wpAny_storeSet_of ho hd ?_ (Nat.le_trans hle (fits_of_scanBound hb)))
    have h2 := (SetOf_store (knd := knd) ho hex hd (es' := SetTable.eraseAt es i) (t' := t.drop i) (S' := fun k => (SetTable.eraseAt es i).toList.any fun e => knd.is k e.2) (fun e he => hel e (erase_mem he)) (fun k => by rw [List.any_eq_true]) (by omega) hfit).2
    refine wpAny_bind (wpAny_point (wpAny_pure (h true _ _ _ (Heap.SameBut.update ..) h2 (by omega) (by omega))))
theorem tidy_ {r : Addr} {T : K → Bool} {m : Nat} {Q : Unit → Shared → Prop} (hT : s.heap.SetOf knd r T m) (hm : m ≤ 250)
    (h : ∀ h', Heap.SameBut r s.heap h' → h'.SetOf knd r T m → Q () { s with heap := h' }) : wpAny (model prog w) A (setTidy r) Q E s := by
  obtain ⟨o, es, ep, t, ho, hex, hd, hel, hmem, hb, hft, hsz⟩ := id hT
  unfold setTidy
  refine wpAny_bind (wpAny_setState_of ho hd hft ?_)
  dsimp only
  split
  · have hg : SetTable.grown es.size = es.size * 4 := by unfold SetTable.grown; rw [if_neg (by omega)]
    rw [hg]
    exact relay_ hT (by omega) (by omega) h
  · exact wpAny_pure (h s.heap (.refl ..) hT)
theorem walkUnseen3 {a b : Addr} {S S' : K → Bool} {n n' : Nat} {o : Obj} {es : Array (Int × Value)} {ep : Nat} {t : SetTable} {Q : Array (Int × Value) → Shared → Prop}
    (ho : s.heap.get? a = some o) (hd : o.data = .set es ep t) (hf : t.fits es.size = true) (ha : s.heap.SetOf knd a S n) (hb : s.heap.SetOf knd b S' n')
    (h : ∀ (es' : Array (Int × Value)), es'.toList.Perm es.toList → Q es' s) : wpAny (model prog w) A (setWalkUnseen a [b] none) Q E s := by
  unfold setWalkUnseen setsByText
  refine wpAny_bind (wpAny_setState_of ho hd hf ?_)
  dsimp only
  refine wpAny_bind (wpAny_bind (wpAny_askSetting (wpAny_pure ?_)))
  dsimp only
  show wpAny _ _ (if (Params.followText w.params "set-order" || (t.led && t.plain) || decide (es.size ≤ 1)) = true then _ else _) _ _ _
  cases hc : (Params.followText w.params "set-order" || (t.led && t.plain) || decide (es.size ≤ 1)) with
  | true =>
    rw [if_pos rfl]
    exact wpAny_mono (setWalk2 ho hd hf hc fun es' he => h es' he) (fun _ _ q => q) fun _ _ e => e
  | false =>
    rw [if_neg Bool.false_ne_true]
    refine wpAny_bind (setsQuiet_true (knd := knd) [a, b] (fun c hc => ?_) ?_)
    · simp at hc
      rcases hc with rfl | rfl
      · exact ⟨_, _, ha⟩
      · exact ⟨_, _, hb⟩
    · simp only [Bool.not_true, Bool.false_eq_true, if_false]
      refine wpAny_bind (wpAny_rule ?_)
      exact wpAny_pure (h es (List.Perm.refl _))
end
section
variable {prog : Program} {w : World} {A : Around} {E : Value → Shared → Prop} {s : Shared}
set_option maxHeartbeats 400000 in
theorem sub_far {a b : Addr} {S S' : Str → Bool} {n n' : Nat} {Q : Value → Shared → Prop} (ha : s.heap.SetOf (strKind prog w) a S n) (hb : s.heap.SetOf (strKind prog w) b S' n') (hn : n' < n / 4) (hz : n ≤ 250)
    (h : ∀ h' T m, 0 < m → h'.SetOf (strKind prog w) s.heap.objs.size T m → (∀ c o, s.heap.get? c = some o → h'.get? c = some o) → Q (.ref s.heap.objs.size) { s with heap := h' }) :
    wpAny (model prog w) A (binaryOp .Sub (.ref a) (.ref b)) Q E s := by
  refine wpAny_binaryOp_same (T := "set") ha.typeIs hb.typeIs PySem.F.fills_set_sub PySem.F.slot_set_sub ?_
  refine wpAny_call_entry PySem.F.slot_set_sub ha.typeIs FB.entry_set_sub ?_ (PySem.F.args_set_sub_2 _ _)
  have t1 := ha.typeIs
  have t2 := hb.typeIs
  show wpAny _ _ (Builtin.Frozenset.slot1 "__sub__" ⟨[.ref a, .ref b], []⟩ >>= _) _ _ _
  refine wpAny_bind (m := Builtin.Frozenset.slot1 "__sub__" ⟨[.ref a, .ref b], []⟩) (wpAny_pure ?_)
  show wpAny _ _ ((Builtin.Frozenset.isAnySet (.ref a) <&&> Builtin.Frozenset.isAnySet (.ref b)) >>= _) _ _ _
  refine wpAny_bind (wpAny_bind (isAny t1 ?_))
  show wpAny _ _ (Builtin.Frozenset.isAnySet (.ref b)) _ _ _
  refine isAny t2 ?_
  simp only [Bool.not_true, Bool.false_eq_true, if_false]
  refine wpAny_bind (m := Builtin.Frozenset.addrOf (.ref a)) (wpAny_pure ?_)
  refine wpAny_bind ?_
  unfold Builtin.Frozenset.difference
  refine wpAny_bind (isAny t2 ?_)
  simp only [Bool.not_true, Bool.false_eq_true, if_false, Bool.false_and, if_true]
  refine wpAny_bind (m := Builtin.Frozenset.addrOf (.ref b)) (wpAny_pure ?_)
  obtain ⟨oa, ea, epa, ta, hoa, hexa, hda, hela, hma, hba, hfa, hna⟩ := id ha
  obtain ⟨ob, eb, epb, tb, hob, hexb, hdb, helb, hmb, hbb, hfb, hnb⟩ := id hb
  unfold Builtin.Frozenset.sizeOf
  refine wpAny_bind (wpAny_bind (wpAny_setEntries_of hob hdb hfb (wpAny_pure ?_)))
  refine wpAny_bind (wpAny_bind (wpAny_setEntries_of hoa hda hfa (wpAny_pure ?_)))
  rw [if_pos (by rw [hna, hnb]; omega)]
  refine wpAny_bind (wpAny_rule ?_)
  refine wpAny_bind (copy_ ha (by omega) (by omega) fun h1 hS1 k1 => ?_)
  refine wpAny_bind (m := Builtin.Frozenset.addrOf (.ref s.heap.objs.size)) (wpAny_pure ?_)
  refine wpAny_bind (wpAny_holding ?_)
  have lb : b < s.heap.objs.size := Heap.lt_size hob
  have hb1 : h1.SetOf (strKind prog w) b S' n' := ⟨ob, eb, epb, tb, k1 _ _ hob, hexb, hdb, helb, hmb, hbb, hfb, hnb⟩
  have t2' : Shared.TypeIs { s with heap := h1 } (.ref b) "set" := hb1.typeIs
  unfold Builtin.Frozenset.differenceUpdate
  rw [if_neg (by simp; exact Nat.ne_of_lt lb)]
  refine wpAny_bind (isAny t2' ?_)
  simp only [if_true]
  refine wpAny_bind (m := Builtin.Frozenset.addrOf (.ref b)) (wpAny_pure ?_)
  unfold Builtin.Frozenset.sizeOf
  obtain ⟨o1, e1, ep1, tt1, ho1, hex1, hd1, hel1, hm1, hbb1, hf1, hn1⟩ := id hS1
  refine wpAny_bind (wpAny_bind (wpAny_setEntries_of (s := { s with heap := h1 }) (k1 _ _ hob) hdb hfb (wpAny_pure ?_)))
  refine wpAny_bind (wpAny_bind (wpAny_setEntries_of (s := { s with heap := h1 }) ho1 hd1 hf1 (wpAny_pure ?_)))
  rw [if_neg (by rw [hn1, hnb]; omega)]
  refine wpAny_bind (wpAny_setEpoch_of (s := { s with heap := h1 }) (k1 _ _ hob) hdb hfb ?_)
  refine wpAny_bind (wpAny_holding (wpAny_bind (walkUnseen3 (s := { s with heap := h1 }) (k1 _ _ hob) hdb hfb hb1 hS1 fun es' hperm => ?_)))
  have hlen : es'.toList.length = eb.size := by rw [hperm.length_eq, Array.length_toList]
  refine wpAny_bind (PySem.MeetsSeq2.wpAny_forIn_array _ (fun rest _ s' => (∀ e ∈ rest, e ∈ eb.toList) ∧ ∃ (h2 : Heap) (T : Str → Bool) (m : Nat), s' = { s with heap := h2 } ∧ (∀ c o, s.heap.get? c = some o → h2.get? c = some o) ∧ h2.SetOf (strKind prog w) s.heap.objs.size T m ∧ n ≤ m + (eb.size - rest.length) ∧ rest.length ≤ eb.size ∧ m ≤ n) _ ?_ ?_ es' _ ⟨fun e he => hperm.mem_iff.mp he, h1, _, _, rfl, k1, hS1, by omega, by omega, Nat.le_refl _⟩)
  · rintro ⟨hx, x⟩ rest _ s' ⟨hm, h2, T, m, rfl, k2, hT, hsz, hr, hmn⟩
    have hin := hm _ List.mem_cons_self
    obtain ⟨⟨k, hk, hh⟩, hsc⟩ := helb _ hin
    have hh' : hx = (strKind prog w).hash k := hh
    rw [List.length_cons] at hsz hr
    show wpAny _ _ (holding [x] (setDiscardHashed s.heap.objs.size x hx) >>= _) _ _ _
    rw [hh']
    refine wpAny_bind (wpAny_holding (discard_ (knd := strKind prog w) (s := { s with heap := h2 }) hk hsc hT fun b' h3 T' m' sb hT' l1 l2 => ?_))
    have k3 : ∀ c o, s.heap.get? c = some o → h3.get? c = some o := fun c o e => sb.extBut _ _ (Nat.ne_of_lt (Heap.lt_size e)) (k2 c o e)
    unfold Builtin.Frozenset.unchanged
    refine wpAny_bind (wpAny_bind (wpAny_setEpoch_of (s := { s with heap := h3 }) (k3 _ _ hob) hdb hfb ?_))
    simp only [bne_self_eq_false, Bool.false_eq_true, if_false]
    exact wpAny_pure (wpAny_pure ⟨fun e he => hm e (List.mem_cons_of_mem _ he), h3, T', m', rfl, k3, hT', by omega, by omega, by omega⟩)
  · rintro r s' ⟨_, h2, T, m, rfl, k2, hT, hsz, _, hmn⟩
    refine wpAny_pure ?_
    rw [List.length_nil] at hsz
    refine tidy_ (s := { s with heap := h2 }) hT (by omega) fun h3 sb hT3 => ?_
    exact wpAny_pure (wpAny_pure ⟨_, rfl, (fun z => nomatch z), h h3 T m (by omega) hT3 fun c o e => sb.extBut _ _ (Nat.ne_of_lt (Heap.lt_size e)) (k2 c o e)⟩)
end
end GS

namespace L2
open PySem PySem.Spec PyProof.Rows GT
section
variable {X : Cx}
noncomputable def rStepS : V → Option Int → Option Int → Option Int → Hp → VK → Prop := fun x _ _ st H Q => Ex2 fun (z : List Nat) (k : Int) => x = .str (tx z) ∧ (tx z).length ≤ sizeLine ∧ st = some k ∧ k ≠ 0 ∧ ∀ y : List Nat, y.length ≤ z.length → (∀ c ∈ y, c ∈ z) → Q (.str (tx y)) H
noncomputable def tStepS (te : TE) (tl th ts : TO) : TE := fun σ H Q => te σ H fun x H1 => tl σ H1 fun l H2 => th σ H2 fun u H3 => ts σ H3 fun st H4 => rStepS x l u st H4 Q
theorem tx_list (s : Str) : tx s.cps.toList = s := by
  cases s; show Str.mk _ = _; simp
end
end L2

namespace L2
open PySem PySem.Spec PyProof.Rows GT Builtin Builtin.Str
section
variable {X : Cx}
theorem replace_le (x y z : Str) : (Txt.replace x y z).length ≤ x.length + (x.length + 1) * z.length := by
  unfold Txt.replace
  split
  · exact Nat.le_add_right _ _
  · have h1 := StrLaws.occ_length_le x y 0 x.length (x.length + 1)
    have hy : (glued y (partsBetween x (occurrences x y 0 x.length (x.length + 1)) y.length)).length = x.length := by rw [StrLaws.glued_between_self]
    rw [size_glued, length_partsBetween, Nat.add_sub_cancel] at hy
    rw [size_glued, length_partsBetween, Nat.add_sub_cancel]
    have h2 : (occurrences x y 0 x.length (x.length + 1)).length * z.length ≤ (x.length + 1) * z.length := Nat.mul_le_mul_right _ h1
    omega
end
end L2

namespace GK
open PySem
theorem runs_toks {M : Model} {Γ : Ctx} {p : Pos} {t : Sem PySem.Fin} {fs : List Frame} {s : Shared} {e : End} {s' : Shared} (h : Runs M Γ p t fs s e s') : s.toks ≤ s'.toks := by
  induction h
  all_goals first
    | exact Nat.le_refl _
    | assumption
    | (rename_i ih; exact Nat.le_trans (Nat.le_succ _) ih)
    | (rename_i ih1 ih2; exact Nat.le_trans ih1 ih2)
    | (rename_i ih1 _ ih2; exact Nat.le_trans ih1 ih2)
    | (rename_i ih1 _ _ ih2; exact Nat.le_trans ih1 ih2)
    | (rename_i ih1 ih2 _ ; exact Nat.le_trans ih1 ih2)
theorem wakes_toks {M : Model} {Γ : Ctx} {p : Pos} {g : Nat} {r : Resume} {s : Shared} {res : GenResult} {s' : Shared} (h : Wakes M Γ p g r s res s') : s.toks ≤ s'.toks := by
  unfold Wakes at h
  split at h
  · exact h.elim
  · split at h
    · obtain ⟨e, s1, h1, _, _, rfl⟩ := h
      have := runs_toks h1
      exact this
    · obtain ⟨_, rfl⟩ := h; exact Nat.le_refl _
    · obtain ⟨_, rfl⟩ := h; exact Nat.le_refl _
  · obtain ⟨e, s1, h1, _, _, rfl⟩ := h
    have := runs_toks h1
    exact this
  · obtain ⟨_, rfl⟩ := h; exact Nat.le_refl _
  · obtain ⟨_, rfl⟩ := h; exact Nat.le_refl _
theorem wp_toks {α : Type} {M : Model} {Γ : Ctx} {Q : α → Pos → Shared → Prop} {E : Value → Pos → Shared → Prop} {n : Nat} (t : Sem α) : ∀ (p : Pos) (s : Shared), n ≤ s.toks → Sem.wp M Γ t Q E p s → Sem.wp M Γ t (fun a p' s' => Q a p' s' ∧ n ≤ s'.toks) (fun e p' s' => E e p' s' ∧ n ≤ s'.toks) p s := by
  induction t with
  | pure a => intro p s hn h; rw [Sem.wp] at h ⊢; exact ⟨h, hn⟩
  | «raise» e => intro p s hn h; rw [Sem.wp] at h ⊢; exact ⟨h, hn⟩
  | unsupported => intro p s hn h; rw [Sem.wp] at h; exact h.elim
  | finish => intro p s hn h; rw [Sem.wp] at h; exact h.elim
  | rule x k ih => intro p s hn h; rw [Sem.wp] at h ⊢; exact ih _ _ _ hn h
  | «at» x k ih => intro p s hn h; rw [Sem.wp] at h ⊢; exact ih _ _ _ hn h
  | load a x k ih => intro p s hn h; rw [Sem.wp] at h ⊢; obtain ⟨o, h1, h2⟩ := h; exact ⟨o, h1, ih _ _ _ hn h2⟩
  | update a x f k ih => intro p s hn h; rw [Sem.wp] at h ⊢; exact ⟨h.1, ih _ _ _ hn h.2⟩
  | loadIfAlive a k ih => intro p s hn h; rw [Sem.wp] at h ⊢; exact ih _ _ _ hn h
  | point x k ih => intro p s hn h; rw [Sem.wp] at h ⊢; exact ih _ _ _ hn h
  | register => intro p s hn h; rw [Sem.wp] at h; exact h.elim
  | alloc o k ih => intro p s hn h; rw [Sem.wp] at h ⊢; exact ih _ _ _ hn h
  | fresh k ih => intro p s hn h; rw [Sem.wp] at h ⊢; exact ih _ _ _ (Nat.le_succ_of_le hn) h
  | ask k ih => intro p s hn h; rw [Sem.wp] at h ⊢; exact ih _ _ _ hn h
  | choose src m k ih => intro p s hn h; rw [Sem.wp] at h ⊢; exact ⟨h.1, ih _ _ _ hn h.2⟩
  | os q x k ih => intro p s hn h; rw [Sem.wp] at h ⊢; exact ih _ _ _ hn h
  | call c h0 x y k ih => intro p s hn h; rw [Sem.wp] at h ⊢; obtain ⟨r, s', h1, h2⟩ := h; exact ⟨r, s', h1, ih _ _ _ (Nat.le_trans hn (runs_toks h1)) h2⟩
  | handled own k ih => intro p s hn h; rw [Sem.wp] at h ⊢; exact ih _ _ _ hn h
  | genState g k ih => intro p s hn h; rw [Sem.wp] at h ⊢; obtain ⟨st, h1, h2⟩ := h; exact ⟨st, h1, ih _ _ _ hn h2⟩
  | newGen c k ih => intro p s hn h; rw [Sem.wp] at h ⊢; exact ih _ _ _ hn h
  | resume g r x k ih => intro p s hn h; rw [Sem.wp] at h ⊢; obtain ⟨res, s', h1, h2⟩ := h; exact ⟨res, s', h1, ih _ _ _ (Nat.le_trans hn (wakes_toks h1)) h2⟩
  | yield => intro p s hn h; rw [Sem.wp] at h; exact h.elim
  | stack k ih => intro p s hn h; rw [Sem.wp] at h ⊢; exact ih _ _ _ hn h
  | fork => intro p s hn h; rw [Sem.wp] at h; exact h.elim
  | thread k ih => intro p s hn h; rw [Sem.wp] at h ⊢; exact ih _ _ _ hn h
  | await => intro p s hn h; rw [Sem.wp] at h; exact h.elim
theorem wpAny_toks {α : Type} {M : Model} {A : Around} {t : Sem α} {Q : α → Shared → Prop} {E : Value → Shared → Prop} {s : Shared} (h : wpAny M A t Q E s) : wpAny M A t (fun a s' => Q a s' ∧ s.toks ≤ s'.toks) E s := by
  intro Γ p hG
  have := wp_toks t p s (Nat.le_refl _) (h Γ p hG)
  exact Sem.wp_mono M Γ t (fun a p' s' x => x) (fun e p' s' x => x.1) _ _ this
end GK

namespace L2
open PySem PySem.Spec PyProof.Rows GT Builtin Builtin.Str
noncomputable abbrev Cx.nzd (X : Cx) (f : Str → Bool) : Cx := { X with nz := f }
theorem Cx.Ok.nzd {X : Cx} (ok : X.Ok) (f : Str → Bool) : (X.nzd f).Ok :=
  ⟨ok.mod, ok.kind, ok.glob, ok.blt, ok.above, ok.inj, ok.has, ok.cab, ok.hd, ok.frames, ok.stk, ok.exf, ok.bs, ok.bsz, ok.noex, ok.exfs, ok.funs, ok.frf⟩
theorem Cx.Ok.unnz {X : Cx} {f : Str → Bool} (ok : (X.nzd f).Ok) : X.Ok :=
  ⟨ok.mod, ok.kind, ok.glob, ok.blt, ok.above, ok.inj, ok.has, ok.cab, ok.hd, ok.frames, ok.stk, ok.exf, ok.bs, ok.bsz, ok.noex, ok.exfs, ok.funs, ok.frf⟩
section
variable {X : Cx} {pins : List (Addr × Obj)} {σ : St} {H : Hp} {s : Shared} {f : Str → Bool}
theorem Inv.nzOn (I : Inv X pins σ H s) (h0 : ∀ (i : Nat) (x : Str), X.N[i]? = some x → f x = true → σ[i]? = some none) : Inv (X.nzd f) pins σ H s := by
  refine ⟨I.ok.nzd f, I.os, I.bare, I.base, ?_, I.cell, I.free, I.freeC, I.pin, I.hok, I.len⟩
  obtain ⟨m, hn, hl⟩ := I.loc
  refine ⟨m, hn, fun i x v e1 e2 e3 => ?_⟩
  obtain ⟨u, r, l⟩ := hl i x v e1 e2 e3
  refine ⟨u, ⟨r.1, fun hx => ?_⟩, l⟩
  rw [h0 i x e1 hx] at e2; cases e2
theorem Inv.nzOff (I : Inv (X.nzd f) pins σ H s) (hz : ∀ x, X.nz x = false) : Inv X pins σ H s := by
  refine ⟨I.ok.unnz, I.os, I.bare, I.base, ?_, I.cell, I.free, I.freeC, I.pin, I.hok, I.len⟩
  obtain ⟨m, hn, hl⟩ := I.loc
  refine ⟨m, hn, fun i x v e1 e2 e3 => ?_⟩
  obtain ⟨u, r, l⟩ := hl i x v e1 e2 e3
  exact ⟨u, ⟨r.1, fun hx => by rw [hz x] at hx; cases hx⟩, l⟩
noncomputable def tNz (N : List Str) (f : Str → Bool) (t : TS) : TS := fun D σ H => (∀ (i : Nat) (x : Str), N[i]? = some x → f x = true → σ[i]? = some none) ∧ t D σ H
theorem pss_nz {l : List Stmt} {t : TS} (h : PSs (X.nzd f) l t) (hz : ∀ x, X.nz x = false := by intro _; rfl) : PSs X l (tNz X.N f t) := by
  intro pins s σ H D I ⟨h0, ht⟩
  refine thn (h pins s σ H D (I.nzOn h0) ht) fun fl s1 q => ?_
  cases fl with
  | next => obtain ⟨σ', H', I', q⟩ := q; exact ⟨σ', H', I'.nzOff hz, q⟩
  | brk => obtain ⟨σ', H', I', q⟩ := q; exact ⟨σ', H', I'.nzOff hz, q⟩
  | cont => obtain ⟨σ', H', I', q⟩ := q; exact ⟨σ', H', I'.nzOff hz, q⟩
  | ret u => obtain ⟨v, σ', H', I', r, q⟩ := q; exact ⟨v, σ', H', I'.nzOff hz, r, q⟩
noncomputable def PEt (X : Cx) (e : Expr) (t : TE) : Prop :=
  ∀ (pins : List (Addr × Obj)) (s : Shared) (σ : St) (H : Hp) (Q : VK), Inv X pins σ H s → t σ H Q → wpAny (model X.prog X.w) X.A (eval e X.env) (fun v s' => EP X pins σ Q v s' ∧ s'.toks ≠ 0) X.xe s
theorem keepT {α : Type} {t : Sem α} {Q : α → Shared → Prop} {M : Model} {A : Around} {E : Value → Shared → Prop} (h : wpAny M A t Q E s) (ht : s.toks ≠ 0) : wpAny M A t (fun a s' => Q a s' ∧ s'.toks ≠ 0) E s :=
  thn (GK.wpAny_toks h) fun a s' q => ⟨q.1, by have := q.2; omega⟩
theorem pet_int {i j pos} : PEt X (.Constant (.int i) j pos) (tC (.int i)) := fun _ _ _ H _ I h => wpAny_Constant_int ⟨⟨.int i, H, I.tok _, ⟨_, rfl⟩, h⟩, Nat.succ_ne_zero _⟩
theorem pet_opr {a b : Expr} {ta tb : TE} {pos : Pos} {op : Operator} {r : R2} (ho : OpR X (binaryOp op) r) (ha : PE X a ta) (hb : PEt X b tb) : PEt X (.BinOp a op b pos) (tOp r ta tb) := by
  intro pins s σ H Q I h
  refine wpAny_BinOp (thn (ha pins s σ H _ I h) fun v s1 ⟨x, H1, I1, r1, q1⟩ => thn (hb pins s1 σ H1 _ I1 q1) fun u s2 ⟨⟨y, H2, I2, r2, q2⟩, ht⟩ => ?_)
  exact keepT (ho pins s2 σ H2 x y v u Q I2 r1 r2 q2) ht
theorem pet_opl {a b : Expr} {ta tb : TE} {pos : Pos} {op : Operator} {r : R2} (ho : OpR X (binaryOp op) r) (ha : PEt X a ta) (hb : PE X b tb) : PEt X (.BinOp a op b pos) (tOp r ta tb) := by
  intro pins s σ H Q I h
  refine wpAny_BinOp (thn (ha pins s σ H _ I h) fun v s1 ⟨⟨x, H1, I1, r1, q1⟩, ht⟩ => thn (keepT (hb pins s1 σ H1 _ I1 q1) ht) fun u s2 ⟨⟨y, H2, I2, r2, q2⟩, ht2⟩ => ?_)
  exact keepT (ho pins s2 σ H2 x y v u Q I2 r1 r2 q2) ht2
noncomputable def PEz (X : Cx) (e : Expr) (t : TE) : Prop :=
  ∀ (pins : List (Addr × Obj)) (s : Shared) (σ : St) (H : Hp) (Q : VK), Inv X pins σ H s → t σ H Q → wpAny (model X.prog X.w) X.A (eval e X.env) (fun v s' => EP X pins σ Q v s' ∧ Nz v) X.xe s
theorem pez_ix {a b : Expr} {ta tb : TE} {pos : Pos} (ha : PE X a ta) (hb : PEt X b tb) (hs : PlainIx b) : PEz X (.Subscript a b pos) (tOp rIxS ta tb) := by
  intro pins s σ H Q I h
  refine Subscript_ (thn (ha pins s σ H _ I h) fun v s1 ⟨x, H1, I1, r1, q1⟩ => thn (hb pins s1 σ H1 _ I1 q1) fun u s2 ⟨⟨y, H2, I2, r2, q2⟩, ht⟩ => ?_)
  obtain ⟨z, i, c, rfl, rfl, hz, he, q⟩ := q2
  obtain ⟨t, rfl⟩ := r1
  obtain ⟨t', rfl⟩ := r2
  obtain ⟨j, h1, h2, h3, h4, h5⟩ := atI_get he
  have hl : z.cps.toList.length = z.length := by simp [Str.length]
  rw [hl] at h1 h4 h5
  have hn := line63
  exact tail_any (typeIs_str s2 z t) PySem.F.slot_str_getitem.lookup (getItem_str (c := c) (by
    have e1 : decide (i < -(2 ^ 63 : Int)) = false := decide_eq_false (by omega)
    have e2 : decide (i ≥ 2 ^ 63) = false := decide_eq_false (by omega)
    rw [e1, e2, Bool.or_false]) (by rw [h1]; simpa using h2) ⟨⟨.str ⟨#[c]⟩, H2, I2.tok _, ⟨_, rfl⟩, q⟩, fun z t e => by cases e; exact ht⟩) (hs _ _)
theorem ps_setZ {i : Nat} {x : Str} {e : Expr} {te : TE} {pos' pos : Pos} (hN : X.N.Nodup) (hi : X.N[i]? = some x) (hx : Loc X.env.scope x) (he : PEz X e te) (hs : swapsWith e (some (.Name x pos')) pos.line X.env = pure false := by rfl)
    (hf : X.fn x = true ∨ X.env.scope.names.lookup x = some .local := by first | exact .inl rfl | exact .inr rfl | assumption) : PS X (.Assign [.Name x pos'] e pos) (tAsg te (gName i)) := by
  intro pins s σ H D I h
  refine wpAny_Assign_Name (thn (he pins s σ H _ I h) fun v s1 ⟨⟨y, H1, I1, r1, q1⟩, hz⟩ => ?_) hs
  exact store_ok2 I1 hN hi hx r1 (fun s2 I2 _ => ⟨_, H1, I2, q1⟩) hf (fun _ => hz)
end
end L2

namespace L2
open PySem PySem.Spec PyProof.Rows GT Builtin Builtin.Str
theorem gives_replace_same (x y z : Str) (t u : Tok) (hu : u ≠ 0) : Gives («str.replace» ⟨[.str x t, .str y u, .str z u], []⟩) (.val (.str x t)) := by
  show Gives (if ((occurrences x y 0 x.length (x.length + 1)).isEmpty || (y.length == 0 && z.length == 0)) = true then (do rule "str.replace.nothing"; ret (.str x t)) else
          (do let same ← isSame (.str y u) (.str z u)
              if same = true then (do rule "str.replace.old-is-new"; ret (.str x t)) else
              if tooLong (x.length + (occurrences x y 0 x.length (x.length + 1)).length * z.length) = true then unsupported "str.replace:memory" else
              retStr (glued z (partsBetween x (occurrences x y 0 x.length (x.length + 1)) y.length)))) _
  cases hc : ((occurrences x y 0 x.length (x.length + 1)).isEmpty || (y.length == 0 && z.length == 0))
  · have e : isSame (.str y u) (.str z u) = pure true := by
      show (if (u == 0 || u == 0) = true then _ else if (u == u) = true then pure true else _ : Sem Bool) = _
      rw [show (u == 0 || u == 0) = false by simp [hu], show (u == u) = true by simp]
      rfl
    rw [e]
    exact .rule (.of_eq rfl)
  · exact .rule (.of_eq rfl)
section
variable {X : Cx}
noncomputable def PEn (X : Cx) (e : Expr) (t : TE) : Prop :=
  ∀ (pins : List (Addr × Obj)) (s : Shared) (σ : St) (H : Hp) (Q : VK), Inv X pins σ H s → s.toks ≠ 0 → t σ H Q → wpAny (model X.prog X.w) X.A (eval e X.env) (EP X pins σ Q) X.xe s
theorem PE.n {e : Expr} {t : TE} (h : PE X e t) : PEn X e t := fun pins s σ H Q I _ q => h pins s σ H Q I q
noncomputable def PAn (X : Cx) (es : List Expr) (t : TA) : Prop :=
  ∀ (pos : Pos) (pins : List (Addr × Obj)) (s : Shared) (σ : St) (H : Hp) (Q : List V → Hp → Prop), Inv X pins σ H s → s.toks ≠ 0 → t σ H Q → wpAny (model X.prog X.w) X.A (spliced (backTo pos (starEach es X.env))) (AP X pins σ Q) X.xe s
theorem PA.n {es : List Expr} {t : TA} (h : PA X es t) : PAn X es t := fun pos pins s σ H Q I _ q => h pos pins s σ H Q I q
theorem pan_cons {e : Expr} {es : List Expr} {te : TE} {t : TA} (ha : PEn X e te) (hr : PAn X es t) (hs : starEach (e :: es) X.env = (false, eval e X.env) :: starEach es X.env := by rfl) : PAn X (e :: es) (tCons te t) := by
  intro pos pins s σ H Q I ht h
  rw [hs]
  show wpAny _ _ (spliced ((false, eval e X.env) :: backTo pos (starEach es X.env))) _ _ s
  refine Calls.spliced_cons (thn (keepT (ha pins s σ H _ I ht h) ht) fun u s1 ⟨⟨x, H1, I1, r1, q1⟩, ht1⟩ => ?_)
  exact thn (hr pos pins s1 σ H1 _ I1 ht1 q1) fun us s2 ⟨xs, H2, I2, r2, q2⟩ => ⟨x :: xs, H2, I2, .cons r1 r2, q2⟩
theorem pa_consT {e : Expr} {es : List Expr} {te : TE} {t : TA} (ha : PEt X e te) (hr : PAn X es t) (hs : starEach (e :: es) X.env = (false, eval e X.env) :: starEach es X.env := by rfl) : PA X (e :: es) (tCons te t) := by
  intro pos pins s σ H Q I h
  rw [hs]
  show wpAny _ _ (spliced ((false, eval e X.env) :: backTo pos (starEach es X.env))) _ _ s
  refine Calls.spliced_cons (thn (ha pins s σ H _ I h) fun u s1 ⟨⟨x, H1, I1, r1, q1⟩, ht1⟩ => ?_)
  exact thn (hr pos pins s1 σ H1 _ I1 ht1 q1) fun us s2 ⟨xs, H2, I2, r2, q2⟩ => ⟨x :: xs, H2, I2, .cons r1 r2, q2⟩
theorem pet_un {a : Expr} {ta : TE} {pos : Pos} {op : UnaryOp} {r : V → Hp → VK → Prop} (ho : UnR X (unaryOp op) r) (ha : PEt X a ta) : PEt X (.UnaryOp op a pos) (tUn r ta) := by
  intro pins s σ H Q I h
  exact UnaryOp_ (thn (ha pins s σ H _ I h) fun v s1 ⟨⟨x, H1, I1, r1, q1⟩, ht⟩ => keepT (ho pins s1 σ H1 x v Q I1 r1 q1) ht)
theorem pet_stepS {e st : Expr} {te ts : TE} {pos p2 : Pos} (he : PE X e te) (hst : PEt X st ts) : PEt X (.Subscript e (.Slice none none (some st) p2) pos) (tStepS te tNoPart tNoPart (tPart ts)) := by
  intro pins s σ H Q I h
  refine Subscript_ (thn (he pins s σ H _ I h) fun v s1 ⟨x, H1, I1, r1, q1⟩ => ?_)
  refine wpAny_Slice (thn (po_none pins s1 σ H1 _ I1 q1) fun vl s2 ⟨l, H2, I2, pl, q2⟩ => thn (po_none pins s2 σ H2 _ I2 q2) fun vu s3 ⟨u, H3, I3, pu, q3⟩ => ?_)
  rw [evalPart_some]
  refine thn (hst pins s3 σ H3 _ I3 q3) fun vs s4 ⟨⟨xs, H4, I4, r4, q4⟩, ht⟩ => ?_
  obtain ⟨k0, rfl, q4⟩ := q4
  obtain ⟨t3, rfl⟩ := r4
  refine keepT ?_ (show Shared.toks { s4 with heap := s4.heap.push { cls := .type "slice", data := .fields #[vl, vu, .int k0 t3] } } ≠ 0 from ht)
  have I5 : Inv X pins σ H4 { s4 with heap := s4.heap.push { cls := .type "slice", data := .fields #[vl, vu, .int k0 t3] } } := I4.kept (t' := s4.toks) fun b ob q => Heap.get?_push_of_some _ q
  obtain ⟨z, k, rfl, hz, ek, hk, q⟩ := q4
  cases ek
  obtain ⟨t, rfl⟩ := r1
  have key : ∃ (l' u' : Option (Int × Tok)), vl = partValue l' ∧ vu = partValue u' := by
    cases pl with
    | none => cases pu with
      | none => exact ⟨none, none, rfl, rfl⟩
      | int j t2 => exact ⟨none, some (j, t2), rfl, rfl⟩
    | int i t1 => cases pu with
      | none => exact ⟨some (i, t1), none, rfl, rfl⟩
      | int j t2 => exact ⟨some (i, t1), some (j, t2), rfl, rfl⟩
  obtain ⟨l', u', rfl, rfl⟩ := key
  refine tail_any (ops := [.ref s4.heap.objs.size, .str (tx z) t]) (typeIs_str _ (tx z) t) PySem.F.slot_str_getitem.lookup (wpAny_getItem_str_slice (l := l') (u := u') (st := some (k0, t3)) (Heap.IsSliceOf.new ..) (by simpa using hk) ?_) (by with_unfolding_all rfl)
  have hsz := Txt.sliceBy_le (tx z) l' u' (k0, t3) hk
  have hmem : ∀ c ∈ (Txt.sliceBy (tx z) l' u' (k0, t3)).cps.toList, c ∈ z := by
    intro c hc
    unfold Txt.sliceBy at hc
    split at hc
    · exact hc
    · have hc' : c ∈ (slicePicked (tx z) l' u' (some (k0, t3))).filterMap ((tx z).cps[·]?) := by simpa using hc
      obtain ⟨i, _, hi⟩ := List.mem_filterMap.mp hc'
      have : z[i]? = some c := by simpa [tx] using hi
      exact List.mem_of_getElem? this
  have hq := q (Txt.sliceBy (tx z) l' u' (k0, t3)).cps.toList (by rw [tx_len] at hsz; rw [Array.length_toList]; exact hsz) hmem
  rw [tx_list] at hq
  refine post_val_or_made (fun hc => ?_) fun t' kk => ⟨.str (Txt.sliceBy (tx z) l' u' (k0, t3)), H4, I5.tok kk, ⟨t', rfl⟩, hq⟩
  refine Nat.le_trans ?_ hz
  unfold Txt.sliceBy at hsz
  rw [if_neg hc] at hsz
  exact hsz
noncomputable def tReplN (to : TE) (i : Nat) (z : Str) : TE := fun σ H Q => to σ H fun v H1 => ∃ (l : List Nat) (y : Str), v = .str (tx l) ∧ l.length ≤ 1000 ∧ σ[i]? = some (some (.str y)) ∧ (y == z) = false ∧ ∀ l' : List Nat, l'.length ≤ l.length + (l.length + 1) * z.length → Q (.str (tx l')) H1
theorem pen_repl {o : Expr} {to : TE} {i j2 : Nat} {x z : Str} {p3 p4 apos cpos : Pos} (ho : PE X o to) (hN : X.N[i]? = some x) (hv : X.env.kindOf x = some .local) (hvis : Vis X.env.scope x) (hnz : X.nz x = true) (hz1 : z.length ≤ 14 := by decide +kernel)
    (hd : (x == ("__debug__" : Str)) = false := by decide)
    (hbase : attributeBase o "replace" X.env (eval o X.env) = eval o X.env := by rfl) (hline : (apos.endLine == cpos.line) = true := by rfl) :
    PEn X (.Call (.Attribute o "replace" apos) [.Name x p3, .Constant (.str z) j2 p4] [] cpos) (tReplN to i z) := by
  intro pins s σ H Q I ht h
  refine wpAny_Call_method_late hbase rfl hline rfl (thn (keepT (ho pins s σ H _ I h) ht) fun v s1 ⟨⟨x', H1, I1, r1, q1⟩, ht1⟩ => ?_)
  obtain ⟨l, y, rfl, hl, hσ, hyz, q⟩ := q1
  obtain ⟨t, rfl⟩ := r1
  obtain ⟨m, hn, hlc⟩ := I1.loc
  obtain ⟨u, ⟨r, hu⟩, lk⟩ := hlc i x (.str y) hN hσ hvis
  obtain ⟨tu, rfl⟩ := r
  have htu : tu ≠ 0 := hu hnz y tu rfl
  rcases lk with ⟨hk, hm⟩ | ⟨hk, _⟩
  case inr => rw [hv] at hk; rcases hk with z | z <;> cases z
  refine ⟨"str", "str.replace", PySem.F.plainAttrs_str, PySem.F.slot_str_replace, PySem.F.type_str_replace, typeIs_str _ _ _, (fun a e => by cases e), ?_⟩
  refine Calls.callWith_builtin rfl (Calls.evalArgs_plain ?_)
  refine Calls.spliced_cons (wpAny_Name (wpAny_loadName_local I1.ok.kind hk hn hm ?_) hd)
  refine Calls.spliced_cons (Calls.Constant_str (x := z) (k := j2) (pos := p4) ?_)
  refine Calls.spliced_nil ?_
  have fin : ∀ t' k (w' : Str), w'.length ≤ l.length + (l.length + 1) * z.length → EP X pins σ Q (.str w' t') { s1 with toks := k } := fun t' k w' hw => by
    have hq := q w'.cps.toList (by rw [Array.length_toList]; exact hw)
    rw [tx_list] at hq
    exact ⟨.str w', H1, I1.tok k, ⟨t', rfl⟩, hq⟩
  by_cases he : tu = s1.toks
  · subst he
    refine call_gives PySem.F.slot_str_replace (typeIs_str _ _ _) PySem.F.entry_str_replace (PySem.F.args_str_replace_3 _ _ _) (gives_replace_same _ _ _ _ _ ht1) ?_
    exact fin t (s1.toks + 1) (tx l) (by rw [tx_len]; exact Nat.le_add_right _ _)
  · refine SC.replaceW htu ht1 he hyz (by rw [tx_len]; omega) hz1 fun t' k => ?_
    have hr := replace_le (tx l) y z
    rw [tx_len] at hr
    exact fin t' k _ hr
end
end L2

namespace L2
open PySem PySem.Spec PyProof.Rows GT
end L2
namespace L2
end L2

namespace L2
open PySem PySem.Spec PyProof.Rows GT
section
variable {X : Cx}
theorem pi_listK (K : PySem.W.Frag) {tg l : Expr} {tl : TE} (hl : PE X l tl) (hK : X.K = K := by rfl) : PI X tg l (iList K tl) := by subst hK; exact pi_list hl
inductive SumK (K : PySem.W.Frag) (xs : List V) (H : Hp) (Q : VK) : Prop
  | mk (p : Addr) (ns : List Int) (e : xs = [.ref p]) (c : true = true) (h : SqL K H p (ns.map V.int)) (q : Q (.int ns.sum) H) : SumK K xs H Q
theorem call_sumKK (K : PySem.W.Frag) (hc : X.calm = true := by rfl) (hK : X.K = K := by rfl) : CallR X (.builtin "sum") (SumK K) := by
  subst hK
  intro pins s σ H xs us Q I r h
  obtain ⟨p, ns, e, _, h, q⟩ := h
  exact call_sum pins s σ H xs us Q I r ⟨p, ns, e, hc, h, q⟩
inductive AllK (K : PySem.W.Frag) (xs : List V) (H : Hp) (Q : VK) : Prop
  | mk (p : Addr) (bs : List Bool) (e : xs = [.ref p]) (c : true = true) (h : SqL K H p (bs.map V.bl)) (q : Q (.bl (bs.all id)) H) : AllK K xs H Q
theorem call_allKK (K : PySem.W.Frag) (hc : X.calm = true := by rfl) (hK : X.K = K := by rfl) : CallR X (.builtin "all") (AllK K) := by
  subst hK
  intro pins s σ H xs us Q I r h
  obtain ⟨p, ns, e, _, h, q⟩ := h
  exact call_all pins s σ H xs us Q I r ⟨p, ns, e, hc, h, q⟩
inductive LenK (K : PySem.W.Frag) (xs : List V) (H : Hp) (Q : VK) : Prop
  | mk (p : Addr) (ys : List V) (e : xs = [.ref p]) (h : SqL K H p ys ∨ SqT K H p ys) (q : Q (.int ys.length) H) : LenK K xs H Q
theorem call_lenKK (K : PySem.W.Frag) (hK : X.K = K := by rfl) : CallR X (.builtin "len") (LenK K) := by
  subst hK
  intro pins s σ H xs us Q I r h
  obtain ⟨p, ns, e, h, q⟩ := h
  exact call_len_seq pins s σ H xs us Q I r ⟨p, ns, e, h, q⟩
inductive LenS (xs : List V) (H : Hp) (Q : VK) : Prop
  | mk (z : Str) (e : xs = [.str z]) (h : z.length ≤ sizeLine) (q : Q (.int z.length) H) : LenS xs H Q
inductive IxL (K : PySem.W.Frag) (x y : V) (H : Hp) (Q : VK) : Prop
  | mk (p : Addr) (xs : List V) (i : Int) (v : V) (e : x = .ref p) (f : y = .int i) (h : SqL K H p xs) (g : atI xs i = some v) (q : Q v H) : IxL K x y H Q
theorem ix_listKK (K : PySem.W.Frag) (hK : X.K = K := by rfl) : IxR X (IxL K) := by
  subst hK
  intro value slice pins s σ H x y v u Q I rx ry h hs
  obtain ⟨p, xs, i, v, e, f, h, g, q⟩ := h
  exact ix_list value slice pins s σ H x y _ _ Q I rx ry ⟨p, xs, i, v, e, f, h, g, q⟩ hs
inductive IxS (x y : V) (H : Hp) (Q : VK) : Prop
  | mk (z : Str) (i : Int) (c : Nat) (e : x = .str z) (f : y = .int i) (h : z.length ≤ sizeLine) (g : atI z.cps.toList i = some c) (q : Q (.str ⟨#[c]⟩) H) : IxS x y H Q
theorem ix_strS : IxR X IxS := by
  intro value slice pins s σ H x y v u Q I rx ry h hs
  obtain ⟨z, i, c, e, f, h, g, q⟩ := h
  exact ix_str value slice pins s σ H x y _ _ Q I rx ry ⟨z, i, c, e, f, h, g, q⟩ hs
inductive Appd (x : V) (vs : List V) (H : Hp) (Q : VK) : Prop
  | mk (l : Addr) (xs : List V) (y : V) (e : x = .ref l) (f : vs = [y]) (h : H l = some (.lst xs)) (z : xs.length < sizeLine) (q : Q .non (upd H l (.lst (xs ++ [y])))) : Appd x vs H Q
inductive IsiK (K : PySem.W.Frag) (xs : List V) (H : Hp) (Q : VK) : Prop
  | mk (x c : V) (t cv : Value) (b : Bool) (e : xs = [x, c]) (f : ClsV c cv) (g : TyOf K H x t) (h : PySem.W.kitOne K t cv = some b) (q : Q (.bl b) H) : IsiK K xs H Q
theorem call_isiKK (K : PySem.W.Frag) (hK : X.K = K := by rfl) : CallR X (.builtin "isinstance") (IsiK K) := by
  subst hK
  intro pins s σ H xs us Q I r h
  obtain ⟨x, c, t, cv, b, e, f, g, h, q⟩ := h
  exact call_isinst pins s σ H xs us Q I r ⟨x, c, t, cv, b, e, f, g, h, q⟩
theorem sl_listK (K : PySem.W.Frag) (hK : X.K = K := by rfl) : SlR X (rSlL K) := by subst hK; exact sl_list
theorem ix_tupK (K : PySem.W.Frag) (hK : X.K = K := by rfl) : IxR X (rIxT K) := by subst hK; exact ix_tup
inductive FldK (K : PySem.W.Frag) (f : Str) (x : V) (H : Hp) (Q : VK) : Prop
  | mk (a C dx : Addr) (fs : List (Str × V)) (v : V) (e : x = .ref a) (h : H a = some (.ins C dx fs)) (c : Cls K C) (n : NoAttr K C f) (l : fs.lookup f = some v) (q : Q v H) : FldK K f x H Q
noncomputable def tFldK (K : PySem.W.Frag) (ta : TE) (f : Str) : TE := fun σ H Q => ta σ H fun x H1 => FldK K f x H1 Q
theorem pe_fldKK (K : PySem.W.Frag) {e : Expr} {f : Str} {ta : TE} {pos : Pos} (he : PE X e ta) (hb : attributeBase e f X.env (eval e X.env) = eval e X.env) (hK : X.K = K := by rfl) : PE X (.Attribute e f pos) (tFldK K ta f) := by
  subst hK
  intro pins s σ H Q I h
  refine attr_of hb (thn (he pins s σ H _ I h) fun u s1 ⟨x, H1, I1, rx, q1⟩ => ?_)
  obtain ⟨a, C, dx, fs, v, ex, ea, c, n, l, q⟩ := q1
  subst ex
  obtain rfl : u = Value.ref a := rx
  exact getattr_ok I1 ea c n l fun u' s2 I2 ru => ⟨v, H1, I2, ru, q⟩
theorem pg_tupK (K : PySem.W.Frag) {es : List Expr} {k : Nat} {t : TGs} {n : Nat} {pos : Pos} (hc : X.calm = true) (h : PGs X es t) (hn : (assignEach es X.env).length = n := by rfl) (hst : (assignEach es X.env).findIdx? (·.1) = none := by rfl) (hK : X.K = K := by rfl) : PG X (.Tuple es k pos) (gTup K n t) := by subst hK; exact pg_tup hc h hn hst
theorem pe_bmK (K : PySem.W.Frag) {o e : Expr} {es : List Expr} {to : TE} {t : TA} {name : Str} {apos cpos : Pos} {T id : String} {r : V → List V → Hp → VK → Prop} (pa : PlainAttrs T) (slot : Slot T name id) (hty : typeOf (.builtin id) = pure (.type "method_descriptor")) (hm : MtR X id r) (ho : PE X o to) (ha : PA X (e :: es) t)
    (hbase : attributeBase o name X.env (eval o X.env) = eval o X.env := by rfl)
    (hfew : ((backTo cpos (starEach (e :: es) X.env)).all (fun x => !x.1) && (backToKw cpos (keywordEach [] X.env)).all (fun x => x.1.isSome)
      && decide ((e :: es).length + ([] : List Keyword).length + (if ([] : List Keyword).isEmpty then 0 else 1) < 30)) = true := by rfl)
    (hline : (apos.endLine == cpos.line) = true := by rfl) (hs : starEach (e :: es) X.env = (false, eval e X.env) :: starEach es X.env := by rfl) (hplain : (backTo cpos (starEach es X.env)).any (·.1) = false := by rfl) (hK : X.K = K := by rfl) :
    PE X (.Call (.Attribute o name apos) (e :: es) [] cpos) (tBM K T r to t) := by subst hK; exact pe_bm pa slot hty hm ho ha hbase hfew hline hs hplain
end
end L2

namespace L2
open PySem PySem.Spec PyProof.Rows GT
section
variable {X : Cx}
inductive SubA (P : Program) (w : World) (x y : V) (H : Hp) (Q : VK) : Prop
  | mk (a b : Addr) (S S' : Str → Bool) (n n' : Nat) (e : x = .ref a) (f : y = .ref b) (ha : H a = some (SetS P w a S n)) (hb : H b = some (SetS P w b S' n')) (hn : n ≤ 250)
      (q : ∀ p T m, H p = none → ((n / 4 ≤ n' ∧ (m = 0 ↔ ∀ k, S k = true → S' k = true)) ∨ (n' < n / 4 ∧ 0 < m)) → Q (.ref p) (upd H p (SetS P w p T m))) : SubA P w x y H Q
theorem op_subA : OpR X (binaryOp .Sub) (SubA X.prog X.w) := by
  intro pins s σ H x y v u Q I rx ry h
  obtain ⟨a, b, S, S', n, n', rfl, rfl, ha, hb, hn, q⟩ := h
  cases rx; cases ry
  obtain ⟨ha', _⟩ := I.hok a _ ha
  obtain ⟨hb', _⟩ := I.hok b _ hb
  by_cases hc : n / 4 ≤ n'
  · refine GS.sub_near ha' hb' hc fun h' m hS hk => ?_
    refine ⟨.ref s.heap.objs.size, _, I.laid (t' := s.toks) hk (Nat.le_refl _) (setS_ok hS), rfl, q _ _ _ I.fresh (.inl ⟨hc, ?_⟩)⟩
    obtain ⟨o, es, ep, t, _, _, _, hel, hmem, _, _, hsz⟩ := hS
    constructor
    · intro hm k hk
      cases hk' : S' k with
      | true => rfl
      | false =>
        obtain ⟨e, he, _⟩ := (hmem k).mp (show (S k && !S' k) = true by rw [hk, hk']; rfl)
        have hz : es.toList.length = 0 := by rw [Array.length_toList, hsz, hm]
        rw [List.length_eq_zero_iff] at hz
        rw [hz] at he; simp at he
    · intro hall
      refine Classical.byContradiction fun hm => ?_
      have hl : 0 < es.toList.length := by rw [Array.length_toList, hsz]; omega
      obtain ⟨e, he⟩ := List.exists_mem_of_length_pos hl
      obtain ⟨⟨k, hk, _⟩, _⟩ := hel e he
      have := (hmem k).mpr ⟨e, he, hk⟩
      have h1 := Bool.and_eq_true _ _ |>.mp this
      rw [hall k h1.1] at h1
      exact absurd h1.2 (by decide)
  · refine GS.sub_far ha' hb' (by omega) hn fun h' T m hm hS hk => ?_
    exact ⟨.ref s.heap.objs.size, _, I.laid (t' := s.toks) hk (Nat.le_refl _) (setS_ok hS), rfl, q _ _ _ I.fresh (.inr ⟨by omega, hm⟩)⟩
end
end L2
namespace GP
open PySem L2 GT GM
inductive SpIsTextA (vs : List V) (H : Hp) (Q : VK) : Prop
  | mk (L x : Tx) (h0 : vs = [sv L, sv x]) (h1 : (sgn L).length ≤ 100) (h2 : (sgn x).length ≤ 100) (h3 : anyH H Q (.bl (decide (∀ c ∈ x, c ∈ L)))) : SpIsTextA vs H Q
noncomputable def spIsTextA : Sp := fun vs H Q _ => SpIsTextA vs H Q
noncomputable abbrev ShutOk (R : Ru) (L : Tx) (c d : Nat) : Prop := c ∈ L ∧ d ∉ L ∧ (∀ e ∈ L, e ∈ lets R.length) ∧ ∀ e ∈ L, ∀ g ∈ R.getD (e - 97) [], g ∈ L
inductive SpShutA (C : Addr) (vs : List V) (H : Hp) (Q : VK) : Prop
  | mk (p dx : Addr) (L : Tx) (a : Addr) (R : Ru) (c d : Nat) (h0 : vs = [.ref p, .ref a, sv [c], sv [d]]) (h1 : H p = some (.ins C dx (putF "letters" (sv L) []))) (h2 : RuAt H a R) (h3 : OkRu R) (h4 : (sgn L).length ≤ 100)
      (h5 : anyH H Q (.bl (decide (ShutOk R L c d)))) : SpShutA C vs H Q
noncomputable def spShutA (C : Addr) : Sp := fun vs H Q _ => SpShutA C vs H Q
end GP

namespace GP
open PySem L2 GT GM
inductive SpLawSays (vs : List V) (H : Hp) (Q : VK) : Prop
  | mk (b c : Bool) (h0 : vs = [.bl b, .bl c]) (h1 : Q (.bl (decide (b = c))) H) : SpLawSays vs H Q
noncomputable def spLawSays : Sp := fun vs H Q _ => SpLawSays vs H Q
inductive SpLettersRight (vs : List V) (H : Hp) (Q : VK) : Prop
  | mk (a : Addr) (R : Ru) (z : Int) (h0 : vs = [.ref a, .int z]) (h1 : RuAt H a R) (h2 : Ru100 R) (h3 : anyH H Q (.bl true)) : SpLettersRight vs H Q
noncomputable def spLettersRight : Sp := fun vs H Q _ => SpLettersRight vs H Q
noncomputable abbrev DueT (R : Ru) (c d : Nat) (m : Int) : Prop := 0 ≤ m ∧ m ≤ (R.length : Int) ∧ d ∈ grow R m.toNat [c]
theorem made_same {H : Hp} {x dx : Addr} {C : Addr} {o : HO} (hx : H x = none) (hdx : H dx = none) (hne : dx ≠ x) : Same H (upd (upd (upd H dx (.own x)) x (.ins C dx [])) x o) := fun b u e => by
  rw [upd_ne (ne_of_none e hx), upd_ne (ne_of_none e hx), upd_ne (ne_of_none e hdx)]; exact e
end GP

namespace GP
open PySem L2 GT GM
inductive SpLawLong (vs : List V) (H : Hp) (Q : VK) : Prop
  | mk (a : Addr) (R : Ru) (x : Tx) (t : Nat) (h0 : vs = [.ref a, sv x, .int (t : Nat)]) (h1 : RuAt H a R) (h2 : OkRu R) (h3 : ∀ r ∈ R, r.length ≤ 100) (h4 : OkTx R.length x) (h5 : x.length ≤ 100) (h6 : t ≤ 30) (h7 : anyH H Q (.int ((grow R t x).length : Nat))) : SpLawLong vs H Q
noncomputable def spLawLong : Sp := fun vs H Q _ => SpLawLong vs H Q
inductive SpRowsRight (K : PySem.W.Frag) (vs : List V) (H : Hp) (Q : VK) : Prop
  | mk (a b : Addr) (R : Ru) (ns : List Int) (z : Int) (h0 : vs = [.ref a, .ref b, .int z]) (h1 : RuAt H a R) (h2 : Ru100 R) (h3 : SqL K H b (ns.map V.int)) (h4 : ns.length ≤ 63) (h5 : anyH H Q (.bl true)) : SpRowsRight K vs H Q
noncomputable def spRowsRight (K : PySem.W.Frag) : Sp := fun vs H Q _ => SpRowsRight K vs H Q
noncomputable abbrev DueA (R : Ru) (x y : Tx) (m : Int) : Prop := 0 ≤ m ∧ m ≤ (R.length : Int) - 1 ∧ ¬ LenEq R x y m.toNat
end GP

namespace L2
open PySem PySem.Spec PyProof.Rows

noncomputable def ccxO (X : Cx) (scope : Scope) (cl : List (Str × Addr)) (C : Addr) (x : Str) (ns : List Str) (fp : List Addr) (s : Shared) (H : Hp) : Cx :=
  { ccx X scope ((x, C + 1) :: cl) C ns fp s H with fn := fun y => y == x }

structure CScopeO (X : Cx) (scope : Scope) (x : Str) (ns : List Str) (nt : Nat) (cap : List Nat) : Prop where
  kind : scope.kind = .function
  cells : ∀ y ∈ scope.names, y.2 = .cell → y.1 = x
  own : scope.names.lookup x = some .cell
  laid : ∀ n cl, cellsFrom n scope.names cl = (x, n) :: cl
  push : ∀ h, pushCells h scope.names = h.push { cls := .type "cell", data := .cell none }
  names : ∀ y ∈ scope.names, y.2 = .local → scope.names.lookup y.1 = some .local
  frees : ∀ y ∈ scope.names, y.2 = .free → X.env.kindOf y.1 = some .cell ∨ X.env.kindOf y.1 = some .free
  nlen : ns.length = nt + cap.length
  caps : ∀ (j k : Nat), cap[j]? = some k → ∃ x, X.N[k]? = some x ∧ ns[nt + j]? = some x ∧ Vis X.env.scope x ∧ (X.env.kindOf x = some .cell ∨ X.env.kindOf x = some .free) ∧ scope.names.lookup x = some .free

theorem wpAny_newFunctionEnv_own {M : Model} {A : Around} {E : Value → Shared → Prop} {s : Shared} {scope : Scope} {globals : Addr} {cl : List (Str × Addr)} {qual : Str} {env : Env} {x : Str} {Q : Env → Shared → Prop}
    (hl : ∀ n cl, cellsFrom n scope.names cl = (x, n) :: cl) (hp : ∀ h, pushCells h scope.names = h.push { cls := .type "cell", data := .cell none })
    (hQ : Q { scope, locals := s.heap.objs.size, globals, cells := (x, s.heap.objs.size + 1) :: cl, qual, func := none, code := env.code, frame := env.frame, builtins := env.builtins } { s with heap := (s.heap.push { cls := .type "dict", data := .dict #[] }).push { cls := .type "cell", data := .cell none } }) :
    wpAny M A (newFunctionEnv scope globals cl [] qual none .none (some env)) Q E s := by
  simp only [newFunctionEnv, Option.isSome_some, if_true]
  refine wpAny_bind (wpAny_alloc ?_)
  refine wpAny_bind (wpAny_layCells _ (fun name kind cells => by cases hkc : kind == NameKind.cell <;> simp [hkc]) _ _ _ _ ?_)
  rw [hl, hp]
  rw [show ({ s with heap := s.heap.push { cls := .type "dict", data := .dict #[] } } : Shared).heap.objs.size = s.heap.objs.size + 1 from Heap.size_push ..]
  exact wpAny_bind (by rw [List.forIn_nil]; exact wpAny_pure (wpAny_pure hQ))

theorem own_lk {x y : Str} {c c' : Addr} {cl : List (Str × Addr)} (h : ((x, c) :: cl).lookup y = some c') : (y = x ∧ c' = c) ∨ (y ≠ x ∧ cl.lookup y = some c') := by
  rw [List.lookup_cons] at h
  cases hb : y == x with
  | true => rw [hb] at h; cases h; exact .inl ⟨beq_iff_eq.mp hb, rfl⟩
  | false => rw [hb] at h; exact .inr ⟨fun e => by rw [e] at hb; simp at hb, h⟩

theorem compO_ok {X : Cx} {scope : Scope} {cl : List (Str × Addr)} {C : Addr} {x : Str} {ns : List Str} {nt : Nat} {cap : List Nat} {fp : List Addr} {s : Shared} {H : Hp} {pins : List (Addr × Obj)} {σ : St}
    (I : Inv X pins σ H s) (S : CScopeO X scope x ns nt cap) (hcl1 : ∀ x c, (x, c) ∈ cl → X.env.cells.lookup x = some c) (hcl2 : ∀ x, (x, NameKind.free) ∈ scope.names → ∃ c, (x, c) ∈ cl)
    (hC : s.heap.objs.size ≤ C) (hf : ∀ b ∈ fp, FpOk X pins H b) (hfs : ∀ b ∈ fp, b < s.heap.objs.size) : (ccxO X scope cl C x ns fp s H).Ok := by
  have lk : ∀ x c, cl.lookup x = some c → X.env.cells.lookup x = some c := fun x c e => hcl1 x c (PySem.mem_of_lookup e)
  have lo : ∀ y c, X.env.cells.lookup y = some c → c < C + 1 := fun y c e => by
    obtain ⟨v, q⟩ := I.cell y c e
    exact Nat.lt_succ_of_lt (Nat.lt_of_lt_of_le q.lt hC)
  refine ⟨I.ok.mod, S.kind, I.ok.glob, I.ok.blt, hC, fun y y' c h1 h2 => ?_, fun y hy => ?_, fun y c h e => ?_, I.ok.hd, I.ok.frames, .inl rfl, fun b hb => ⟨?_, fun y c e z => ?_⟩, I.bs, Nat.le_trans I.ok.bsz I.sz, fun b o e hb => ?_, fun b hb z => ?_, I.stack, I.stkFree⟩
  · rcases own_lk (c := C + 1) h1 with ⟨e1, e2⟩ | ⟨_, e1⟩ <;> rcases own_lk (c := C + 1) h2 with ⟨e3, e4⟩ | ⟨_, e3⟩
    · rw [e1, e3]
    · have h := lo _ _ (lk _ _ e3); rw [e2] at h; exact absurd h (Nat.lt_irrefl _)
    · have h := lo _ _ (lk _ _ e1); rw [e4] at h; exact absurd h (Nat.lt_irrefl _)
    · exact I.ok.inj y y' c (lk _ _ e1) (lk _ _ e3)
  · have hy' : (relabel scope X.env).names.lookup y = some .cell ∨ (relabel scope X.env).names.lookup y = some .free := hy
    have mem : y = x ∨ (y, NameKind.free) ∈ scope.names := by
      have aux : ∀ k, (relabel scope X.env).names.lookup y = some k → k = .cell ∨ k = .free → y = x ∨ (y, NameKind.free) ∈ scope.names := fun k e hk => by
        have hm := PySem.mem_of_lookup e
        obtain ⟨⟨y', k0⟩, hy0, e2⟩ := List.mem_map.mp hm
        simp only at e2
        split at e2
        · rename_i hc
          cases e2
          have : k0 = .free := by
            simp only [Bool.and_eq_true, beq_iff_eq] at hc
            exact hc.1.1
          subst this
          exact .inr hy0
        · cases e2
          rcases hk with rfl | rfl
          · exact .inl (S.cells _ hy0 rfl)
          · exact .inr hy0
      rcases hy' with e | e
      · exact aux _ e (.inl rfl)
      · exact aux _ e (.inr rfl)
    by_cases hyx : y = x
    · exact ⟨C + 1, by show ((x, C + 1) :: cl).lookup y = _; rw [hyx, List.lookup_cons, beq_self_eq_true]⟩
    · obtain ⟨c, hc⟩ := hcl2 y (mem.resolve_left hyx)
      obtain ⟨c', e, _⟩ := lookup_of_mem hc
      refine ⟨c', ?_⟩
      show ((x, C + 1) :: cl).lookup y = _
      rw [List.lookup_cons, show (y == x) = false from beq_eq_false_iff_ne.mpr hyx]; exact e
  · have hyx : y = x := beq_iff_eq.mp h
    rcases own_lk (c := C + 1) e with ⟨_, e2⟩ | ⟨e1, _⟩
    · rw [e2]; exact Nat.le_succ_of_le hC
    · exact absurd hyx e1
  · exact Nat.ne_of_lt (Nat.lt_of_lt_of_le (hfs b hb) hC)
  · rcases own_lk (c := C + 1) e with ⟨_, e2⟩ | ⟨_, e1⟩
    · have h := hfs b hb; rw [← z, e2] at h; exact absurd (Nat.lt_of_lt_of_le h (Nat.le_succ_of_le hC)) (Nat.lt_irrefl _)
    · exact (hf b hb).2.2.2.2.1 y c (lk y c e1) z
  · obtain ⟨f0, f1, f2, f3, f4, f5⟩ := hf b hb
    rcases f3 with z | z
    · exact I.ok.noex b o e z
    · exact absurd (Nat.lt_of_lt_of_le (Heap.lt_size e) (Nat.le_trans I.ok.bsz z)) (Nat.lt_irrefl _)
  · obtain ⟨f0, f1, f2, f3, f4, f5⟩ := hf b hb
    rcases List.mem_cons.mp (I.stkSub b z) with q | q
    · exact f1 q
    · exact f2 q

theorem compO_inv {X : Cx} {scope : Scope} {cl : List (Str × Addr)} {x : Str} {ns : List Str} {nt : Nat} {cap : List Nat} {fp : List Addr} {s : Shared} {H : Hp} {pins : List (Addr × Obj)} {σ : St} {C : Addr} {h₁ : Heap} {m₁ : Str → Option Value}
    (I : Inv X pins σ H s) (S : CScopeO X scope x ns nt cap) (hcl1 : ∀ x c, (x, c) ∈ cl → X.env.cells.lookup x = some c) (hcl2 : ∀ x, (x, NameKind.free) ∈ scope.names → ∃ c, (x, c) ∈ cl)
    (hC : s.heap.objs.size < C) (hf : ∀ b ∈ fp, FpOk X pins H b) (hfs : ∀ b ∈ fp, b < s.heap.objs.size) (k : ∀ b o, s.heap.get? b = some o → h₁.get? b = some o) (hns : h₁.Ns C m₁) (hce : h₁.IsCell (C + 1) none)
    (hD : h₁.get? s.heap.objs.size = some { cls := .type "list", data := .seq ([] : List Value).toArray }) :
    Inv (ccxO X scope cl C x ns fp s H) [] (cst nt cap σ) (upd H s.heap.objs.size (.lst [])) { s with heap := h₁ } := by
  have fr := I.fresh
  have lk : ∀ x c, cl.lookup x = some c → X.env.cells.lookup x = some c := fun x c e => hcl1 x c (PySem.mem_of_lookup e)
  have cellK : ∀ c v, s.heap.IsCell c v → h₁.IsCell c v := fun c v ⟨o, e, d⟩ => ⟨o, k c o e, d⟩
  refine ⟨compO_ok I S hcl1 hcl2 (Nat.le_of_lt hC) hf hfs, rfl, I.bare, Un.laid k (Nat.le_refl _) fr, ⟨m₁, hns, fun i y v e1 e2 e3 => ?_⟩, fun y c e => ?_, ?_, fun y c e => ?_, fun p hp => absurd (show p ∈ ([] : List (Addr × Obj)) from hp) (by simp), I.hok.laid k (Nat.le_refl _) ⟨by decide, [], _, .nil, hD⟩, ?_⟩
  · have e1 : ns[i]? = some y := e1
    by_cases hi : i < nt
    · exfalso
      unfold cst at e2
      rw [List.getElem?_append_left (by simpa using hi), List.getElem?_replicate, if_pos hi] at e2
      cases e2
    · obtain ⟨j, rfl⟩ : ∃ j, i = nt + j := ⟨i - nt, by omega⟩
      unfold cst at e2
      rw [List.getElem?_append_right (by simp), List.length_replicate, Nat.add_sub_cancel_left, List.getElem?_map] at e2
      cases hk : cap[j]? with
      | none => rw [hk] at e2; cases e2
      | some kk =>
        rw [hk] at e2
        obtain ⟨x', c1, c2, c3, c4, c5⟩ := S.caps j kk hk
        rw [c2] at e1
        cases e1
        have e2' : (σ[kk]?).getD none = some v := Option.some.inj e2
        have e3' : σ[kk]? = some (some v) := by
          cases hq : σ[kk]? with
          | none => rw [hq] at e2'; cases e2'
          | some q => rw [hq] at e2'; exact congrArg some e2'
        obtain ⟨m, hm, hl⟩ := I.loc
        obtain ⟨u, r, l⟩ := hl kk y v c1 e3' c3
        refine ⟨u, ⟨r.1, fun h => by cases h⟩, ?_⟩
        rcases l with ⟨l1, _⟩ | ⟨l1, c, l2, l3⟩
        · exfalso
          rw [l1] at c4
          rcases c4 with z | z <;> cases z
        · obtain ⟨c', hc'⟩ := hcl2 y (PySem.mem_of_lookup c5)
          obtain ⟨c'', e4, e5⟩ := lookup_of_mem hc'
          have e6 := hcl1 y c'' e5
          rw [l2] at e6
          cases e6
          refine .inr ⟨lookup_relabel_free c5, c, ?_, cellK c _ l3⟩
          have hyx : y ≠ x := fun e => by rw [e, S.own] at c5; cases c5
          show ((x, C + 1) :: cl).lookup y = _
          rw [List.lookup_cons, show (y == x) = false from beq_eq_false_iff_ne.mpr hyx]; exact e4
  · rcases own_lk (c := C + 1) e with ⟨_, e2⟩ | ⟨_, e1⟩
    · exact ⟨none, by rw [e2]; exact hce⟩
    · obtain ⟨v, q⟩ := I.cell y c (lk y c e1)
      exact ⟨v, cellK c v q⟩
  · show upd H s.heap.objs.size (.lst []) C = none
    rw [upd_ne (Nat.ne_of_gt hC)]
    exact I.hok.fresh (Nat.le_of_lt hC)
  · rcases own_lk (c := C + 1) e with ⟨_, e2⟩ | ⟨_, e1⟩
    · rw [e2, upd_ne (Nat.ne_of_gt (Nat.lt_succ_of_lt hC))]
      exact I.hok.fresh (Nat.le_succ_of_le (Nat.le_of_lt hC))
    · have e' := lk y c e1
      obtain ⟨v, o, ho, _⟩ := I.cell y c e'
      rw [upd_ne (Nat.ne_of_lt (Heap.lt_size ho))]
      exact I.freeC y c e'
  · show (cst nt cap σ).length = ns.length
    unfold cst
    rw [List.length_append, List.length_replicate, List.length_map, S.nlen]

theorem lcO_block {X : Cx} {scope : Scope} {x : Str} {ns : List Str} {nt : Nat} {cap : List Nat} {elt tg iter : Expr} {ifs : List Expr} {pos p : Pos} {wi : TI} {g : TG} {tc : TT} {te : TE} {use : Option (Value → Sem Unit)} {Qf : Value → Shared → Prop} {pins : List (Addr × Obj)} {σ : St} {H : Hp} {s : Shared} {Q : VK}
    (hc : X.calm = true) (S : CScopeO X scope x ns nt cap) (hi : PI X tg iter wi) (hg : ∀ cl C fp s H, PG (ccxO X scope cl C x ns fp s H) tg g) (hif : ∀ cl C fp s H, PIf (ccxO X scope cl C x ns fp s H) ifs tc) (he : ∀ cl C fp s H, PE (ccxO X scope cl C x ns fp s H) elt te)
    (hs : ∀ x, foldedSetIterable iter X.env x = pure x) (I : Inv X pins σ H s) (h : tLC nt cap wi g tc te σ H Q)
    (hfin : ∀ (D C : Addr) (m : Str → Option Value) (H' : Hp) (s' : Shared), Inv X pins σ H' s' → s'.heap.Ns C m → FpOk X pins H' C → Q (.ref D) H' → compPost (model X.prog X.w) X.A X.xe use Qf (.ref D) C (.ok .next) s') :
    wpAny (model X.prog X.w) X.A (comprehension (.ListComp elt [⟨tg, iter, ifs, 0⟩] scope pos) scope X.env p (newList []) false (eval iter X.env) use) Qf X.xe s := by
  obtain ⟨cl, hclos, hcl1, hcl2⟩ := closure_of scope X.env fun x hx => I.ok.has x (S.frees _ hx rfl)
  refine wpAny_comprehension_free (use := use) rfl hs hclos S.kind S.names ?_
  refine thn (hi pins s σ H _ I h) fun v s1 h1 => thn h1 fun itv s2 h2 => ?_
  obtain ⟨it, fp, tn, J, H2, rfl, I2, T, st2, f2, q⟩ := h2
  obtain ⟨W, ⟨m0, w0⟩, turn⟩ := q s2.heap.objs.size I2.fresh
  have hfs : ∀ b ∈ fp, b < s2.heap.objs.size := fun b hb => by obtain ⟨o, e, _⟩ := T.obj 0 _ st2 b hb; exact Heap.lt_size e
  refine wpAny_newObj_type (wpAny_newFunctionEnv_own S.laid S.push ?_)
  dsimp only
  generalize hH3 : s2.heap.push { cls := .type "list", dict := none, data := .seq ([] : List Value).toArray } = H3
  have hCs : H3.objs.size = s2.heap.objs.size + 1 := by rw [← hH3, Heap.size_push]
  have up : ∀ b o, H3.get? b = some o → ((H3.push { cls := .type "dict", data := .dict #[] }).push { cls := .type "cell", data := .cell none }).get? b = some o := fun b o e => Heap.get?_push_of_some _ (Heap.get?_push_of_some _ e)
  have hns₁ : ((H3.push { cls := .type "dict", data := .dict #[] }).push { cls := .type "cell", data := .cell none }).Ns H3.objs.size (fun _ => none) := (Heap.Ns.new H3 (.type "dict")).keeps fun b o e => Heap.get?_push_of_some _ e
  have hce : ((H3.push { cls := .type "dict", data := .dict #[] }).push { cls := .type "cell", data := .cell none }).IsCell (H3.objs.size + 1) none := by
    have e := Heap.get?_push_size (H3.push { cls := .type "dict", data := .dict #[] }) (o := { cls := .type "cell", data := .cell none }) rfl
    rw [Heap.size_push] at e
    exact ⟨_, e, rfl⟩
  have old : ∀ b o, s2.heap.get? b = some o → ((H3.push { cls := .type "dict", data := .dict #[] }).push { cls := .type "cell", data := .cell none }).get? b = some o := fun b o e => up b o (hH3 ▸ Heap.get?_push_of_some _ e)
  have hacc : ((H3.push { cls := .type "dict", data := .dict #[] }).push { cls := .type "cell", data := .cell none }).get? s2.heap.objs.size = some { cls := .type "list", data := .seq ([] : List Value).toArray } := up _ _ (hH3 ▸ Heap.get?_push_size _ rfl)
  generalize ((H3.push { cls := .type "dict", data := .dict #[] }).push { cls := .type "cell", data := .cell none }) = h₁ at hns₁ hce old hacc ⊢
  have hCgt : s2.heap.objs.size < H3.objs.size := by rw [hCs]; exact Nat.lt_succ_self _
  have Ic := compO_inv (ns := ns) I2 S hcl1 hcl2 hCgt f2 hfs old hns₁ hce hacc
  have stat : ∀ {H' : Hp} {pins' : List (Addr × Obj)}, (∀ b ∈ fp, H' b = none) → (∀ p ∈ pins', ∀ b ∈ fp, p.1 ≠ b) → ∀ b ∈ fp, FpOk (ccxO X scope cl H3.objs.size x ns fp s2 H2) pins' H' b := fun hn hp b hb => by
    obtain ⟨f0, f1, f2', f3, f4, f5⟩ := f2 b hb
    refine ⟨hn b hb, Nat.ne_of_lt (Nat.lt_trans (hfs b hb) hCgt), fun z => ?_, .inl hb, fun y c e z => by
      rcases own_lk (c := H3.objs.size + 1) e with ⟨_, e2⟩ | ⟨_, e1⟩
      · have h := hfs b hb; rw [← z, e2] at h; exact absurd (Nat.lt_trans h (Nat.lt_succ_of_lt hCgt)) (Nat.lt_irrefl _)
      · exact f4 y c (hcl1 y c (PySem.mem_of_lookup e1)) z, fun p hp' => hp p hp' b hb⟩
    rcases List.mem_cons.mp (I2.stkSub b z) with q | q
    · exact f1 q
    · exact f2' q
  have loop : codeAny (model X.prog X.w) X.A (.compLoop (.ListComp elt [⟨tg, iter, ifs, 0⟩] scope pos) 0 (.ref it) (.ref s2.heap.objs.size) (compEnvC scope ((x, H3.objs.size + 1) :: cl) H3.objs.size X.env))
      (compPost (model X.prog X.w) X.A X.xe use Qf (.ref s2.heap.objs.size) H3.objs.size) { s2 with heap := h₁ } := by
    refine codeAny_loop rfl (fun n s' => ∃ i σ' H', Inv (ccxO X scope cl H3.objs.size x ns fp s2 H2) [] σ' H' s' ∧ tn i s'.heap ∧ (∀ b ∈ fp, H' b = none) ∧ W i n σ' H') ?_ m0
      ⟨0, _, _, Ic, T.keep _ _ _ st2 (fun b hb o e => old b o e), fun b hb => ?_, w0⟩
    · rintro n s3 ⟨i, σ3, Hc, I3, st3, fr3, w3⟩
      show wpAny _ X.A ((compTurn (.ListComp elt [⟨tg, iter, ifs, 0⟩] scope pos) 0 (.ref it) (.ref s2.heap.objs.size) (compEnvC scope ((x, H3.objs.size + 1) :: cl) H3.objs.size X.env)).onRaise (fun x => do noteFrame x _; theTreesLotGoes x)) _ _ s3
      refine wpAny_noted ?_
      rw [compTurn_list]
      refine wpAny_bind (wpAny_standAt (wpAny_bind ?_))
      rcases turn i n σ3 Hc w3 with ⟨stop, qn⟩ | ⟨go, N, hN, step⟩
      · refine thn (T.done (ccxO X scope cl H3.objs.size x ns fp s2 H2) rfl rfl rfl hc i [] s3 σ3 Hc _ I3 (stat fr3 (by simp)) st3 stop) fun r s4 ⟨hr, I4⟩ => ?_
        subst hr
        refine wpAny_pure ?_
        obtain ⟨m4, hn4, _⟩ := I4.loc
        have IX : Inv X pins σ Hc s4 := I2.call' I4.os I4.base I4.hok I4.bare fun b hb => by
          obtain ⟨f0, f1, f2', f3, f4, f5⟩ := f2 b hb
          exact ⟨f3, f1, f4, f5⟩
        exact hfin _ _ m4 Hc s4 IX hn4 (I2.fpOk (Nat.le_of_lt hCgt) I4.free) qn
      · refine thn (T.item (ccxO X scope cl H3.objs.size x ns fp s2 H2) rfl rfl rfl hc i [] s3 σ3 Hc _ I3 (stat fr3 (by simp)) st3 go) fun r s4 ⟨u, hr, h4⟩ => ?_
        subst hr
        refine wpAny_bind (thn h4 fun _ s5 ⟨xi, H5, I5, r5, y5, st5, fr5⟩ => ?_)
        have I5' := I5.pinned (stat fr5 (by simp)) (T.obj _ _ st5)
        refine wpAny_bind (wpAny_mono (hg _ _ _ _ _ _ s5 σ3 H5 xi u _ I5' r5 (step xi H5 y5)) (fun _ s6 ⟨σ6, H6, I6, q6⟩ => ?_) fun _ _ f => f.elim)
        have again : ∀ {σ7 : St} {H7 : Hp} {s7 : Shared}, Inv (ccxO X scope cl H3.objs.size x ns fp s2 H2) ([] ++ pinsAt fp s5.heap) σ7 H7 s7 → N σ7 H7 → ∃ m, m < n ∧ ∃ i σ' H', Inv (ccxO X scope cl H3.objs.size x ns fp s2 H2) [] σ' H' s7 ∧ tn i s7.heap ∧ (∀ b ∈ fp, H' b = none) ∧ W i m σ' H' := fun {σ7 H7 s7} I7 n7 => by
          obtain ⟨m', hm, w7⟩ := hN σ7 H7 n7
          refine ⟨m', hm, i + 1, σ7, H7, I7.unpinned, T.keep _ _ _ st5 fun b hb o e => (I7.pin (b, o) (List.mem_append_right _ (List.mem_append_right _ (mem_pinsAt hb e)))).1, fun b hb => ?_, w7⟩
          obtain ⟨o, e, d⟩ := T.obj _ _ st5 b hb
          exact (I7.pin (b, o) (List.mem_append_right _ (List.mem_append_right _ (mem_pinsAt hb e)))).2.1
        refine wpAny_bind (wpAny_mono (hif _ _ _ _ _ _ s6 σ6 H6 _ I6 q6) (fun b s7 ⟨H7, I7, q7⟩ => ?_) fun _ _ f => f.elim)
        cases b with
        | true =>
          rw [if_pos rfl] at q7
          simp only [if_true]
          refine wpAny_bind (wpAny_bind (wpAny_mono (he _ _ _ _ _ _ s7 σ6 H7 _ I7 q7) (fun y s8 ⟨v8, H8, I8, r8, ys, hD8, hl8, q8⟩ => ?_) fun _ _ f => f.elim))
          refine wpAny_bind (wpAny_mono (mt_append (X := ccxO X scope cl H3.objs.size x ns fp s2 H2) _ s8 σ6 H8 (.ref s2.heap.objs.size) [v8] (.ref s2.heap.objs.size) [y] (fun _ H' => N σ6 H') I8 rfl (.cons r8 .nil) ⟨_, ys, v8, rfl, rfl, hD8, hl8, q8⟩) (fun _ s9 ⟨_, H9, I9, _, q9⟩ => ?_) fun _ _ f => f.elim)
          exact wpAny_pure (wpAny_pure ⟨rfl, again I9 q9⟩)
        | false =>
          rw [if_neg Bool.false_ne_true] at q7
          simp only [Bool.false_eq_true, if_false]
          exact wpAny_pure ⟨rfl, again I7 q7⟩
    · obtain ⟨f0, _⟩ := f2 b hb
      rw [upd_ne (Nat.ne_of_lt (hfs b hb))]
      exact f0
  exact codeAny_compStart_list loop (T.self _ 0 _ _ _ (T.keep _ _ _ st2 fun b hb o e => old b o e) loop)

theorem pe_lcO {X : Cx} {scope : Scope} {x : Str} {ns : List Str} {nt : Nat} {cap : List Nat} {elt tg iter : Expr} {ifs : List Expr} {pos : Pos} {wi : TI} {g : TG} {tc : TT} {te : TE}
    (hc : X.calm = true) (S : CScopeO X scope x ns nt cap) (hi : PI X tg iter wi) (hg : ∀ cl C fp s H, PG (ccxO X scope cl C x ns fp s H) tg g) (hif : ∀ cl C fp s H, PIf (ccxO X scope cl C x ns fp s H) ifs tc) (he : ∀ cl C fp s H, PE (ccxO X scope cl C x ns fp s H) elt te)
    (hs : ∀ x, foldedSetIterable iter X.env x = pure x := by intro _; rfl) : PE X (.ListComp elt [⟨tg, iter, ifs, 0⟩] scope pos) (tLC nt cap wi g tc te) := by
  intro pins s σ H Q I h
  rw [eval_ListComp]
  refine lcO_block (use := none) hc S hi hg hif he hs I h fun D C m H' s' I' hn f q => ⟨m, hn, fun h' hs' => ?_⟩
  obtain ⟨f0, f1, f2, f3, f4, f5⟩ := f
  exact ⟨.ref D, H', I'.turned (t' := s'.toks) (fun b o hb e => hs'.extBut b o hb e) f0 f1 f3 f4 f5, rfl, q⟩

theorem pgO (i : Nat) {X : Cx} {scope : Scope} {cl : List (Str × Addr)} {C : Addr} {x : Str} {ns : List Str} {fp : List Addr} {s : Shared} {H : Hp} {pos : Pos} (hN : ns.Nodup := by decide +kernel) (hi : ns[i]? = some x := by rfl)
    (hx : (ccxO X scope cl C x ns fp s H).env.scope.names.lookup x = some .cell := by rfl) : PG (ccxO X scope cl C x ns fp s H) (.Name x pos) (gName i) := pg_name hN hi (.inr hx) (.inl (beq_self_eq_true x))
theorem csO2 {X : Cx} {scope : Scope} {n x y : Str} {k m : Nat} (hx : X.N[k]? = some x) (hy : X.N[m]? = some y) (hc : X.env.kindOf x = some .cell ∨ X.env.kindOf x = some .free) (hc' : X.env.kindOf y = some .cell ∨ X.env.kindOf y = some .free)
    (hl : scope.names.lookup x = some .free) (hl' : scope.names.lookup y = some .free) (h3 : ∀ z ∈ scope.names, z.2 = .free → z.1 = x ∨ z.1 = y)
    (hk : scope.kind = .function := by rfl) (h1 : ∀ y ∈ scope.names, y.2 = .cell → y.1 = n := by decide +kernel) (ho : scope.names.lookup n = some .cell := by rfl) (hd : ∀ k cl, cellsFrom k scope.names cl = (n, k) :: cl := by intro _ _; rfl)
    (hp : ∀ h, pushCells h scope.names = h.push { cls := .type "cell", data := .cell none } := by intro _; rfl) (h2 : ∀ y ∈ scope.names, y.2 = .local → scope.names.lookup y.1 = some .local := by decide +kernel) : CScopeO X scope n [n, x, y] 1 [k, m] where
  kind := hk
  cells := h1
  own := ho
  laid := hd
  push := hp
  names := h2
  frees := fun z hz e => by
    rcases h3 z hz e with q | q
    · rw [q]; exact hc
    · rw [q]; exact hc'
  nlen := rfl
  caps := fun j k' e => by
    match j with
    | 0 =>
      cases e
      refine ⟨x, hx, by simp, ?_, hc, hl⟩
      rcases hc with z | z
      · exact .inr (.inl z)
      · exact .inr (.inr z)
    | 1 =>
      cases e
      refine ⟨y, hy, by simp, ?_, hc', hl'⟩
      rcases hc' with z | z
      · exact .inr (.inl z)
      · exact .inr (.inr z)
    | j + 2 => simp at e
end L2

namespace GP
open PySem L2 GT GM
noncomputable def top (i : Nat) : Stmt := PySem.Challenge.pw_growrow_k06_answers_by_hand.main.body.getD i (.Pass ⟨0, 0, 0, 0⟩)
noncomputable abbrev s_letters_of : Stmt := top 2
noncomputable abbrev s_is_text_of : Stmt := top 3
noncomputable abbrev s_is_number_up_to : Stmt := top 4
noncomputable abbrev s_counted : Stmt := top 6
noncomputable abbrev s_table_of : Stmt := top 7
noncomputable abbrev s_held_next : Stmt := top 8
noncomputable abbrev s_held_after : Stmt := top 9
noncomputable abbrev s_parting_of : Stmt := top 11
noncomputable abbrev s_Times_init : Stmt := inClass (top 13) 0
noncomputable abbrev s_Times_shows : Stmt := inClass (top 13) 1
noncomputable abbrev s_Shut_init : Stmt := inClass (top 14) 0
noncomputable abbrev s_Shut_shows : Stmt := inClass (top 14) 1
noncomputable abbrev s_Alike_shows : Stmt := inClass (top 15) 0
noncomputable abbrev s_Apart_init : Stmt := inClass (top 16) 0
noncomputable abbrev s_Apart_shows : Stmt := inClass (top 16) 1
noncomputable abbrev s_law_rules : Stmt := top 18
noncomputable abbrev s_law_row : Stmt := top 19
noncomputable abbrev s_law_once : Stmt := top 20
noncomputable abbrev s_law_says : Stmt := top 21
noncomputable abbrev s_law_kinds : Stmt := top 22
noncomputable abbrev s_law_long : Stmt := top 23
noncomputable abbrev s_law_letters_right : Stmt := top 24
noncomputable abbrev s_law_rows_right : Stmt := top 25
noncomputable abbrev s_law : Stmt := top 26
set_option genInjectivity false in
set_option genSizeOf false in
structure TX (K : PySem.W.Frag) (mg : Str → Option Value) where
  f_letters_of : Addr
  d_letters_of : FuncData
  F_letters_of : Fun K "letters_of" "letters_of" s_letters_of f_letters_of d_letters_of
  m_letters_of : mg "letters_of" = some (.ref f_letters_of)
  b_letters_of : Binds K d_letters_of ["rules"] []
  f_is_text_of : Addr
  d_is_text_of : FuncData
  F_is_text_of : Fun K "is_text_of" "is_text_of" s_is_text_of f_is_text_of d_is_text_of
  m_is_text_of : mg "is_text_of" = some (.ref f_is_text_of)
  b_is_text_of : Binds K d_is_text_of ["letters", "value"] []
  f_is_number_up_to : Addr
  d_is_number_up_to : FuncData
  F_is_number_up_to : Fun K "is_number_up_to" "is_number_up_to" s_is_number_up_to f_is_number_up_to d_is_number_up_to
  m_is_number_up_to : mg "is_number_up_to" = some (.ref f_is_number_up_to)
  b_is_number_up_to : Binds K d_is_number_up_to ["most", "value"] []
  f_counted : Addr
  d_counted : FuncData
  F_counted : Fun K "counted" "counted" s_counted f_counted d_counted
  m_counted : mg "counted" = some (.ref f_counted)
  b_counted : Binds K d_counted ["letters", "text"] []
  f_table_of : Addr
  d_table_of : FuncData
  F_table_of : Fun K "table_of" "table_of" s_table_of f_table_of d_table_of
  m_table_of : mg "table_of" = some (.ref f_table_of)
  b_table_of : Binds K d_table_of ["rules"] []
  f_held_next : Addr
  d_held_next : FuncData
  F_held_next : Fun K "held_next" "held_next" s_held_next f_held_next d_held_next
  m_held_next : mg "held_next" = some (.ref f_held_next)
  b_held_next : Binds K d_held_next ["table", "held"] []
  f_held_after : Addr
  d_held_after : FuncData
  F_held_after : Fun K "held_after" "held_after" s_held_after f_held_after d_held_after
  m_held_after : mg "held_after" = some (.ref f_held_after)
  b_held_after : Binds K d_held_after ["rules", "row", "times"] []
  f_parting_of : Addr
  d_parting_of : FuncData
  F_parting_of : Fun K "parting_of" "parting_of" s_parting_of f_parting_of d_parting_of
  m_parting_of : mg "parting_of" = some (.ref f_parting_of)
  b_parting_of : Binds K d_parting_of ["rules", "one", "other"] []
  f_Times_init : Addr
  d_Times_init : FuncData
  F_Times_init : Fun K "__init__" "Times.__init__" s_Times_init f_Times_init d_Times_init
  b_Times_init : Binds K d_Times_init ["self", "many"] []
  f_Times_shows : Addr
  d_Times_shows : FuncData
  F_Times_shows : Fun K "shows" "Times.shows" s_Times_shows f_Times_shows d_Times_shows
  b_Times_shows : Binds K d_Times_shows ["self", "rules", "one", "other"] []
  f_Shut_init : Addr
  d_Shut_init : FuncData
  F_Shut_init : Fun K "__init__" "Shut.__init__" s_Shut_init f_Shut_init d_Shut_init
  b_Shut_init : Binds K d_Shut_init ["self", "letters"] []
  f_Shut_shows : Addr
  d_Shut_shows : FuncData
  F_Shut_shows : Fun K "shows" "Shut.shows" s_Shut_shows f_Shut_shows d_Shut_shows
  b_Shut_shows : Binds K d_Shut_shows ["self", "rules", "one", "other"] []
  f_Alike_shows : Addr
  d_Alike_shows : FuncData
  F_Alike_shows : Fun K "shows" "Alike.shows" s_Alike_shows f_Alike_shows d_Alike_shows
  b_Alike_shows : Binds K d_Alike_shows ["self", "rules", "one", "other"] []
  f_Apart_init : Addr
  d_Apart_init : FuncData
  F_Apart_init : Fun K "__init__" "Apart.__init__" s_Apart_init f_Apart_init d_Apart_init
  b_Apart_init : Binds K d_Apart_init ["self", "many"] []
  f_Apart_shows : Addr
  d_Apart_shows : FuncData
  F_Apart_shows : Fun K "shows" "Apart.shows" s_Apart_shows f_Apart_shows d_Apart_shows
  b_Apart_shows : Binds K d_Apart_shows ["self", "rules", "one", "other"] []
  f_law_rules : Addr
  d_law_rules : FuncData
  F_law_rules : Fun K "_law_rules" "_law_rules" s_law_rules f_law_rules d_law_rules
  m_law_rules : mg "_law_rules" = some (.ref f_law_rules)
  b_law_rules : Binds K d_law_rules ["_law_script"] []
  f_law_row : Addr
  d_law_row : FuncData
  F_law_row : Fun K "_law_row" "_law_row" s_law_row f_law_row d_law_row
  m_law_row : mg "_law_row" = some (.ref f_law_row)
  b_law_row : Binds K d_law_row ["_law_rules_here", "_law_script"] []
  f_law_once : Addr
  d_law_once : FuncData
  F_law_once : Fun K "_law_once" "_law_once" s_law_once f_law_once d_law_once
  m_law_once : mg "_law_once" = some (.ref f_law_once)
  b_law_once : Binds K d_law_once ["_law_rules_here", "_law_row_here"] []
  f_law_says : Addr
  d_law_says : FuncData
  F_law_says : Fun K "_law_says" "_law_says" s_law_says f_law_says d_law_says
  m_law_says : mg "_law_says" = some (.ref f_law_says)
  b_law_says : Binds K d_law_says ["_law_said", "_law_due"] []
  f_law_kinds : Addr
  d_law_kinds : FuncData
  F_law_kinds : Fun K "_law_kinds" "_law_kinds" s_law_kinds f_law_kinds d_law_kinds
  m_law_kinds : mg "_law_kinds" = some (.ref f_law_kinds)
  b_law_kinds : Binds K d_law_kinds ["_law_rules_here", "_law_one", "_law_times"] []
  f_law_long : Addr
  d_law_long : FuncData
  F_law_long : Fun K "_law_long" "_law_long" s_law_long f_law_long d_law_long
  m_law_long : mg "_law_long" = some (.ref f_law_long)
  b_law_long : Binds K d_law_long ["_law_rules_here", "_law_row_here", "_law_times"] []
  f_law_letters_right : Addr
  d_law_letters_right : FuncData
  F_law_letters_right : Fun K "_law_letters_right" "_law_letters_right" s_law_letters_right f_law_letters_right d_law_letters_right
  m_law_letters_right : mg "_law_letters_right" = some (.ref f_law_letters_right)
  b_law_letters_right : Binds K d_law_letters_right ["_law_rules_here", "_law_cell"] []
  f_law_rows_right : Addr
  d_law_rows_right : FuncData
  F_law_rows_right : Fun K "_law_rows_right" "_law_rows_right" s_law_rows_right f_law_rows_right d_law_rows_right
  m_law_rows_right : mg "_law_rows_right" = some (.ref f_law_rows_right)
  b_law_rows_right : Binds K d_law_rows_right ["_law_rules_here", "_law_script", "_law_cell"] []
  f_law : Addr
  d_law : FuncData
  F_law : Fun K "law" "law" s_law f_law d_law
  m_law : mg "law" = some (.ref f_law)
  b_law : Binds K d_law ["_law_script"] []
  C_Times : Addr
  cl_Times : Cls K C_Times
  mC_Times : mg "Times" = some (.ref C_Times)
  mk_Times : Mk K C_Times f_Times_init
  me_Times_shows : Meth K C_Times "shows" f_Times_shows
  na_Times_many : NoAttr K C_Times "many"
  C_Shut : Addr
  cl_Shut : Cls K C_Shut
  mC_Shut : mg "Shut" = some (.ref C_Shut)
  mk_Shut : Mk K C_Shut f_Shut_init
  me_Shut_shows : Meth K C_Shut "shows" f_Shut_shows
  na_Shut_letters : NoAttr K C_Shut "letters"
  C_Alike : Addr
  cl_Alike : Cls K C_Alike
  mC_Alike : mg "Alike" = some (.ref C_Alike)
  me_Alike_shows : Meth K C_Alike "shows" f_Alike_shows
  C_Apart : Addr
  cl_Apart : Cls K C_Apart
  mC_Apart : mg "Apart" = some (.ref C_Apart)
  mk_Apart : Mk K C_Apart f_Apart_init
  me_Apart_shows : Meth K C_Apart "shows" f_Apart_shows
  na_Apart_many : NoAttr K C_Apart "many"
  mk_Alike : Mk0 K C_Alike
  bl : ∀ (s : Shared) (u : Value), BindsTo s d_law ⟨[u], []⟩ [("_law_script", u)]
  n_all : mg "all" = none
  n_bool : mg "bool" = none
  n_enumerate : mg "enumerate" = none
  n_int : mg "int" = none
  n_isinstance : mg "isinstance" = none
  n_len : mg "len" = none
  n_max : mg "max" = none
  n_min : mg "min" = none
  n_range : mg "range" = none
  n_set : mg "set" = none
  n_sorted : mg "sorted" = none
  n_str : mg "str" = none
  n_sum : mg "sum" = none
  n_zip : mg "zip" = none
  c_ALPHABET : ∃ t, mg "ALPHABET" = some (.str (tx (lets 26)) t)
end GP

namespace GP
open PySem L2 GT GM
section
variable {P : Program} {w : World} {K : PySem.W.Frag} {mg : Str → Option Value} {base : Heap}

theorem lets_take {n m : Nat} (h : n ≤ m) : (lets m).take n = lets n := by
  unfold lets
  rw [← List.map_take, List.take_range]
  congr 2; omega
theorem kit_str (K : PySem.W.Frag) : PySem.W.kitOne K (.type "str") (.type "str") = some true := rfl
theorem kit_int (K : PySem.W.Frag) : PySem.W.kitOne K (.type "int") (.type "int") = some true := rfl
theorem kit_intb (K : PySem.W.Frag) : PySem.W.kitOne K (.type "int") (.type "bool") = some false := by kernel_rfl
theorem boot_isi : bootBuiltins "isinstance" = some (.builtin "isinstance") := by decide +kernel
theorem boot_str_ : bootBuiltins "str" = some (.type "str") := by decide +kernel
theorem boot_int_ : bootBuiltins "int" = some (.type "int") := by decide +kernel
theorem boot_bool_ : bootBuiltins "bool" = some (.type "bool") := by decide +kernel
theorem boot_set_ : bootBuiltins "set" = some (.type "set") := by decide +kernel
theorem boot_all_ : bootBuiltins "all" = some (.builtin "all") := by decide +kernel
theorem boot_sum_ : bootBuiltins "sum" = some (.builtin "sum") := by decide +kernel
theorem boot_max_ : bootBuiltins "max" = some (.builtin "max") := by decide +kernel
theorem boot_min_ : bootBuiltins "min" = some (.builtin "min") := by decide +kernel

theorem pgl_str {X : Cx} {x z : Str} {t : Tok} {pos : Pos} (hg : Gl X x) (hm : X.mg x = some (.str z t)) (hd : (x == ("__debug__" : Str)) = false := by decide) : PE X (.Name x pos) (tC (.str z)) := pe_glob hg hm (v := .str z) ⟨t, rfl⟩ hd
theorem sc_letters_of : FnScope ["rules"] ["rules"] (defScope s_letters_of) := ⟨rfl, rfl, rfl, by decide +kernel, rfl, by decide +kernel, by decide +kernel⟩
theorem ok_letters_of (T : TX K mg) : FnOk P w K mg base CX0 1 T.f_letters_of T.d_letters_of ["rules"] spLetters := by
  refine T.F_letters_of.ok sc_letters_of (fun vs H Q E h => ?_) (fun cdv A outer s H vs Q E hr h => ?_)
  · obtain ⟨a, xs, rfl, _⟩ := h; rfl
  · obtain ⟨a, xs, rfl, ha, hl, k⟩ := h
    obtain ⟨t, ht⟩ := T.c_ALPHABET
    refine ⟨_, pss_one (ps_ret (pe_slice sl_str (pgl_str rfl ht) po_none (po_some (pe_callB (call_lenKK K) rfl T.n_len PySem.boot_len (pa_cons (pv 0) pa_nil))))), ?_⟩
    refine ⟨_, rfl, a, xs, rfl, .inl (SqL.of ha), _, rfl, _, rfl, by rw [tx_len]; decide, ?_⟩
    rw [slice_to, lets_take hl]
    exact k

theorem sc_is_text_of : FnScope ["letters", "value"] ["letters", "value"] (defScope s_is_text_of) := ⟨rfl, rfl, rfl, by decide +kernel, rfl, by decide +kernel, by decide +kernel⟩
theorem ok_is_text_of (T : TX K mg) : FnOk P w K mg base CX0 1 T.f_is_text_of T.d_is_text_of ["letters", "value"] spIsTextA := by
  refine T.F_is_text_of.ok sc_is_text_of (fun vs H Q E h => ?_) (fun cdv A outer s H vs Q E hr h => ?_)
  · obtain ⟨L, x, rfl, _⟩ := h; rfl
  · obtain ⟨L, x, rfl, hL, hx, k⟩ := h
    refine ⟨_, pss_one (ps_ret (pe_and (pe_callB (call_isiKK K) rfl T.n_isinstance boot_isi (pa_cons (pv 1) (pa_cons (pe_ty rfl T.n_str boot_str_) pa_nil)))
      (pe_one (pe_cmpR op_eq (pe_callB call_lenS rfl T.n_len PySem.boot_len (pa_cons (pe_op op_subA (pe_callTy (call_setS rfl) rfl T.n_set boot_set_ (pa_cons (pv 1) pa_nil)) (pe_callTy (call_setS rfl) rfl T.n_set boot_set_ (pa_cons (pv 0) pa_nil))) pa_nil)) pe_int (nomark _))))), ?_⟩
    refine ⟨_, rfl, _, _, _, _, true, rfl, .ty _, .str _, kit_str K, true, rfl, iteT ?_⟩
    refine ⟨_, rfl, x, rfl, hx, fun p hp => ⟨_, rfl, L, rfl, hL, fun q hq => ?_⟩⟩
    have hpq : p ≠ q := fun z => by rw [z, upd_same] at hq; cases hq
    refine ⟨p, q, _, _, _, _, rfl, rfl, by rw [upd_ne hpq]; exact upd_same, upd_same, by omega, fun r T' m hr' hm => ?_⟩
    refine ⟨r, _, _, rfl, upd_same, rfl, ?_⟩
    have hp' : H p = none := hp
    have hq' : H q = none := by rw [upd_ne (Ne.symm hpq)] at hq; exact hq
    have hr2 : H r = none := by
      have z1 : r ≠ q := fun z => by rw [z, upd_same] at hr'; cases hr'
      rw [upd_ne z1] at hr'
      have z2 : r ≠ p := fun z => by rw [z, upd_same] at hr'; cases hr'
      rw [upd_ne z2] at hr'; exact hr'
    have e : decide (V.int (m : Int) = V.int 0) = decide (∀ c ∈ x, c ∈ L) := by
      rw [decide_eq_decide]
      have hmem : (∀ k, decide (k ∈ sgn x) = true → decide (k ∈ sgn L) = true) ↔ ∀ c ∈ x, c ∈ L := by
        constructor
        · intro h c hc
          have := h (tx [c]) (decide_eq_true ((mem_sgn x _).mpr ⟨c, hc, rfl⟩))
          obtain ⟨c', hc', e⟩ := (mem_sgn L _).mp (of_decide_eq_true this)
          rw [(List.cons.inj (tx_inj e)).1]; exact hc'
        · intro h z hz
          obtain ⟨c, hc, rfl⟩ := (mem_sgn x z).mp (of_decide_eq_true hz)
          exact decide_eq_true ((mem_sgn L _).mpr ⟨c, h c hc, rfl⟩)
      rcases hm with ⟨_, hm⟩ | ⟨hn, hm⟩
      · rw [← hmem, ← hm]
        constructor
        · intro z; injection z with z; omega
        · intro z; rw [z]; rfl
      · constructor
        · intro z; injection z with z; omega
        · intro z
          have := sgn_in z
          omega
    rw [e]
    refine k _ (fun b o eb => ?_)
    rw [upd_ne (ne_of_none eb hr2), upd_ne (ne_of_none eb hq'), upd_ne (ne_of_none eb hp')]
    exact eb

theorem sc_is_number_up_to : FnScope ["most", "value"] ["most", "value"] (defScope s_is_number_up_to) := ⟨rfl, rfl, rfl, by decide +kernel, rfl, by decide +kernel, by decide +kernel⟩
theorem ok_is_number_up_to (T : TX K mg) : FnOk P w K mg base CX0 1 T.f_is_number_up_to T.d_is_number_up_to ["most", "value"] spIsNum := by
  refine T.F_is_number_up_to.ok sc_is_number_up_to (fun vs H Q E h => ?_) (fun cdv A outer s H vs Q E hr h => ?_)
  · obtain ⟨m, v, rfl, _⟩ := h; rfl
  · obtain ⟨m, v, rfl, k⟩ := h
    refine ⟨_, pss_one (ps_ret (pe_and (pe_callB (call_isiKK K) rfl T.n_isinstance boot_isi (pa_cons (pv 1) (pa_cons (pe_ty rfl T.n_int boot_int_) pa_nil)))
      (pe_and (pe_not (pe_callB (call_isiKK K) rfl T.n_isinstance boot_isi (pa_cons (pv 1) (pa_cons (pe_ty rfl T.n_bool boot_bool_) pa_nil))))
      (pe_one (pe_chain op_le op_le pe_int (pv 1) (pv 0)))))), ?_⟩
    refine ⟨_, rfl, _, _, _, _, true, rfl, .ty _, .int _, kit_int K, true, rfl, iteT ?_⟩
    refine ⟨_, rfl, _, _, _, _, false, rfl, .ty _, .int _, kit_intb K, false, rfl, true, rfl, iteT ?_⟩
    refine ⟨_, rfl, _, _, rfl, rfl, _, rfl, ?_⟩
    by_cases h0 : 0 ≤ v
    · rw [decide_eq_true h0]
      refine iteT ⟨_, rfl, _, _, rfl, rfl, ?_⟩
      have e : decide (0 ≤ v ∧ v ≤ m) = decide (v ≤ m) := by simp [h0]
      rw [e] at k
      exact k
    · rw [decide_eq_false h0]
      refine iteF ?_
      have e : decide (0 ≤ v ∧ v ≤ m) = false := by simp [h0]
      rw [e] at k
      exact k


theorem flat_once (R : Ru) (x : Tx) : (x.map fun c => R.getD (c - 97) []).flatten = once R x := by
  unfold once; rw [List.flatMap_def]

theorem sc_counted : FnScope ["letters", "text"] ["letters", "text"] (defScope s_counted) := ⟨rfl, rfl, rfl, by decide +kernel, rfl, by decide +kernel, by decide +kernel⟩
theorem ok_counted (T : TX K mg) : FnOk P w K mg base CX0 1 T.f_counted T.d_counted ["letters", "text"] spCounted := by
  refine T.F_counted.ok sc_counted (fun vs H Q E h => ?_) (fun cdv A outer s H vs Q E hr h => ?_)
  · obtain ⟨n, x, rfl, _⟩ := h; rfl
  · obtain ⟨n, x, rfl, hn, k⟩ := h
    refine ⟨_, pss_one (ps_ret (pe_lc rfl (cs1 (ns := ["sign"]) (x := "text") (k := 1) rfl (Or.inl rfl) rfl (by decide +kernel)) (pi_str (pv 0)) (fun _ _ _ _ _ => pgc 0) (fun _ _ _ _ _ => pif_nil)
      (fun _ _ _ _ _ => pe_bmK K PySem.F.plainAttrs_str PySem.F.slot_str_count PySem.F.type_str_count mt_count (pv 1) (pa_cons (pv 0) pa_nil)))), ?_⟩
    refine ⟨_, rfl, tx (lets n), rfl, ?_⟩
    refine lcb_map (zs := lets n) (ι := fun c => sv [c]) (f := fun c => V.int (x.count c : Nat)) (wk_str (lets n)) rfl (by rw [lets_length]; exact small1000 (by omega)) (fun i c H' Kt hc hs kk => ?_) fun D H' hs hD hDv => ?_
    · exact ⟨_, rfl, rfl, _, rfl, x, c, rfl, rfl, kk H' (Same.refl _)⟩
    · exact k D H' hs hD (by rw [hDv]; unfold cnt ivs; rw [List.map_map]; rfl)

theorem zip_map_int (u v : List Int) : (ivs u).zip (ivs v) = (u.zip v).map fun p => (V.int p.1, V.int p.2) := by
  rw [List.zip_map]; rfl
theorem sc_table_of : FnScope ["rules", "letters"] ["rules"] (defScope s_table_of) := ⟨rfl, rfl, rfl, by decide +kernel, rfl, by decide +kernel, by decide +kernel⟩
theorem ok_table_of (T : TX K mg) : FnOk P w K mg base CX0 2 T.f_table_of T.d_table_of ["rules"] spTable := by
  have G1 := ok_letters_of (P := P) (w := w) (base := base) T
  have G2 := ok_counted (P := P) (w := w) (base := base) T
  refine T.F_table_of.ok sc_table_of (fun vs H Q E h => ?_) (fun cdv A outer s H vs Q E hr h => ?_)
  · obtain ⟨a, R, rfl, _⟩ := h; rfl
  · obtain ⟨a, R, rfl, ha, hR, k⟩ := h
    refine ⟨_, pss_cons (ps_set (i := 1) sc_table_of.nd rfl (Or.inr rfl) (pe_call G1 hr rfl T.m_letters_of T.F_letters_of.kp T.b_letters_of .nil pass0 (pa_cons (pv 0) pa_nil)))
      (pss_one (ps_ret (pe_lc rfl (cs1 (ns := ["text"]) (x := "letters") (k := 1) rfl (Or.inl rfl) rfl (by decide +kernel)) (pi_listK K (pv 0)) (fun _ _ _ _ _ => pgc 0) (fun _ _ _ _ _ => pif_nil)
        (fun _ _ _ _ _ => pe_call G2 hr rfl T.m_counted T.F_counted.kp T.b_counted .nil pass0 (pa_cons (pv 1) (pa_cons (pv 0) pa_nil)))))), ?_⟩
    refine ⟨_, rfl, a, _, rfl, ha, by rw [List.length_map]; exact hR, ?_⟩
    refine ⟨_, rfl, a, rfl, ⟨_, SqL.of ha⟩, ?_⟩
    refine lcb_refs (zs := R) (ι := sv) (f := fun r => ivs (cnt R.length r)) (wk_list (SqL.of ha)) rfl (small1000 (by omega)) (fun i r H' Kt hz hs kk => ?_) fun D ps H' hs hD hDv hRf => ?_
    · refine ⟨_, rfl, _, rfl, R.length, r, by rw [List.length_map]; rfl, hR, fun p H5 s5 hp hp5 => kk p H5 s5 hp hp5⟩
    · refine k D H' hs hD ⟨ps, hDv, by rw [hRf.len]; simp [GM.table], fun i p l h1 h2 => ?_⟩
      unfold GM.table at h2
      rw [List.getElem?_map] at h2
      obtain ⟨r, hr', rfl⟩ := Option.map_eq_some_iff.mp h2
      exact (hRf.at_ i p (ivs (cnt R.length r)) h1 (by rw [List.getElem?_map, hr']; rfl)).1

theorem sc_held_next : FnScope ["table", "held", "told", "many", "line"] ["table", "held"] (defScope s_held_next) := ⟨rfl, rfl, rfl, by decide +kernel, rfl, by decide +kernel, by decide +kernel⟩
theorem ok_held_next (T : TX K mg) : FnOk P w K mg base CX0 1 T.f_held_next T.d_held_next ["table", "held"] spNext := by
  refine T.F_held_next.ok sc_held_next (fun vs H Q E h => ?_) (fun cdv A outer s H vs Q E hr h => ?_)
  · obtain ⟨t, h, T, v, rfl, _⟩ := h; rfl
  · obtain ⟨t, h, M, v, rfl, ht, hM, hh, hl, k⟩ := h
    obtain ⟨ps, hps, lps, rows⟩ := id ht
    refine ⟨_, pss_cons (ps_lc rfl sc_held_next.nd (i := 2) rfl rfl (cs0 (ns := ["line"])) (pi_listK K (pv 0)) (fun _ _ _ _ _ => pgc 0) (fun _ _ _ _ _ => pif_nil) (fun _ _ _ _ _ => pe_int))
      (pss_cons (ps_for PassesOwn.never rfl (pi_zip rfl T.n_zip (pa_cons (pv 1) (pa_cons (pv 0) pa_nil))) (pg_tupK K (n := 2) rfl (pgs_cons (pg_name (i := 3) sc_held_next.nd rfl (Or.inr rfl)) (pgs_cons (pg_name (i := 4) sc_held_next.nd rfl (Or.inl rfl)) pgs_nil)))
        (pss_one (ps_if (pt_cmpR op_ne (pv 3) pe_int (nomark _))
          (pss_one (ps_lc rfl sc_held_next.nd (i := 2) rfl rfl (cs1 (ns := ["so_far", "each"]) (x := "many") (k := 3) rfl (Or.inl rfl) rfl (by decide +kernel)) (pi_zip rfl T.n_zip (pa_cons (pv 2) (pa_cons (pv 4) pa_nil)))
            (fun _ _ _ _ _ => pg_tupK K (n := 2) rfl (pgs_cons (pgc 0) (pgs_cons (pgc 1) pgs_nil))) (fun _ _ _ _ _ => pif_nil)
            (fun _ _ _ _ _ => pe_op op_add (pv 0) (pe_op op_mul (pv 2) (pv 1)))))
          pss_nil)))
      (pss_one (ps_ret (pv 2)))), ?_⟩
    -- told = [0 for line in table]
    refine ⟨_, rfl, t, rfl, ⟨_, SqL.of hps⟩, ?_⟩
    refine lcb_map (zs := ps) (ι := V.ref) (f := fun _ => V.int 0) (wk_list (SqL.of hps)) rfl (by rw [lps]; exact small1000 hM.top) (fun i z H' Kt _ _ kk => kk H' (Same.refl _)) fun D H1 hs1 hD hD1 => ?_
    -- for many, line in zip(held, table)
    have hh1 : IntsAt H1 h v := hs1 _ _ hh
    refine ⟨_, rfl, _, rfl, .lst h, .lst t, _, _, rfl, hh1, hs1 _ _ hps, ?_⟩
    have hz : (ps.map fun _ => V.int 0) = ivs (List.replicate M.length 0) := by
      rw [List.map_const', lps]; simp [ivs]
    refine for_pairs (wk_zip (src_lst hh1) (src_lst (hs1 _ _ hps)) (by rw [List.length_map, List.length_map]; omega))
      (fun i σ H2 => ∃ (d : Addr) (m l : Option V), σ = [some (.ref t), some (.ref h), some (.ref d), m, l] ∧ Same H1 H2 ∧ H d = none ∧ IntsAt H2 d (((v.zip M).take i).foldl hstep (List.replicate M.length 0)))
      ⟨D, none, none, rfl, Same.refl _, hD, by show H1 D = some (.lst (ivs (List.replicate M.length 0))); rw [← hz]; exact hD1⟩ (fun i σ H2 ⟨_, _, _, _, z, _⟩ => z) ?_ ?_
    · rintro i x y p σ H2 hxy ⟨d, m, l, rfl, s2, hd, hdv⟩ hp
      obtain ⟨n, en, rfl⟩ := getI (show (ivs v)[i]? = some x from (List.getElem?_zip_eq_some.mp hxy).1)
      have e2 : (ps.map V.ref)[i]? = some y := (List.getElem?_zip_eq_some.mp hxy).2
      rw [List.getElem?_map] at e2
      obtain ⟨q, eq, rfl⟩ := Option.map_eq_some_iff.mp e2
      have hi : i < M.length := by have := (List.getElem?_eq_some_iff.mp eq).1; omega
      have eM : M[i]? = some M[i] := by simp [hi]
      have hrow : IntsAt H q M[i] := rows i q M[i] eq eM
      have hlen : M[i].length = M.length := hM.rows _ (List.getElem_mem hi)
      have hzip : (v.zip M)[i]? = some (n, M[i]) := List.getElem?_zip_eq_some.mpr ⟨en, eM⟩
      have htk : (v.zip M).take (i + 1) = (v.zip M).take i ++ [(n, M[i])] := by rw [List.take_add_one, hzip]; rfl
      have hfl : (((v.zip M).take i).foldl hstep (List.replicate M.length 0)).length = M.length := by
        have := (foldl_hstep_get M.length ((v.zip M).take i) (List.replicate M.length 0) (by simp) fun p hp => hM.rows _ (List.of_mem_zip (List.mem_of_mem_take hp)).2).1
        exact this
      refine ⟨_, rfl, rfl, _, rfl, ?_⟩
      have dn : decide (V.int n = V.int 0) = decide (n = 0) := by
        by_cases z : n = 0
        · subst z; simp
        · rw [decide_eq_false z, decide_eq_false]; intro q; cases q; exact z rfl
      rw [dn]
      by_cases z : n = 0
      · rw [decide_eq_true z]
        refine iteF ⟨d, _, _, rfl, s2.trans (same_new hp), hd, ?_⟩
        rw [htk, List.foldl_append]
        show IntsAt _ _ (hstep _ _)
        unfold hstep
        rw [if_pos z]
        exact same_new hp _ _ hdv
      · rw [decide_eq_false z]
        refine iteT ?_
        have hdv' : IntsAt (upd H2 p (.tup [V.int n, V.ref q])) d (((v.zip M).take i).foldl hstep (List.replicate M.length 0)) := same_new hp _ _ hdv
        have hq' : IntsAt (upd H2 p (.tup [V.int n, V.ref q])) q M[i] := same_new hp _ _ (s2 _ _ (hs1 _ _ hrow))
        refine ⟨_, rfl, _, rfl, .lst d, .lst q, _, _, rfl, hdv', hq', ?_⟩
        refine lcb_pairs (zs := (((v.zip M).take i).foldl hstep (List.replicate M.length 0)).zip M[i]) (ι := fun p => V.int p.1) (κ := fun p => V.int p.2) (f := fun p => V.int (p.1 + n * p.2)) (p := fun _ => true) (by
          rw [← zip_map_int]
          exact wk_zip (src_lst hdv') (src_lst hq') (by rw [List.length_map, List.length_map]; omega)) rfl (by rw [List.length_zip]; exact small1000 (by have := hM.top; omega)) (fun i z H' Kt _ _ kk => kk H' (Same.refl _)) (fun j e H' Kt he _ hs kk => ?_) fun D2 H3 hs3 hD2 hD3 => ?_
        · exact ⟨_, rfl, _, rfl, _, rfl, _, _, rfl, rfl, .inr (hM.small _ (List.getElem_mem hi) e.2 (List.of_mem_zip (List.mem_of_getElem? he)).2), _, _, rfl, rfl, kk H' (Same.refl _)⟩
        · have hHD : H D2 = none := ((hs1.trans s2).trans (same_new hp)).free hD2
          refine ⟨D2, _, _, rfl, (s2.trans (same_new hp)).trans hs3, hHD, ?_⟩
          rw [htk, List.foldl_append]
          show IntsAt _ _ (hstep _ _)
          unfold hstep
          rw [if_neg z, ← List.map_uncurry_zip_eq_zipWith]
          show H3 D2 = some (.lst (List.map _ _))
          rw [hD3, filt, List.map_map]
          rfl
    · rintro σ H2 ⟨d, m, l, rfl, s2, hd, hdv⟩
      refine ⟨_, rfl, k d H2 (hs1.trans s2) hd ?_⟩
      have el : ((ivs v).zip (ps.map V.ref)).length = (v.zip M).length := by rw [List.length_zip, List.length_zip, List.length_map, List.length_map, lps]
      rw [el, List.take_length] at hdv
      exact hdv

theorem sc_held_after : FnScope ["rules", "row", "times", "table", "held", "step"] ["rules", "row", "times"] (defScope s_held_after) := ⟨rfl, rfl, rfl, by decide +kernel, rfl, by decide +kernel, by decide +kernel⟩
theorem ok_held_after (T : TX K mg) : FnOk P w K mg base CX0 3 T.f_held_after T.d_held_after ["rules", "row", "times"] spAfter := by
  have G1 := ok_letters_of (P := P) (w := w) (base := base) T
  have G2 := ok_counted (P := P) (w := w) (base := base) T
  have G3 := ok_table_of (P := P) (w := w) (base := base) T
  have G4 := ok_held_next (P := P) (w := w) (base := base) T
  refine T.F_held_after.ok sc_held_after (fun vs H Q E h => ?_) (fun cdv A outer s H vs Q E hr h => ?_)
  · obtain ⟨a, R, x, t, rfl, _⟩ := h; rfl
  · obtain ⟨a, R, x, t, rfl, ha, hR, hb, hx, ht, k⟩ := h
    have hr1 := hr.mono (show 1 ≤ 2 by decide)
    refine ⟨_, pss_cons (ps_set (i := 3) sc_held_after.nd rfl (Or.inl rfl) (pe_call G3 hr rfl T.m_table_of T.F_table_of.kp T.b_table_of .nil pass0 (pa_cons (pv 0) pa_nil)))
      (pss_cons (ps_set (i := 4) sc_held_after.nd rfl (Or.inl rfl) (pe_call G2 hr1 rfl T.m_counted T.F_counted.kp T.b_counted .nil pass0 (pa_cons (pe_call G1 hr1 rfl T.m_letters_of T.F_letters_of.kp T.b_letters_of .nil pass0 (pa_cons (pv 0) pa_nil)) (pa_cons (pv 1) pa_nil))))
      (pss_cons (ps_for PassesOwn.never rfl (pi_range1 rfl T.n_range (pa_cons (pv 2) pa_nil)) (pg_name (i := 5) sc_held_after.nd rfl (Or.inl rfl))
        (pss_one (ps_set (i := 4) sc_held_after.nd rfl (Or.inl rfl) (pe_call G4 hr1 rfl T.m_held_next T.F_held_next.kp T.b_held_next .nil pass0 (pa_cons (pv 3) (pa_cons (pv 4) pa_nil))))))
      (pss_one (ps_ret (pv 4))))), ?_⟩
    have h2 := hR.top
    refine ⟨_, rfl, a, R, rfl, ha, h2, fun p H1 s1 hp hT => ?_⟩
    refine ⟨_, rfl, a, _, rfl, s1 _ _ ha, by rw [List.length_map]; exact h2, _, rfl, R.length, x, by rw [List.length_map]; rfl, h2, fun q H2 s2 hq hq2 => ?_⟩
    refine ⟨_, rfl, (t : Int), rfl, by omega, by omega, for_range (lo := 0) (n := (t : Int).toNat) (fun i σ H3 => ∃ (d : Addr) (o : Option V), σ = [some (.ref a), some (sv x), some (.int (t : Nat)), some (.ref p), some (.ref d), o] ∧ Same H H3 ∧ TabAt H3 p (table R) ∧ H d = none ∧ IntsAt H3 d (cnt R.length (grow R i x)))
      ⟨q, none, rfl, s1.trans s2, hT.same s2, s1.free hq, hq2⟩ ?_ ?_⟩
    · rintro i σ H3 hi ⟨d, o, rfl, s3, hT3, hd, hdv⟩
      refine ⟨_, rfl, _, rfl, p, d, table R, cnt R.length (grow R i x), rfl, hT3, table_sq h2 hb, hdv, by rw [cnt_length, table_length], fun e H4 s4 he he4 => ?_⟩
      refine ⟨e, _, rfl, s3.trans s4, hT3.same s4, s3.free he, ?_⟩
      rw [hnext_cnt (OkTx.grow hR hx), ← grow_succ'] at he4
      exact he4
    · rintro σ H3 ⟨d, o, rfl, s3, hT3, hd, hdv⟩
      refine ⟨_, rfl, k d H3 s3 hd ?_⟩
      rw [Int.toNat_natCast] at hdv
      exact hdv


theorem sc_Times_init : FnScope ["self", "many"] ["self", "many"] (defScope s_Times_init) := ⟨rfl, rfl, rfl, by decide +kernel, rfl, by decide +kernel, by decide +kernel⟩
theorem ok_Times_init (T : TX K mg) : FnOk P w K mg base CX0 1 T.f_Times_init T.d_Times_init ["self", "many"] (spInit1 T.C_Times "many") := by
  refine T.F_Times_init.ok sc_Times_init (fun vs H Q E h => ?_) (fun cdv A outer s H vs Q E hr h => ?_)
  · obtain ⟨p, dx, v, rfl, _⟩ := h; rfl
  · obtain ⟨p, dx, v, rfl, hp, k⟩ := h
    refine ⟨_, pss_one (ps_fld (pv 0) (pv 1) rfl), ?_⟩
    exact ⟨_, rfl, _, rfl, p, T.C_Times, dx, [], rfl, hp, T.cl_Times, T.na_Times_many, (by show 0 < 1000; decide), k⟩
theorem sc_Times_shows : FnScope ["self", "rules", "one", "other"] ["self", "rules", "one", "other"] (defScope s_Times_shows) := ⟨rfl, rfl, rfl, by decide +kernel, rfl, by decide +kernel, by decide +kernel⟩
theorem ok_Times_shows (T : TX K mg) : FnOk P w K mg base CX0 4 T.f_Times_shows T.d_Times_shows ["self", "rules", "one", "other"] (spTimes T.C_Times) := by
  have G1 := ok_is_number_up_to (P := P) (w := w) (base := base) T
  have G2 := ok_held_after (P := P) (w := w) (base := base) T
  have G3 := ok_letters_of (P := P) (w := w) (base := base) T
  refine T.F_Times_shows.ok sc_Times_shows (fun vs H Q E h => ?_) (fun cdv A outer s H vs Q E hr h => ?_)
  · obtain ⟨p, dx, m, a, R, c, d, rfl, _⟩ := h; rfl
  · obtain ⟨p, dx, m, a, R, c, d, rfl, hp, ha, hR, hb, hc, hd, k⟩ := h
    have hr1 := hr.mono (show 1 ≤ 3 by decide)
    refine ⟨_, pss_cons (ps_if (pt_not (pt_val (pe_call G1 hr1 rfl T.m_is_number_up_to T.F_is_number_up_to.kp T.b_is_number_up_to .nil pass0 (pa_cons (pe_callB (call_lenKK K) rfl T.n_len PySem.boot_len (pa_cons (pv 1) pa_nil)) (pa_cons (pe_fldKK K (pv 0) rfl) pa_nil))))) (pss_one (ps_ret pe_bl)) pss_nil)
      (pss_one (ps_ret (pe_cmpR op_gt (pe_ix (ix_listKK K) (pe_call G2 hr rfl T.m_held_after T.F_held_after.kp T.b_held_after .nil pass0 (pa_cons (pv 1) (pa_cons (pv 2) (pa_cons (pe_fldKK K (pv 0) rfl) pa_nil))))
        (pe_bmK K PySem.F.plainAttrs_str PySem.F.slot_str_index PySem.F.type_str_index mt_index (pe_call G3 hr1 rfl T.m_letters_of T.F_letters_of.kp T.b_letters_of .nil pass0 (pa_cons (pv 1) pa_nil)) (pa_cons (pv 3) pa_nil)) (fun _ _ => rfl)) pe_int (nomark _)))), ?_⟩
    refine ⟨_, rfl, a, _, rfl, .inl (SqL.of ha), _, rfl, p, T.C_Times, dx, _, _, rfl, hp, T.cl_Times, T.na_Times_many, putF_get _ _, (R.length : Int), m, by rw [List.length_map]; rfl, ?_⟩
    by_cases hm : 0 ≤ m ∧ m ≤ (R.length : Int)
    · rw [decide_eq_true hm]
      refine ⟨true, rfl, iteF ?_⟩
      obtain ⟨t, rfl⟩ := Int.eq_ofNat_of_zero_le hm.1
      have h2 := hR.top
      refine ⟨_, rfl, _, rfl, _, rfl, p, T.C_Times, dx, _, _, rfl, hp, T.cl_Times, T.na_Times_many, putF_get _ _, a, R, [c], t, rfl, ha, hR, hb, hc.ok, by omega, fun ph H1 s1 hph h1 => ?_⟩
      refine ⟨_, rfl, a, _, rfl, s1 _ _ ha, by rw [List.length_map]; exact hR.top, rfl, _, rfl, lets R.length, d, d - 97, by rw [List.length_map], rfl, (lets_ix hd.1 hd.2).1, (lets_ix hd.1 hd.2).2, ph, _, _, _, rfl, rfl, SqL.of h1, atI_nat (cnt_ix hd), _, _, rfl, rfl, ?_⟩
      have e : decide (((grow R t [c]).count d : Nat) > (0 : Int)) = decide (0 ≤ (t : Int) ∧ (t : Int) ≤ (R.length : Int) ∧ d ∈ grow R (t : Int).toNat [c]) := by
        rw [decide_eq_decide, Int.toNat_natCast]
        constructor
        · intro h
          exact ⟨hm.1, hm.2, List.count_pos_iff.mp (by omega)⟩
        · intro h
          have := List.count_pos_iff.mpr h.2.2
          omega
      show Q (V.bl (decide (((grow R t [c]).count d : Nat) > (0 : Int)))) H1
      rw [e]
      exact k H1 s1
    · rw [decide_eq_false hm]
      refine ⟨false, rfl, iteT ?_⟩
      rw [decide_eq_false (fun z => hm ⟨z.1, z.2.1⟩)] at k
      exact k H (Same.refl _)

theorem sc_Shut_init : FnScope ["self", "letters"] ["self", "letters"] (defScope s_Shut_init) := ⟨rfl, rfl, rfl, by decide +kernel, rfl, by decide +kernel, by decide +kernel⟩
theorem ok_Shut_init (T : TX K mg) : FnOk P w K mg base CX0 1 T.f_Shut_init T.d_Shut_init ["self", "letters"] (spInit1 T.C_Shut "letters") := by
  refine T.F_Shut_init.ok sc_Shut_init (fun vs H Q E h => ?_) (fun cdv A outer s H vs Q E hr h => ?_)
  · obtain ⟨p, dx, v, rfl, _⟩ := h; rfl
  · obtain ⟨p, dx, v, rfl, hp, k⟩ := h
    refine ⟨_, pss_one (ps_fld (pv 0) (pv 1) rfl), ?_⟩
    exact ⟨_, rfl, _, rfl, p, T.C_Shut, dx, [], rfl, hp, T.cl_Shut, T.na_Shut_letters, (by show 0 < 1000; decide), k⟩
theorem sc_Shut_shows : FnScope ["self", "rules", "one", "other", "inside"] ["self", "rules", "one", "other"] (defScope s_Shut_shows) := ⟨rfl, rfl, rfl, by decide +kernel, rfl, by decide +kernel, by decide +kernel⟩
theorem ok_Shut_shows (T : TX K mg) : FnOk P w K mg base CX0 2 T.f_Shut_shows T.d_Shut_shows ["self", "rules", "one", "other"] (spShutA T.C_Shut) := by
  have G1 := ok_is_text_of (P := P) (w := w) (base := base) T
  have G2 := ok_letters_of (P := P) (w := w) (base := base) T
  refine T.F_Shut_shows.ok sc_Shut_shows (fun vs H Q E h => ?_) (fun cdv A outer s H vs Q E hr h => ?_)
  · obtain ⟨p, dx, L, a, R, c, d, rfl, _⟩ := h; rfl
  · obtain ⟨p, dx, L, a, R, c, d, rfl, hp, ha, hR, hL, k⟩ := h
    have nd := sc_Shut_shows.nd
    refine ⟨_, pss_cons (ps_if (PW.pt (pw_or (pt_cmpR op_notin_str (pv 2) (pe_fldKK K (pv 0) rfl) (by with_unfolding_all rfl)) (pw_or1 (pt_cmpR op_in_str (pv 3) (pe_fldKK K (pv 0) rfl) (by with_unfolding_all rfl))))) (pss_one (ps_ret pe_bl)) pss_nil)
      (pss_cons (ps_if (pt_not (pt_val (pe_call G1 hr rfl T.m_is_text_of T.F_is_text_of.kp T.b_is_text_of .nil pass0 (pa_cons (pe_call G2 hr rfl T.m_letters_of T.F_letters_of.kp T.b_letters_of .nil pass0 (pa_cons (pv 1) pa_nil)) (pa_cons (pe_fldKK K (pv 0) rfl) pa_nil))))) (pss_one (ps_ret pe_bl)) pss_nil)
      (pss_cons (ps_lc rfl nd (i := 4) rfl rfl (cs1 (ns := ["sign", "text"]) (x := "self") (k := 0) rfl (Or.inl rfl) rfl (by decide +kernel)) (pi_zip rfl T.n_zip (pa_cons (pe_call G2 hr rfl T.m_letters_of T.F_letters_of.kp T.b_letters_of .nil pass0 (pa_cons (pv 1) pa_nil)) (pa_cons (pv 1) pa_nil)))
        (fun _ _ _ _ _ => pg_tupK K (n := 2) rfl (pgs_cons (pgc 0) (pgs_cons (pgc 1) pgs_nil))) (fun _ _ _ _ _ => pif_one (pt_cmpR op_in_str (pv 0) (pe_fldKK K (pv 2) rfl) (by with_unfolding_all rfl))) (fun _ _ _ _ _ => pv 1))
      (pss_one (ps_ret (pe_callB (call_allKK K) rfl T.n_all boot_all_ (pa_cons (pe_lc rfl (cs1 (ns := ["text"]) (x := "self") (k := 0) rfl (Or.inl rfl) rfl (by decide +kernel)) (pi_listK K (pv 4)) (fun _ _ _ _ _ => pgc 0) (fun _ _ _ _ _ => pif_nil)
        (fun _ _ _ _ _ => pe_call G1 hr rfl T.m_is_text_of T.F_is_text_of.kp T.b_is_text_of .nil pass0 (pa_cons (pe_fldKK K (pv 1) rfl) (pa_cons (pv 0) pa_nil)))) pa_nil)))))), ?_⟩
    have h2 := hR.top
    refine ⟨_, rfl, _, rfl, p, T.C_Shut, dx, _, _, rfl, hp, T.cl_Shut, T.na_Shut_letters, putF_get _ _, tx [c], tx L, rfl, rfl, _, rfl, ?_⟩
    rw [in_tx]
    by_cases hc : c ∈ L
    case neg =>
      rw [decide_eq_false hc]
      rw [decide_eq_false (fun z => hc z.1)] at k
      exact iteT (k H (Same.refl _))
    rw [decide_eq_true hc]
    refine iteF ⟨_, rfl, _, rfl, p, T.C_Shut, dx, _, _, rfl, hp, T.cl_Shut, T.na_Shut_letters, putF_get _ _, tx [d], tx L, rfl, rfl, _, rfl, ?_⟩
    rw [in_tx]
    by_cases hd : d ∈ L
    case pos =>
      rw [decide_eq_true hd]
      rw [decide_eq_false (fun z => z.2.1 hd)] at k
      exact iteT (k H (Same.refl _))
    rw [decide_eq_false hd]
    refine iteF ⟨_, rfl, a, _, rfl, ha, by rw [List.length_map]; exact h2, ?_⟩
    rw [List.length_map]
    refine ⟨_, rfl, p, T.C_Shut, dx, _, _, rfl, hp, T.cl_Shut, T.na_Shut_letters, putF_get _ _, lets R.length, L, rfl, Nat.le_trans (sgn_small (lets_ok R.length)) (by omega), hL, fun H1 s1 => ?_⟩
    by_cases hA : ∀ e ∈ L, e ∈ lets R.length
    case neg =>
      rw [decide_eq_false hA]
      rw [decide_eq_false (fun z => hA z.2.2.1)] at k
      exact ⟨false, rfl, iteT (k H1 s1)⟩
    rw [decide_eq_true hA]
    refine ⟨true, rfl, iteF ?_⟩
    have ha1 := s1 _ _ ha
    have hp1 := s1 _ _ hp
    refine ⟨_, rfl, a, _, rfl, ha1, by rw [List.length_map]; exact h2, ?_⟩
    rw [List.length_map]
    refine ⟨_, rfl, .str (tx (lets R.length)), .lst a, _, _, rfl, (src_str (lets_asc h2) : Src.Ok _ H1 _) H1 (Same.refl _), ha1, ?_⟩
    refine lcb_pairs (zs := (lets R.length).zip R) (ι := fun z => V.str (tx [z.1])) (κ := fun z => sv z.2) (f := fun z => sv z.2) (p := fun z => decide (z.1 ∈ L)) (by
      rw [show ((lets R.length).zip R).map (fun z => (V.str (tx [z.1]), sv z.2)) = ((lets R.length).map fun c => V.str (tx [c])).zip (svs R) from by rw [List.zip_map]; rfl]
      exact wk_zip (src_str (lets_asc h2)) (src_lst ha1) (by rw [List.length_map, List.length_map, lets_length])) rfl (by rw [List.length_zip, lets_length]; exact small1000 (by omega))
      (fun i z H' Kt hz hs kk => ?_) (fun i z H' Kt hz _ hs kk => ?_) fun D H2 s2 hD hD2 => ?_
    · refine ⟨_, rfl, _, rfl, p, T.C_Shut, dx, _, _, rfl, hs _ _ hp1, T.cl_Shut, T.na_Shut_letters, putF_get _ _, tx [z.1], tx L, rfl, rfl, _, rfl, ?_⟩
      rw [in_tx]
      exact kk H' (Same.refl _)
    · exact ⟨_, rfl, kk H' (Same.refl _)⟩
    have hp2 := s2 _ _ hp1
    have hin : (∀ r ∈ (((lets R.length).zip R).filter fun z => decide (z.1 ∈ L)).map (·.2), ∀ g ∈ r, g ∈ L) ↔ ∀ e ∈ L, ∀ g ∈ R.getD (e - 97) [], g ∈ L := by
      constructor
      · intro h e he g hg
        have hl := mem_lets.mp (hA e he)
        refine h (R.getD (e - 97) []) (List.mem_map.mpr ⟨(e, R.getD (e - 97) []), List.mem_filter.mpr ⟨?_, decide_eq_true he⟩, rfl⟩) g hg
        refine List.mem_iff_getElem?.mpr ⟨e - 97, List.getElem?_zip_eq_some.mpr ⟨by rw [lets_get (by omega)]; congr 1; omega, ?_⟩⟩
        rw [List.getD_eq_getElem?_getD, List.getElem?_eq_getElem (show e - 97 < R.length by omega)]; rfl
      · intro h r hr' g hg
        obtain ⟨z, hz, rfl⟩ := List.mem_map.mp hr'
        obtain ⟨hz1, hz2⟩ := List.mem_filter.mp hz
        obtain ⟨i, hi⟩ := List.mem_iff_getElem?.mp hz1
        obtain ⟨e1, e2⟩ := List.getElem?_zip_eq_some.mp hi
        have hil : i < R.length := (List.getElem?_eq_some_iff.mp e2).1
        rw [lets_get hil] at e1
        have ez : z.1 = 97 + i := (Option.some.inj e1).symm
        have er : R.getD (z.1 - 97) [] = z.2 := by
          rw [ez, show 97 + i - 97 = i by omega, List.getD_eq_getElem?_getD, e2]; rfl
        exact h z.1 (of_decide_eq_true hz2) g (by rw [er]; exact hg)
    have hR26 : ∀ r ∈ (((lets R.length).zip R).filter fun z => decide (z.1 ∈ L)).map (·.2), OkTx R.length r := fun r hr' => by
      obtain ⟨z, hz, rfl⟩ := List.mem_map.mp hr'
      exact hR.all _ (List.of_mem_zip (List.mem_filter.mp hz).1).2
    rw [show (((lets R.length).zip R).filter fun z => decide (z.1 ∈ L)).map (fun z => sv z.2) = svs ((((lets R.length).zip R).filter fun z => decide (z.1 ∈ L)).map (·.2)) from by unfold svs; rw [List.map_map]; rfl] at hD2
    have hlen : ((((lets R.length).zip R).filter fun z => decide (z.1 ∈ L)).map (·.2)).length ≤ 26 := by
      rw [List.length_map]
      refine Nat.le_trans (List.length_filter_le _ _) ?_
      rw [List.length_zip, lets_length]; omega
    generalize (((lets R.length).zip R).filter fun z => decide (z.1 ∈ L)).map (·.2) = N at hin hR26 hD2 hlen
    refine ⟨_, rfl, D, rfl, ⟨_, SqL.of hD2⟩, ?_⟩
    refine lcb_map (zs := N) (ι := sv) (f := fun r => V.bl (decide (∀ g ∈ r, g ∈ L))) (wk_list (SqL.of hD2)) rfl (small1000 (by omega)) (fun i r H' Kt hz hs kk => ?_) fun D3 H3 s3 hD3 hv3 => ?_
    · have hm := List.mem_of_getElem? hz
      exact ⟨_, rfl, p, T.C_Shut, dx, _, _, rfl, hs _ _ hp2, T.cl_Shut, T.na_Shut_letters, putF_get _ _, _, rfl, L, r, rfl, hL, Nat.le_trans (sgn_small (hR26 r hm)) (by omega), fun H5 s5 => kk H5 s5⟩
    · refine ⟨D3, N.map fun r => decide (∀ g ∈ r, g ∈ L), rfl, rfl, SqL.of (by rw [hv3, List.map_map]; rfl), ?_⟩
      have e : (N.map fun r => decide (∀ g ∈ r, g ∈ L)).all id = decide (ShutOk R L c d) := by
        rw [Bool.eq_iff_iff, List.all_map, List.all_eq_true, decide_eq_true_eq]
        constructor
        · intro h
          exact ⟨hc, hd, hA, hin.mp fun r hr' => of_decide_eq_true (h r hr')⟩
        · intro h r hr'
          exact decide_eq_true (hin.mpr h.2.2.2 r hr')
      rw [e]
      exact k H3 ((s1.trans s2).trans s3)

theorem sc_parting_of : FnScope ["rules", "one", "other", "letters", "table", "gap", "times"] ["rules", "one", "other"] (defScope s_parting_of) := ⟨rfl, rfl, rfl, by decide +kernel, rfl, by decide +kernel, by decide +kernel⟩
theorem ok_parting_of (T : TX K mg) : FnOk P w K mg base CX0 3 T.f_parting_of T.d_parting_of ["rules", "one", "other"] spParting := by
  have G3 := ok_letters_of (P := P) (w := w) (base := base) T
  have G4 := ok_table_of (P := P) (w := w) (base := base) T
  have G5 := ok_counted (P := P) (w := w) (base := base) T
  have G6 := ok_held_next (P := P) (w := w) (base := base) T
  refine T.F_parting_of.ok sc_parting_of (fun vs H Q E h => ?_) (fun cdv A outer s H vs Q E hr h => ?_)
  · obtain ⟨a, R, x, y, rfl, _⟩ := h; rfl
  · obtain ⟨a, R, x, y, rfl, hRx, kD, kS⟩ := h
    have nd := sc_parting_of.nd
    have hr1 := hr.mono (show 1 ≤ 2 by decide)
    refine ⟨_, pss_cons (ps_set (i := 3) nd rfl (Or.inl rfl) (pe_call G3 hr1 rfl T.m_letters_of T.F_letters_of.kp T.b_letters_of .nil pass0 (pa_cons (pv 0) pa_nil)))
      (pss_cons (ps_set (i := 4) nd rfl (Or.inl rfl) (pe_call G4 hr rfl T.m_table_of T.F_table_of.kp T.b_table_of .nil pass0 (pa_cons (pv 0) pa_nil)))
      (pss_cons (ps_lc rfl nd (i := 5) rfl rfl (cs0 (ns := ["mine", "yours"])) (pi_zip rfl T.n_zip (pa_cons (pe_call G5 hr1 rfl T.m_counted T.F_counted.kp T.b_counted .nil pass0 (pa_cons (pv 3) (pa_cons (pv 1) pa_nil))) (pa_cons (pe_call G5 hr1 rfl T.m_counted T.F_counted.kp T.b_counted .nil pass0 (pa_cons (pv 3) (pa_cons (pv 2) pa_nil))) pa_nil)))
        (fun _ _ _ _ _ => pg_tupK K (n := 2) rfl (pgs_cons (pgc 0) (pgs_cons (pgc 1) pgs_nil))) (fun _ _ _ _ _ => pif_nil) (fun _ _ _ _ _ => pe_op op_sub (pv 0) (pv 1)))
      (pss_cons (ps_for PassesOwn.never rfl (pi_range1 rfl T.n_range (pa_cons (pe_callB (call_lenKK K) rfl T.n_len PySem.boot_len (pa_cons (pv 0) pa_nil)) pa_nil)) (pg_name (i := 6) nd rfl (Or.inl rfl))
        (pss_cons (ps_if (pt_cmpR op_ne (pe_callB (call_sumKK K) rfl T.n_sum boot_sum_ (pa_cons (pv 5) pa_nil)) pe_int (nomark _)) (pss_one (ps_ret (pv 6))) pss_nil)
        (pss_one (ps_set (i := 5) nd rfl (Or.inl rfl) (pe_call G6 hr1 rfl T.m_held_next T.F_held_next.kp T.b_held_next .nil pass0 (pa_cons (pv 4) (pa_cons (pv 5) pa_nil)))))))
      (pss_one (ps_ret pe_non))))), ?_⟩
    have h2 := hRx.ok.top
    have hgx : ∀ t, OkTx R.length (grow R t x) := fun t => OkTx.grow hRx.ok hRx.one
    have hgy : ∀ t, OkTx R.length (grow R t y) := fun t => OkTx.grow hRx.ok hRx.two
    have hlc : ∀ u v : Tx, (cnt R.length u).length = (cnt R.length v).length := fun u v => by rw [cnt_length, cnt_length]
    refine ⟨_, rfl, a, _, rfl, hRx.ru, by rw [List.length_map]; exact h2, ?_⟩
    rw [List.length_map]
    refine ⟨_, rfl, a, R, rfl, hRx.ru, h2, fun pt H1 s1 hpt hT => ?_⟩
    refine ⟨_, rfl, _, rfl, R.length, x, rfl, h2, fun p1 H2 s2 hp1 h2' => ⟨_, rfl, _, rfl, R.length, y, rfl, h2, fun p2 H3 s3 hp2 h3' => ?_⟩⟩
    have h23 := s3 _ _ h2'
    refine ⟨.lst p1, .lst p2, _, _, rfl, h23, h3', ?_⟩
    refine lcb_pairs (zs := (cnt R.length x).zip (cnt R.length y)) (ι := fun p => V.int p.1) (κ := fun p => V.int p.2) (f := fun p => V.int (p.1 - p.2)) (p := fun _ => true) (by
      rw [← zip_map_int]
      exact wk_zip (src_lst h23) (src_lst h3') (by rw [List.length_map, List.length_map]; exact hlc x y)) rfl (by rw [List.length_zip, cnt_length]; exact small1000 (by omega)) (fun i z H' Kt _ _ kk => kk H' (Same.refl _)) (fun i z H' Kt hz _ hs kk => ⟨_, rfl, _, rfl, _, _, rfl, rfl, kk H' (Same.refl _)⟩) fun D H4 s4 hD hD4 => ?_
    have s14 := ((s1.trans s2).trans s3).trans s4
    have hD4' : IntsAt H4 D (gap (cnt R.length (grow R 0 x)) (cnt R.length (grow R 0 y))) := by
      show H4 D = some (.lst (ivs (gap (cnt R.length x) (cnt R.length y))))
      rw [hD4, filt, ← gap_map]
      unfold ivs
      rw [List.map_map]; rfl
    have hT4 := ((hT.same s2).same s3).same s4
    refine ⟨_, rfl, a, _, rfl, .inl (SqL.of (s14 _ _ hRx.ru)), ((svs R).length : Int), rfl, by omega, by rw [List.length_map]; omega, ?_⟩
    refine for_range (lo := 0) (n := ((svs R).length : Int).toNat) (fun t σ H5 => Same H4 H5 ∧ ∃ (d : Addr) (o : Option V), σ = [some (.ref a), some (sv x), some (sv y), some (sv (lets R.length)), some (.ref pt), some (.ref d), o] ∧ IntsAt H5 d (gap (cnt R.length (grow R t x)) (cnt R.length (grow R t y))) ∧ ∀ j, j < t → LenEq R x y j)
      ⟨Same.refl _, D, none, rfl, hD4', fun j hj => absurd hj (Nat.not_lt_zero _)⟩ ?_ ?_
    · rintro t σ H5 ht ⟨s5, d, o, rfl, hd5, hle⟩
      rw [List.length_map, Int.toNat_natCast] at ht
      refine ⟨_, rfl, d, _, rfl, rfl, SqL.of hd5, rfl, _, rfl, ?_⟩
      rw [gap_sum (hlc _ _), cnt_sum (hgx t), cnt_sum (hgy t)]
      by_cases he : LenEq R x y t
      · refine iteNS (by rw [he, Int.sub_self]) ?_
        refine ⟨_, rfl, _, rfl, pt, d, GM.table R, _, rfl, hT4.same s5, table_sq h2 hRx.le, hd5, by rw [gap_length (hlc _ _), cnt_length, table_length], fun d6 H6 s6 hd6 h6 => ?_⟩
        rw [gap_grow hRx.ok hRx.one hRx.two] at h6
        refine ⟨s5.trans s6, d6, _, rfl, h6, fun j hj => ?_⟩
        by_cases hjt : j = t
        · rw [hjt]; exact he
        · exact hle j (by omega)
      · rw [decide_eq_false (by intro z; injection z with z; exact he (by show (grow R t x).length = (grow R t y).length; omega))]
        refine iteT ⟨_, rfl, ?_⟩
        rw [Int.zero_add]
        exact kD t ht he H5 (s14.trans s5)
    · rintro σ H5 ⟨s5, d, o, rfl, hd5, hle⟩
      rw [List.length_map, Int.toNat_natCast] at hle
      exact kS hle H5 (s14.trans s5)
theorem sc_Alike_shows : FnScope ["self", "rules", "one", "other"] ["self", "rules", "one", "other"] (defScope s_Alike_shows) := ⟨rfl, rfl, rfl, by decide +kernel, rfl, by decide +kernel, by decide +kernel⟩
theorem ok_Alike_shows (T : TX K mg) : FnOk P w K mg base CX0 4 T.f_Alike_shows T.d_Alike_shows ["self", "rules", "one", "other"] spAlike := by
  have G1 := ok_parting_of (P := P) (w := w) (base := base) T
  refine T.F_Alike_shows.ok sc_Alike_shows (fun vs H Q E h => ?_) (fun cdv A outer s H vs Q E hr h => ?_)
  · obtain ⟨p, a, R, x, y, rfl, _⟩ := h; rfl
  · obtain ⟨p, a, R, x, y, rfl, hRx, kD, kS⟩ := h
    refine ⟨_, pss_one (ps_ret (pe_cmpR op_isN (pe_call G1 hr rfl T.m_parting_of T.F_parting_of.kp T.b_parting_of .nil pass0 (pa_cons (pv 1) (pa_cons (pv 2) (pa_cons (pv 3) pa_nil)))) pe_non (nomark _))), ?_⟩
    refine ⟨_, rfl, _, rfl, _, rfl, a, R, x, y, rfl, hRx, fun t ht hne H1 s1 => ⟨rfl, ?_⟩, fun hall H1 s1 => ⟨rfl, ?_⟩⟩
    · exact kD t ht hne H1 s1
    · exact kS hall H1 s1
theorem sc_Apart_init : FnScope ["self", "many"] ["self", "many"] (defScope s_Apart_init) := ⟨rfl, rfl, rfl, by decide +kernel, rfl, by decide +kernel, by decide +kernel⟩
theorem ok_Apart_init (T : TX K mg) : FnOk P w K mg base CX0 1 T.f_Apart_init T.d_Apart_init ["self", "many"] (spInit1 T.C_Apart "many") := by
  refine T.F_Apart_init.ok sc_Apart_init (fun vs H Q E h => ?_) (fun cdv A outer s H vs Q E hr h => ?_)
  · obtain ⟨p, dx, v, rfl, _⟩ := h; rfl
  · obtain ⟨p, dx, v, rfl, hp, k⟩ := h
    refine ⟨_, pss_one (ps_fld (pv 0) (pv 1) rfl), ?_⟩
    exact ⟨_, rfl, _, rfl, p, T.C_Apart, dx, [], rfl, hp, T.cl_Apart, T.na_Apart_many, (by show 0 < 1000; decide), k⟩
theorem sc_Apart_shows : FnScope ["self", "rules", "one", "other"] ["self", "rules", "one", "other"] (defScope s_Apart_shows) := ⟨rfl, rfl, rfl, by decide +kernel, rfl, by decide +kernel, by decide +kernel⟩
theorem ok_Apart_shows (T : TX K mg) : FnOk P w K mg base CX0 4 T.f_Apart_shows T.d_Apart_shows ["self", "rules", "one", "other"] (spApart T.C_Apart) := by
  have G1 := ok_is_number_up_to (P := P) (w := w) (base := base) T
  have G2 := ok_held_after (P := P) (w := w) (base := base) T
  refine T.F_Apart_shows.ok sc_Apart_shows (fun vs H Q E h => ?_) (fun cdv A outer s H vs Q E hr h => ?_)
  · obtain ⟨p, dx, m, a, R, x, y, rfl, _⟩ := h; rfl
  · obtain ⟨p, dx, m, a, R, x, y, rfl, hp, hRx, k⟩ := h
    have hr1 := hr.mono (show 1 ≤ 3 by decide)
    refine ⟨_, pss_cons (ps_if (pt_not (pt_val (pe_call G1 hr1 rfl T.m_is_number_up_to T.F_is_number_up_to.kp T.b_is_number_up_to .nil pass0 (pa_cons (pe_op op_sub (pe_callB (call_lenKK K) rfl T.n_len PySem.boot_len (pa_cons (pv 1) pa_nil)) pe_int) (pa_cons (pe_fldKK K (pv 0) rfl) pa_nil))))) (pss_one (ps_ret pe_bl)) pss_nil)
      (pss_one (ps_ret (pe_cmpR op_ne (pe_callB (call_sumKK K) rfl T.n_sum boot_sum_ (pa_cons (pe_call G2 hr rfl T.m_held_after T.F_held_after.kp T.b_held_after .nil pass0 (pa_cons (pv 1) (pa_cons (pv 2) (pa_cons (pe_fldKK K (pv 0) rfl) pa_nil)))) pa_nil))
        (pe_callB (call_sumKK K) rfl T.n_sum boot_sum_ (pa_cons (pe_call G2 hr rfl T.m_held_after T.F_held_after.kp T.b_held_after .nil pass0 (pa_cons (pv 1) (pa_cons (pv 3) (pa_cons (pe_fldKK K (pv 0) rfl) pa_nil)))) pa_nil)) (nomark _)))), ?_⟩
    refine ⟨_, rfl, a, _, rfl, .inl (SqL.of hRx.ru), _, _, rfl, rfl, _, rfl, p, T.C_Apart, dx, _, _, rfl, hp, T.cl_Apart, T.na_Apart_many, putF_get _ _, (R.length : Int) - 1, m, by rw [List.length_map]; rfl, ?_⟩
    by_cases hm : 0 ≤ m ∧ m ≤ (R.length : Int) - 1
    · rw [decide_eq_true hm]
      refine ⟨true, rfl, iteF ?_⟩
      obtain ⟨t, rfl⟩ := Int.eq_ofNat_of_zero_le hm.1
      have h2 := hRx.ok.top
      refine ⟨_, rfl, _, rfl, _, rfl, p, T.C_Apart, dx, _, _, rfl, hp, T.cl_Apart, T.na_Apart_many, putF_get _ _, a, R, x, t, rfl, hRx.ru, hRx.ok, hRx.le, hRx.one, by omega, fun p1 H1 s1 hp1 h1 => ⟨p1, _, rfl, rfl, SqL.of h1, ?_⟩⟩
      refine ⟨_, rfl, _, rfl, _, rfl, p, T.C_Apart, dx, _, _, rfl, s1 _ _ hp, T.cl_Apart, T.na_Apart_many, putF_get _ _, a, R, y, t, rfl, s1 _ _ hRx.ru, hRx.ok, hRx.le, hRx.two, by omega, fun p2 H2 s2 hp2 h2' => ⟨p2, _, rfl, rfl, SqL.of h2', rfl, ?_⟩⟩
      rw [cnt_sum (OkTx.grow hRx.ok hRx.one), cnt_sum (OkTx.grow hRx.ok hRx.two)]
      have e : decide (0 ≤ (t : Int) ∧ (t : Int) ≤ (R.length : Int) - 1 ∧ ¬ LenEq R x y (t : Int).toNat) = !decide (V.int ((grow R t x).length : Nat) = V.int ((grow R t y).length : Nat)) := by
        rw [Int.toNat_natCast]
        by_cases h : LenEq R x y t
        · rw [decide_eq_false (fun z => z.2.2 h), decide_eq_true (by rw [show (grow R t x).length = (grow R t y).length from h])]
          rfl
        · rw [decide_eq_true ⟨hm.1, hm.2, h⟩, decide_eq_false (by intro z; injection z with z; exact h (by show (grow R t x).length = (grow R t y).length; omega))]
          rfl
      rw [e] at k
      exact k H2 (s1.trans s2)
    · rw [decide_eq_false hm]
      refine ⟨false, rfl, iteT ?_⟩
      rw [decide_eq_false (fun z => hm ⟨z.1, z.2.1⟩)] at k
      exact k H (Same.refl _)

theorem sc_law_rules : FnScope ["_law_script", "_law_kind", "_law_many", "_law_rules_here", "_law_cell", "_law_at", "_law_put", "_law_again"] ["_law_script"] (defScope s_law_rules) := ⟨rfl, rfl, rfl, by decide +kernel, rfl, by decide +kernel, by decide +kernel⟩
theorem ok_law_rules (T : TX K mg) : FnOk P w K mg base CX0 1 T.f_law_rules T.d_law_rules ["_law_script"] (spLawRules K) := by
  refine T.F_law_rules.ok sc_law_rules (fun vs H Q E h => ?_) (fun cdv A outer s H vs Q E hr h => ?_)
  · obtain ⟨a, ns, rfl, _⟩ := h; rfl
  · obtain ⟨a, ns, rfl, ha, hn, k⟩ := h
    have nd := sc_law_rules.nd
    refine ⟨_, pss_cons (ps_set (i := 1) nd rfl (Or.inl rfl) (pe_op op_mod (pe_callB (call_sumKK K) rfl T.n_sum boot_sum_ (pa_cons (pv 0) pa_nil)) pe_int))
      (pss_cons (ps_set (i := 2) nd rfl (Or.inl rfl) (pe_ix (ix_tupK K) (pe_tup (pa_cons pe_int (pa_cons pe_int (pa_cons (pe_op op_add pe_int (pe_op op_mod (pe_op op_fdiv (pe_callB (call_lenKK K) rfl T.n_len PySem.boot_len (pa_cons (pv 0) pa_nil)) pe_int) pe_int)) (pa_cons pe_int pa_nil))))) (pv 1) (fun _ _ => rfl)))
      (pss_cut (ps_if (pt_cmpR op_eq (pe_op op_mod (pe_op op_fdiv (pe_callB (call_sumKK K) rfl T.n_sum boot_sum_ (pa_cons (pv 0) pa_nil)) pe_int) pe_int) pe_int (nomark _))
        (pss_one (ps_set (i := 2) nd rfl (Or.inl rfl) (pe_op op_add pe_int (pe_op op_mod (pe_op op_fdiv (pe_callB (call_sumKK K) rfl T.n_sum boot_sum_ (pa_cons (pv 0) pa_nil)) pe_int) pe_int)))) pss_nil)
      (pss_cons (ps_lc rfl nd (i := 3) rfl rfl (cs0 (ns := ["_law_place"])) (pi_range1 rfl T.n_range (pa_cons (pv 2) pa_nil)) (fun _ _ _ _ _ => pgc 0) (fun _ _ _ _ _ => pif_nil) (fun _ _ _ _ _ => pe_str))
      (pss_cut (ps_for PassesOwn.never rfl (pi_listK K (pe_slice (sl_listK K) (pv 0) po_none (po_some pe_int))) (pg_name (i := 4) nd rfl (Or.inl rfl))
        (pss_cons (ps_set (i := 5) nd rfl (Or.inl rfl) (pe_op op_mod (pe_op op_fdiv (pv 4) (pv 2)) (pv 2)))
        (pss_cons (ps_set (i := 6) nd rfl (Or.inl rfl) (pe_ix ix_strS pe_str (pe_op op_mod (pv 4) (pv 2)) (fun _ _ => rfl)))
        (pss_one (ps_asg (pe_op op_add_str (pe_ix (ix_listKK K) (pv 3) (pv 5) (fun _ _ => rfl)) (pv 6)) (pg_sub (pv 3) (pv 5) set_list))))))
      (pss_cut (ps_if (pt_cmpR op_eq (pv 1) pe_int (nomark _))
        (pss_one (ps_lc rfl nd (i := 3) rfl rfl (cs0 (ns := ["_law_at", "_law_rule"])) (pi_enum rfl T.n_enumerate (pa_cons (pv 3) pa_nil)) (fun _ _ _ _ _ => pg_tupK K (n := 2) rfl (pgs_cons (pgc 0) (pgs_cons (pgc 1) pgs_nil))) (fun _ _ _ _ _ => pif_nil)
          (fun _ _ _ _ _ => pe_op op_add_str (pe_ix ix_strS pe_str (pv 0) (fun _ _ => rfl)) (pv 1)))) pss_nil)
      (pss_cut (ps_if (pt_cmpR op_eq (pe_op op_mod (pe_op op_fdiv (pe_callB (call_sumKK K) rfl T.n_sum boot_sum_ (pa_cons (pv 0) pa_nil)) pe_int) pe_int) pe_int (nomark _))
        (pss_cons (ps_set (i := 7) nd rfl (Or.inr rfl) (pe_op op_add pe_int (pe_op op_mod (pe_op op_fdiv (pe_callB (call_sumKK K) rfl T.n_sum boot_sum_ (pa_cons (pv 0) pa_nil)) pe_int) pe_int)))
        (pss_one (ps_lc rfl nd (i := 3) rfl rfl (cs1 (ns := ["_law_rule"]) (x := "_law_again") (k := 7) rfl (Or.inl rfl) rfl (by decide +kernel)) (pi_listK K (pv 3)) (fun _ _ _ _ _ => pgc 0) (fun _ _ _ _ _ => pif_nil)
          (fun _ _ _ _ _ => pe_slice sl_str (pe_op op_mul_str (pv 0) (pv 1)) po_none (po_some pe_int))))) pss_nil)
      (pss_one (ps_ret (pv 3))))))))), ?_⟩
    -- kind, many
    refine ⟨_, rfl, a, ns, rfl, rfl, ha, _, _, rfl, rfl, (by show (0 : Int) < 4; decide), ?_⟩
    refine ⟨_, rfl, a, _, rfl, .inl ha, _, _, rfl, rfl, ⟨by decide, by decide⟩, _, _, rfl, rfl, (by show (0 : Int) < 12; decide), _, _, rfl, rfl, (by show 4 ≤ sizeLine; decide), fun p hp => ?_⟩
    have hp' : H p = none := hp
    have s0 : Same H (upd H p (.tup [V.int 2, V.int 3, V.int (1 + ((ns.map V.int).length : Int) / 5 % 12), V.int 4])) := same_new hp'
    have kd : 0 ≤ ns.sum % 4 ∧ ns.sum % 4 < 4 := ⟨Int.emod_nonneg _ (by decide), Int.emod_lt_of_pos _ (by decide)⟩
    obtain ⟨m0, hm0, em0⟩ : ∃ m0 : Nat, (1 ≤ m0 ∧ m0 ≤ 26) ∧ atI [V.int 2, V.int 3, V.int (1 + ((ns.map V.int).length : Int) / 5 % 12), V.int 4] (ns.sum % 4) = some (V.int (m0 : Nat)) := by
      have c3 : 0 ≤ ((ns.map V.int).length : Int) / 5 % 12 ∧ ((ns.map V.int).length : Int) / 5 % 12 < 12 := ⟨Int.emod_nonneg _ (by decide), Int.emod_lt_of_pos _ (by decide)⟩
      generalize ((ns.map V.int).length : Int) / 5 % 12 = q at c3
      have : ns.sum % 4 = 0 ∨ ns.sum % 4 = 1 ∨ ns.sum % 4 = 2 ∨ ns.sum % 4 = 3 := by omega
      rcases this with e | e | e | e <;> rw [e]
      · exact ⟨2, by decide, rfl⟩
      · exact ⟨3, by decide, rfl⟩
      · refine ⟨(1 + q).toNat, by omega, ?_⟩
        show some (V.int (1 + q)) = _
        congr 2; omega
      · exact ⟨4, by decide, rfl⟩
    refine ⟨_, rfl, p, _, _, _, rfl, rfl, SqT.of upd_same, em0, ?_⟩
    have ha1 := s0.seq ha
    generalize upd H p (.tup [V.int 2, V.int 3, V.int (1 + ((ns.map V.int).length : Int) / 5 % 12), V.int 4]) = H1 at s0 ha1
    -- if sum(script) // 4 % 9 == 1
    refine ⟨fun σ H2 => ∃ m : Nat, (1 ≤ m ∧ m ≤ 26) ∧ H2 = H1 ∧ σ = [some (.ref a), some (.int (ns.sum % 4)), some (.int (m : Nat)), none, none, none, none, none], ?_, ?_⟩
    · refine ⟨_, rfl, a, ns, rfl, rfl, ha1, _, _, rfl, rfl, ⟨by decide, by decide⟩, _, _, rfl, rfl, (by show (0 : Int) < 9; decide), rfl, _, rfl, ?_⟩
      refine ite2 (fun _ => ?_) (fun _ => ?_)
      · refine ⟨_, rfl, a, ns, rfl, rfl, ha1, _, _, rfl, rfl, ⟨by decide, by decide⟩, _, _, rfl, rfl, (by show (0 : Int) < 14; decide), _, _, rfl, rfl, (13 + ns.sum / 36 % 14).toNat, ?_, rfl, ?_⟩
        · have : 0 ≤ ns.sum / 36 % 14 ∧ ns.sum / 36 % 14 < 14 := ⟨Int.emod_nonneg _ (by decide), Int.emod_lt_of_pos _ (by decide)⟩
          omega
        · have : 0 ≤ ns.sum / 36 % 14 := Int.emod_nonneg _ (by decide)
          have e : ((13 + ns.sum / 36 % 14).toNat : Int) = 13 + ns.sum / 36 % 14 := by omega
          rw [e]; rfl
      · exact ⟨m0, hm0, rfl, rfl⟩
    rintro _ _ ⟨m, ⟨hm1, hm2⟩, rfl, rfl⟩
    -- ['' for place in range(many)]
    refine ⟨_, rfl, (m : Int), rfl, by omega, by omega, ?_⟩
    refine lcb_map (zs := List.range (m : Int).toNat) (ι := fun (k : Nat) => V.int (0 + (k : Int))) (f := fun _ => sv []) (wk_range 0 _) rfl (by rw [List.length_range]; exact small1000 (by omega)) (fun i z H' Kt _ _ kk => kk H' (Same.refl _)) fun D H2 s2 hD hD2 => ?_
    have hD0 : H D = none := s0.free hD
    have hD2' : RuAt H2 D (List.replicate m []) := by
      show H2 D = _
      rw [hD2, List.map_const', List.length_range, Int.toNat_natCast]
      unfold svs
      rw [List.map_replicate]
    have ha2 := s2.seq ha1
    -- the cells
    refine ⟨fun σ H4 => ∃ (R : Ru) (c t u : Option V), Put m 63 R ∧ Same H H4 ∧ RuAt H4 D R ∧ σ = [some (.ref a), some (.int (ns.sum % 4)), some (.int (m : Nat)), some (.ref D), c, t, u, none], ?_, ?_⟩
    · obtain ⟨ms, ems, lms, _⟩ := cut_ints ns none (some 63)
      refine ⟨_, rfl, _, rfl, a, _, rfl, ha2, fun q hq => ⟨q, rfl, ⟨_, SqL.of upd_same⟩, ?_⟩⟩
      have hqD : q ≠ D := fun z => by rw [z, hD2'] at hq; cases hq
      have hq0 : H q = none := (s0.trans s2).free hq
      rw [ems]
      refine for_list (K := K) (a := q) (xs := ms.map V.int) (fun i σ H4 => ∃ (R : Ru) (c t u : Option V), Put m i R ∧ Same H H4 ∧ RuAt H4 D R ∧ H4 q = some (.lst (ms.map V.int)) ∧ σ = [some (.ref a), some (.int (ns.sum % 4)), some (.int (m : Nat)), some (.ref D), c, t, u, none])
        ⟨_, none, none, none, Put.start m, (s0.trans s2).upd hq0, by show upd H2 q _ D = _; rw [upd_ne (Ne.symm hqD)]; exact hD2', upd_same, rfl⟩ (fun i σ H4 _ ⟨_, _, _, _, _, _, _, z, _⟩ => SqL.of z) ?_ ?_
      · rintro i y σ H4 hy ⟨R, c, t, u, hP, s4, hD4, hq4, rfl⟩
        obtain ⟨z, ez, rfl⟩ := getI hy
        have mp : (0 : Int) < (m : Nat) := by omega
        have r1 : 0 ≤ z / (m : Int) % (m : Int) ∧ z / (m : Int) % (m : Int) < (m : Int) := ⟨Int.emod_nonneg _ (by omega), Int.emod_lt_of_pos _ mp⟩
        have r2 : 0 ≤ z % (m : Int) ∧ z % (m : Int) < (m : Int) := ⟨Int.emod_nonneg _ (by omega), Int.emod_lt_of_pos _ mp⟩
        obtain ⟨j, hj⟩ := Int.eq_ofNat_of_zero_le r1.1
        obtain ⟨c', hc'⟩ := Int.eq_ofNat_of_zero_le r2.1
        have hjm : j < m := by omega
        have hcm : c' < m := by omega
        have hjR : j < R.length := by rw [hP.len]; exact hjm
        refine ⟨_, rfl, _, rfl, _, _, rfl, rfl, ⟨by omega, by omega⟩, _, rfl, _, _, rfl, rfl, mp, ?_⟩
        refine ⟨_, rfl, _, rfl, _, _, rfl, rfl, mp, _, _, _, rfl, rfl, alph_len, alph_at r2.1 (by omega), ?_⟩
        refine ⟨_, rfl, _, rfl, D, _, _, _, rfl, rfl, SqL.of hD4, by rw [hj]; exact atI_nat (svs_get hjR), _, rfl, _, tx [97 + c'], rfl, by rw [hc']; rfl, ?_, ?_⟩
        · rw [tx_len, tx_len]
          have := (hP.ok _ (getD_mem hjR)).2
          have hi : i < 63 := by have := (List.getElem?_eq_some_iff.mp ez).1; omega
          have : i + 1 ≤ 1000 := by omega
          simp only [List.length_cons, List.length_nil]
          exact Nat.le_of_lt (small1000 (by omega))
        · rw [tx_app]
          refine ⟨_, rfl, _, rfl, D, _, _, j, rfl, rfl, hD4, ?_, ?_⟩
          · rw [hj, List.length_map]
            unfold ixN
            rw [if_pos (by omega), if_pos (by omega)]; simp
          · refine ⟨_, _, _, _, hP.step hjm (c := 97 + c') (by omega), s4.upd hD0, ?_, by rw [upd_ne hqD]; exact hq4, rfl⟩
            show upd H4 D _ D = _
            rw [upd_same, svs_set]
      · rintro σ H4 ⟨R, c, t, u, hP, s4, hD4, hq4, rfl⟩
        rw [List.length_map] at hP
        exact ⟨R, c, t, u, ⟨hP.len, fun r hr => ⟨(hP.ok r hr).1, by have := (hP.ok r hr).2; omega⟩⟩, s4, hD4, rfl⟩
    rintro _ H4 ⟨R, c, t, u, hP, s4, hD4, rfl⟩
    have ha4 := s4.seq ha
    -- if kind == 1
    refine ⟨fun σ H5 => ∃ (R : Ru) (D : Addr), Ru100 R ∧ Same H H5 ∧ H D = none ∧ RuAt H5 D R ∧ σ = [some (.ref a), some (.int (ns.sum % 4)), some (.int (m : Nat)), some (.ref D), c, t, u, none], ?_, ?_⟩
    · refine ⟨_, rfl, rfl, _, rfl, ?_⟩
      refine ite2 (fun _ => ?_) (fun _ => ?_)
      · refine ⟨_, rfl, D, _, rfl, hD4, ?_⟩
        refine lcb_pairs (zs := (List.range R.length).zip R) (ι := fun p => V.int (p.1 : Nat)) (κ := fun p => sv p.2) (f := fun p => sv ((97 + p.1) :: p.2)) (p := fun _ => true) (by
          have e : (((List.range R.length).zip R).map fun p => (V.int (p.1 : Nat), sv p.2)) = ((List.range (svs R).length).map fun (k : Nat) => V.int k).zip (svs R) := by
            rw [List.length_map, List.zip_map]; rfl
          rw [e]
          exact wk_enum hD4) rfl (by rw [List.length_zip, List.length_range, hP.len]; exact small1000 (by omega)) (fun i z H' Kt _ _ kk => kk H' (Same.refl _)) (fun i z H' Kt hz _ hs kk => ?_) fun D2 H5 s5 hD2 hD5 => ?_
        · obtain ⟨z1, z2⟩ := List.of_mem_zip (List.mem_of_getElem? hz)
          have z1 := List.mem_range.mp z1
          rw [hP.len] at z1
          refine ⟨_, rfl, _, _, _, rfl, rfl, alph_len, alph_at (j := (z.1 : Int)) (by omega) (by omega), _, rfl, tx [97 + z.1], tx z.2, by rw [Int.toNat_natCast]; rfl, rfl, ?_, ?_⟩
          · rw [tx_len, tx_len]
            have := (hP.ok _ z2).2
            simp only [List.length_cons, List.length_nil]
            exact Nat.le_of_lt (small1000 (by omega))
          · rw [tx_app]
            exact kk H' (Same.refl _)
        · refine ⟨begun R, D2, (begun_put hP).ru hm1 hm2 (by omega), s4.trans s5, s4.free hD2, ?_, rfl⟩
          show H5 D2 = _
          rw [hD5, filt]
          unfold begun svs
          rw [List.map_map]
          rfl
      · exact ⟨R, D, hP.ru hm1 hm2 (by omega), s4, hD0, hD4, rfl⟩
    rintro _ H5 ⟨R2, D2, hR2, s5, hD2, hR5, rfl⟩
    have ha5 := s5.seq ha
    -- if sum(script) // 4 % 7 == 3
    refine ⟨fun σ H6 => ∃ (R : Ru) (D : Addr) (n : Option V), Ru100 R ∧ Same H H6 ∧ H D = none ∧ RuAt H6 D R ∧ σ = [some (.ref a), some (.int (ns.sum % 4)), some (.int (m : Nat)), some (.ref D), c, t, u, n], ?_, ?_⟩
    · refine ⟨_, rfl, a, ns, rfl, rfl, ha5, _, _, rfl, rfl, ⟨by decide, by decide⟩, _, _, rfl, rfl, (by show (0 : Int) < 7; decide), rfl, _, rfl, ?_⟩
      refine ite2 (fun _ => ?_) (fun _ => ?_)
      · refine ⟨_, rfl, a, ns, rfl, rfl, ha5, _, _, rfl, rfl, ⟨by decide, by decide⟩, _, _, rfl, rfl, (by show (0 : Int) < 30; decide), _, _, rfl, rfl, ?_⟩
        have r1 : 0 ≤ ns.sum / 28 % 30 ∧ ns.sum / 28 % 30 < 30 := ⟨Int.emod_nonneg _ (by decide), Int.emod_lt_of_pos _ (by decide)⟩
        obtain ⟨n, hn'⟩ := Int.eq_ofNat_of_zero_le (show 0 ≤ 2 + ns.sum / 28 % 30 by omega)
        refine ⟨_, rfl, D2, rfl, ⟨_, SqL.of hR5⟩, ?_⟩
        refine lcb_map (zs := R2) (ι := sv) (f := fun r => sv ((List.replicate n r).flatten.take 100)) (wk_list (SqL.of hR5)) rfl (small1000 (by have := hR2.ok.top; omega)) (fun i r H' Kt hz hs kk => ?_) fun D3 H6 s6 hD3 hD6 => ?_
        · have hl := hR2.le r (List.mem_of_getElem? hz)
          have hln : r.length * n ≤ 100 * 32 := Nat.mul_le_mul hl (by omega)
          refine ⟨_, rfl, _, rfl, r, n, rfl, congrArg V.int hn', by omega, by omega, _, rfl, tx (List.replicate n r).flatten, rfl, ?_, ?_⟩
          · rw [tx_len, len_rep, Nat.mul_comm]
            exact Nat.le_of_lt (sl_big (by omega))
          · have e : ((100 : Int)) = ((100 : Nat) : Int) := rfl
            rw [e, slice_to]
            exact kk H' (Same.refl _)
        · refine ⟨again n R2, D3, _, again_ru hR2 n, s5.trans s6, s5.free hD3, ?_, rfl⟩
          show H6 D3 = _
          rw [hD6]
          unfold again svs
          rw [List.map_map]
          rfl
      · exact ⟨R2, D2, none, hR2, s5, hD2, hR5, rfl⟩
    rintro _ H6 ⟨R3, D3, n, hR3, s6, hD3, hR6, rfl⟩
    exact ⟨_, rfl, k R3 D3 H6 hR3 s6 hD3 hR6⟩

theorem sc_law_row : FnScope ["_law_rules_here", "_law_script"] ["_law_rules_here", "_law_script"] (defScope s_law_row) := ⟨rfl, rfl, rfl, by decide +kernel, rfl, by decide +kernel, by decide +kernel⟩
theorem ok_law_row (T : TX K mg) : FnOk P w K mg base CX0 1 T.f_law_row T.d_law_row ["_law_rules_here", "_law_script"] (spLawRow K) := by
  refine T.F_law_row.ok sc_law_row (fun vs H Q E h => ?_) (fun cdv A outer s H vs Q E hr h => ?_)
  · obtain ⟨a, b, R, ns, rfl, _⟩ := h; rfl
  · obtain ⟨a, b, R, ns, rfl, ha, hR, hb, hn, k⟩ := h
    refine ⟨_, pss_one (ps_ret (pe_bmK K PySem.F.plainAttrs_str PySem.F.slot_str_join PySem.F.type_str_join (mt_joinK K) pe_str
      (pa_cons (pe_lc rfl (cs1 (ns := ["_law_cell"]) (x := "_law_rules_here") (k := 0) rfl (Or.inl rfl) rfl (by decide +kernel)) (pi_listK K (pe_slice (sl_listK K) (pv 1) po_none (po_some pe_int))) (fun _ _ _ _ _ => pgc 0) (fun _ _ _ _ _ => pif_nil)
        (fun _ _ _ _ _ => pe_ix ix_strS pe_str (pe_op op_mod (pe_op op_fdiv (pv 0) pe_int) (pe_callB (call_lenKK K) rfl T.n_len PySem.boot_len (pa_cons (pv 1) pa_nil))) (fun _ _ => rfl))) pa_nil))), ?_⟩
    have h1 := hR.pos
    have h2 := hR.top
    obtain ⟨ms, ems, lms⟩ : ∃ ms : List Int, cutV (ns.map V.int) none (some 5) = ms.map V.int ∧ ms.length ≤ 5 := ⟨ns.take 5, by rw [show (5 : Int) = ((5 : Nat) : Int) from rfl, cut_upto, List.map_take], by rw [List.length_take]; omega⟩
    refine ⟨rfl, _, rfl, _, rfl, b, _, rfl, hb, fun q hq => ⟨q, rfl, ⟨_, SqL.of upd_same⟩, ?_⟩⟩
    rw [ems]
    have hq' : H q = none := hq
    refine lcb_map (zs := ms) (ι := V.int) (f := fun c => sv [97 + (c / 5 % (R.length : Int)).toNat]) (wk_list (SqL.of upd_same)) rfl (small1000 (by omega)) (fun i c H' Kt hc hs kk => ?_) fun D H' hs hD hDv => ?_
    · have r : 0 ≤ c / 5 % (R.length : Int) ∧ c / 5 % (R.length : Int) < (R.length : Int) := ⟨Int.emod_nonneg _ (by omega), Int.emod_lt_of_pos _ (by omega)⟩
      refine ⟨_, rfl, _, _, rfl, rfl, ⟨by decide, by decide⟩, _, rfl, a, svs R, rfl, .inl (SqL.of (hs _ _ (same_new hq' _ _ ha))), _, _, rfl, rfl, by rw [List.length_map]; omega, _, _, _, rfl, rfl, alph_len, ?_, kk H' (Same.refl _)⟩
      rw [List.length_map]
      exact alph_at r.1 (by omega)
    · refine ⟨D, ms.map fun c => [97 + (c / 5 % (R.length : Int)).toNat], rfl, rfl, SqL.of (by rw [hDv, List.map_map]; rfl), ?_, ?_⟩
      · rw [List.length_flatten, List.map_map]
        have : (List.map (List.length ∘ fun c => [97 + (c / 5 % (R.length : Int)).toNat]) ms).sum = ms.length := by
          have e : (List.length ∘ fun (c : Int) => [97 + (c / 5 % (R.length : Int)).toNat]) = fun _ => 1 := rfl
          rw [e, List.map_const']
          simp
        rw [this]; omega
      · refine k _ (fun c hc => ?_) ?_ H' ((same_new hq').trans hs)
        · obtain ⟨l, hl, hcl⟩ := List.mem_flatten.mp hc
          obtain ⟨z, _, rfl⟩ := List.mem_map.mp hl
          simp at hcl
          have r : 0 ≤ z / 5 % (R.length : Int) ∧ z / 5 % (R.length : Int) < (R.length : Int) := ⟨Int.emod_nonneg _ (by omega), Int.emod_lt_of_pos _ (by omega)⟩
          omega
        · rw [List.length_flatten, List.map_map]
          have : (List.map (List.length ∘ fun c => [97 + (c / 5 % (R.length : Int)).toNat]) ms).sum = ms.length := by
            have e : (List.length ∘ fun (c : Int) => [97 + (c / 5 % (R.length : Int)).toNat]) = fun _ => 1 := rfl
            rw [e, List.map_const']
            simp
          rw [this]; omega
theorem alph_ix {c : Nat} (h1 : 97 ≤ c) (h2 : c < 123) : (lets 26)[c - 97]? = some c ∧ ∀ k, k < c - 97 → (lets 26)[k]? ≠ some c := by
  refine ⟨by rw [lets_get (by omega)]; congr 1; omega, fun k hk => by rw [lets_get (by omega)]; intro e; have := Option.some.inj e; omega⟩
theorem sc_law_once : FnScope ["_law_rules_here", "_law_row_here"] ["_law_rules_here", "_law_row_here"] (defScope s_law_once) := ⟨rfl, rfl, rfl, by decide +kernel, rfl, by decide +kernel, by decide +kernel⟩
theorem ok_law_once (T : TX K mg) : FnOk P w K mg base CX0 1 T.f_law_once T.d_law_once ["_law_rules_here", "_law_row_here"] spLawOnce := by
  refine T.F_law_once.ok sc_law_once (fun vs H Q E h => ?_) (fun cdv A outer s H vs Q E hr h => ?_)
  · obtain ⟨a, R, x, rfl, _⟩ := h; rfl
  · obtain ⟨a, R, x, rfl, ha, h2, hx, hlx, hl, k⟩ := h
    refine ⟨_, pss_one (ps_ret (pe_bmK K PySem.F.plainAttrs_str PySem.F.slot_str_join PySem.F.type_str_join (mt_joinK K) pe_str
      (pa_cons (pe_lc rfl (cs1 (ns := ["_law_sign"]) (x := "_law_rules_here") (k := 0) rfl (Or.inl rfl) rfl (by decide +kernel)) (pi_str (pv 1)) (fun _ _ _ _ _ => pgc 0) (fun _ _ _ _ _ => pif_nil)
        (fun _ _ _ _ _ => pe_ix (ix_listKK K) (pv 1) (pe_bmK K PySem.F.plainAttrs_str PySem.F.slot_str_index PySem.F.type_str_index mt_index pe_str (pa_cons (pv 0) pa_nil)) (fun _ _ => rfl))) pa_nil))), ?_⟩
    refine ⟨rfl, _, rfl, tx x, rfl, ?_⟩
    refine lcb_map (zs := x) (ι := fun c => sv [c]) (f := fun c => sv (R.getD (c - 97) [])) (wk_str x) rfl (sl_big hlx) (fun i c H' Kt hc hs kk => ?_) fun D H' hs hD hDv => ?_
    · have hok := hx c (List.mem_of_getElem? hc)
      have ai := alph_ix hok.1 (by omega)
      exact ⟨_, rfl, rfl, _, rfl, lets 26, c, c - 97, by rw [alph_eq], rfl, ai.1, ai.2, a, _, _, _, rfl, rfl, SqL.of (hs _ _ ha), atI_nat (svs_get (by omega)), kk H' (Same.refl _)⟩
    · refine ⟨D, x.map fun c => R.getD (c - 97) [], rfl, rfl, SqL.of (by rw [hDv, List.map_map]; rfl), ?_, ?_⟩
      · rw [flat_once]; omega
      · rw [flat_once]
        exact k H' hs

theorem boot_sorted_ : bootBuiltins "sorted" = some (.builtin "sorted") := by decide +kernel

theorem e_eq : ("" : Str) = tx [] := by decide +kernel
theorem sc_law_kinds : FnScope ["_law_rules_here", "_law_one", "_law_times", "_law_now", "_law_turn"] ["_law_rules_here", "_law_one", "_law_times"] (defScope s_law_kinds) := ⟨rfl, rfl, rfl, by decide +kernel, rfl, by decide +kernel, by decide +kernel⟩
theorem ok_law_kinds (T : TX K mg) : FnOk P w K mg base CX0 2 T.f_law_kinds T.d_law_kinds ["_law_rules_here", "_law_one", "_law_times"] spLawKinds := by
  have G1 := ok_law_once (P := P) (w := w) (base := base) T
  refine T.F_law_kinds.ok sc_law_kinds (fun vs H Q E h => ?_) (fun cdv A outer s H vs Q E hr h => ?_)
  · obtain ⟨a, R, c, t, rfl, _⟩ := h; rfl
  · obtain ⟨a, R, c, t, rfl, ha, hR, hb, hc, ht, k⟩ := h
    have nd := sc_law_kinds.nd
    refine ⟨_, pss_cons (ps_set (i := 3) nd rfl (Or.inl rfl) (pv 1))
      (pss_cons (ps_for PassesOwn.never rfl (pi_range1 rfl T.n_range (pa_cons (pv 2) pa_nil)) (pg_name (i := 4) nd rfl (Or.inl rfl))
        (pss_one (ps_set (i := 3) nd rfl (Or.inl rfl) (pe_bmK K PySem.F.plainAttrs_str PySem.F.slot_str_join PySem.F.type_str_join (mt_joinK K) pe_str (pa_cons (pe_callB (call_sortedS rfl) rfl T.n_sorted boot_sorted_ (pa_cons (pe_callTy (call_setL rfl) rfl T.n_set boot_set_ (pa_cons (pe_call G1 hr rfl T.m_law_once T.F_law_once.kp T.b_law_once .nil pass0 (pa_cons (pv 0) (pa_cons (pv 3) pa_nil))) pa_nil)) pa_nil)) pa_nil)))))
      (pss_one (ps_ret (pv 3)))), ?_⟩
    have h2 := hR.top
    refine ⟨_, rfl, ?_⟩
    refine ⟨_, rfl, (t : Int), rfl, by omega, by omega, ?_⟩
    refine for_range (lo := 0) (n := (t : Int).toNat) (fun i σ H' => Same H H' ∧ ∃ (now : Tx) (o : Option V), σ = [some (.ref a), some (sv [c]), some (.int (t : Nat)), some (sv now), o] ∧ OkTx R.length now ∧ now.length ≤ 26 ∧ ∀ d, d ∈ now ↔ d ∈ grow R i [c])
      ⟨Same.refl _, [c], none, rfl, hc.ok, (by show 1 ≤ 26; decide), fun d => Iff.rfl⟩ ?_ ?_
    · rintro i σ H1 hi ⟨s1, now, o, rfl, hok, hln, hm⟩
      have lo : (once R now).length ≤ 2600 := by have := once_le hb hok hln; omega
      have ho : OkTx R.length (once R now) := OkTx.once hR hok
      refine ⟨rfl, _, rfl, _, rfl, a, R, now, rfl, s1 _ _ ha, h2, hok, by omega, by omega, fun H2 s2 => ?_⟩
      have hs := sgn_small ho
      refine ⟨once R now, rfl, by omega, fun p3 hp3 => ⟨p3, _, _, rfl, upd_same, by omega, fun q ss hq hl hms => ?_⟩⟩
      obtain ⟨us, rfl, lus, hus⟩ := sorted_out ho hl hms
      have hq2 : H2 q = none := by
        by_cases e : q = p3
        · subst e; exact hp3
        · rwa [upd_ne e] at hq
      have s3 : Same H2 (upd (upd H2 p3 (SetD P w p3 (fun k => decide (k ∈ sgn (once R now))) (sgn (once R now)).length)) q (.lst ((us.map fun e => tx [e]).map V.str))) := (same_new hp3).trans (same_new hq)
      refine ⟨q, us.map fun c => [c], rfl, rfl, SqL.of (by rw [upd_same, List.map_map, List.map_map]; rfl), ?_, ?_⟩
      · rw [flat_single]; omega
      · rw [flat_single]
        refine ⟨s1.trans (s2.trans s3), us, _, rfl, fun c hc => ho c ((hus c).mp hc), by omega, fun d => ?_⟩
        rw [hus, grow_succ']
        exact once_mem hm d
    · rintro σ H1 ⟨s1, now, o, rfl, hok, hln, hm⟩
      rw [Int.toNat_natCast] at hm
      exact ⟨_, rfl, k now hm H1 s1⟩
theorem alph26 {n : Nat} (h : n ≤ 26) : V.str (Txt.slice "abcdefghijklmnopqrstuvwxyz" none (some (n : Int))) = sv (lets n) := by rw [alph_eq, slice_to, lets_take h]

theorem kit_blb (K : PySem.W.Frag) : PySem.W.kitOne K (.type "bool") (.type "bool") = some true := rfl
theorem sc_law_says : FnScope ["_law_said", "_law_due"] ["_law_said", "_law_due"] (defScope s_law_says) := ⟨rfl, rfl, rfl, by decide +kernel, rfl, by decide +kernel, by decide +kernel⟩
theorem ok_law_says (T : TX K mg) : FnOk P w K mg base CX0 1 T.f_law_says T.d_law_says ["_law_said", "_law_due"] spLawSays := by
  refine T.F_law_says.ok sc_law_says (fun vs H Q E h => ?_) (fun cdv A outer s H vs Q E hr h => ?_)
  · obtain ⟨b, c, rfl, _⟩ := h; rfl
  · obtain ⟨b, c, rfl, k⟩ := h
    refine ⟨_, pss_one (ps_ret (pe_and (pe_callB (call_isiKK K) rfl T.n_isinstance boot_isi (pa_cons (pv 0) (pa_cons (pe_ty rfl T.n_bool boot_bool_) pa_nil))) (pe_one (pe_cmpR op_eq (pv 0) (pv 1) (nomark _))))), ?_⟩
    refine ⟨_, rfl, _, _, _, _, true, rfl, .ty _, .bl _, kit_blb K, true, rfl, iteT ⟨_, rfl, _, rfl, rfl, ?_⟩⟩
    have e : decide (V.bl b = V.bl c) = decide (b = c) := by
      rw [decide_eq_decide]
      exact ⟨fun z => by injection z, fun z => by rw [z]⟩
    rw [e]; exact k
theorem z_eq : ("z" : Str) = tx [122] := by decide +kernel
theorem sc_law_letters_right : FnScope ["_law_rules_here", "_law_cell", "_law_names", "_law_one", "_law_other", "_law_many", "_law_due", "_law_reached", "_law_turn", "_law_every", "_law_letters"] ["_law_rules_here", "_law_cell"] (defScope s_law_letters_right) := ⟨rfl, rfl, rfl, by decide +kernel, rfl, by decide +kernel, by decide +kernel⟩
theorem ok_law_letters_right (T : TX K mg) : FnOk P w K mg base CX0 6 T.f_law_letters_right T.d_law_letters_right ["_law_rules_here", "_law_cell"] spLettersRight := by
  have G1 := ok_law_kinds (P := P) (w := w) (base := base) T
  have G2 := ok_Times_init (P := P) (w := w) (base := base) T
  have G3 := ok_Times_shows (P := P) (w := w) (base := base) T
  have G4 := ok_law_says (P := P) (w := w) (base := base) T
  have G5 := ok_law_once (P := P) (w := w) (base := base) T
  have G6 := ok_Shut_init (P := P) (w := w) (base := base) T
  have G7 := ok_Shut_shows (P := P) (w := w) (base := base) T
  refine T.F_law_letters_right.ok sc_law_letters_right (fun vs H Q E h => ?_) (fun cdv A outer s H vs Q E hr h => ?_)
  · obtain ⟨a, R, z, rfl, _⟩ := h; rfl
  · obtain ⟨a, R, z, rfl, ha, hR, k⟩ := h
    have nd := sc_law_letters_right.nd
    have hr1 := hr.mono (show 1 ≤ 5 by decide)
    have hr2 := hr.mono (show 2 ≤ 5 by decide)
    have hr4 := hr.mono (show 4 ≤ 5 by decide)
    refine ⟨_, pss_nz (f := fun y => y == ("_law_other" : Str)) (pss_cons (ps_set (i := 2) nd rfl (Or.inl rfl) pe_str)
      (pss_cons (ps_set (i := 3) nd rfl (Or.inl rfl) (pe_ix ix_strS (pv 2) (pe_op op_mod (pe_op op_fdiv (pv 1) pe_int) (pe_callB (call_lenKK K) rfl T.n_len PySem.boot_len (pa_cons (pv 0) pa_nil))) (fun _ _ => rfl)))
      (pss_cons (ps_setZ (i := 4) nd rfl (Or.inl rfl) (pez_ix (pv 2) (pet_opl op_mod (pet_opr op_fdiv (pv 1) pet_int) (pe_callB (call_lenKK K) rfl T.n_len PySem.boot_len (pa_cons (pv 0) pa_nil))) (fun _ _ => rfl)))
      (pss_cut (ps_for PassesOwn.never rfl (pi_listK K (pe_lst (pa_cons (pe_op op_sub (pe_op op_mod (pe_op op_fdiv (pv 1) pe_int) (pe_op op_add (pe_callB (call_lenKK K) rfl T.n_len PySem.boot_len (pa_cons (pv 0) pa_nil)) pe_int)) pe_int) (pa_cons pe_int (pa_cons (pe_op op_pow pe_int pe_int) pa_nil))))) (pg_name (i := 5) nd rfl (Or.inl rfl))
        (pss_cut (ps_set (i := 6) nd rfl (Or.inl rfl) (pe_and (pe_chain op_le op_le pe_int (pv 5) (pe_callB (call_lenKK K) rfl T.n_len PySem.boot_len (pa_cons (pv 0) pa_nil)))
          (pe_one (pe_cmpR op_in_str (pv 4) (pe_call G1 hr2 rfl T.m_law_kinds T.F_law_kinds.kp T.b_law_kinds .nil pass0 (pa_cons (pv 0) (pa_cons (pv 3) (pa_cons (pe_callB (call_min2 rfl) rfl T.n_min boot_min_ (pa_cons (pe_callB (call_max2 rfl) rfl T.n_max boot_max_ (pa_cons (pv 5) (pa_cons pe_int pa_nil))) (pa_cons (pe_callB (call_lenKK K) rfl T.n_len PySem.boot_len (pa_cons (pv 0) pa_nil)) pa_nil))) pa_nil)))) (by with_unfolding_all rfl)))))
        (pss_one (ps_if (PW.pt (pw_or (pt_cmpR op_ne (pe_fldKK K (pe_make T.mk_Times G2 hr2 rfl T.mC_Times T.b_Times_init .nil pass0 (pa_cons (pv 5) pa_nil)) rfl) (pv 5) (nomark _))
          (pw_or1 (pt_not (pt_val (pe_call G4 hr1 rfl T.m_law_says T.F_law_says.kp T.b_law_says .nil pass0 (pa_cons (pe_meth (pe_make T.mk_Times G2 hr2 rfl T.mC_Times T.b_Times_init .nil pass0 (pa_cons (pv 5) pa_nil)) T.cl_Times T.me_Times_shows G3 hr4 T.b_Times_shows .nil pass0 (pa_cons (pv 0) (pa_cons (pv 3) (pa_cons (pv 4) pa_nil)))) (pa_cons (pv 6) pa_nil)))))))) (pss_one (ps_ret pe_bl)) pss_nil))))
      (pss_cons (ps_set (i := 7) nd rfl (Or.inl rfl) (pv 3))
      (pss_cut (ps_for PassesOwn.never rfl (pi_range1 rfl T.n_range (pa_cons (pe_callB (call_lenKK K) rfl T.n_len PySem.boot_len (pa_cons (pv 0) pa_nil)) pa_nil)) (pg_name (i := 8) nd rfl (Or.inl rfl))
        (pss_one (ps_set (i := 7) nd rfl (Or.inl rfl) (pe_bmK K PySem.F.plainAttrs_str PySem.F.slot_str_join PySem.F.type_str_join (mt_joinK K) pe_str (pa_cons (pe_callB (call_sortedS rfl) rfl T.n_sorted boot_sorted_ (pa_cons (pe_callTy (call_setL rfl) rfl T.n_set boot_set_ (pa_cons (pe_op op_add_str (pv 7) (pe_call G5 hr1 rfl T.m_law_once T.F_law_once.kp T.b_law_once .nil pass0 (pa_cons (pv 0) (pa_cons (pv 7) pa_nil)))) pa_nil)) pa_nil)) pa_nil)))))
      (pss_cons (ps_set (i := 9) nd rfl (Or.inl rfl) (pe_slice sl_str (pv 2) po_none (po_some (pe_callB (call_lenKK K) rfl T.n_len PySem.boot_len (pa_cons (pv 0) pa_nil)))))
      (pss_cut (ps_for PassesOwn.never rfl (pi_listK K (pe_lst (pa_cons (pv 7) (pa_consT (pet_opl op_add_str (pet_stepS (pv 7) (pet_un un_neg pet_int)) (pv 3)) (pan_cons (pen_repl (i := 4) (pv 9) rfl rfl (Or.inl rfl) (by show (("_law_other" : Str) == ("_law_other" : Str)) = true; decide +kernel)) (pa_cons (pv 3) (pa_cons (pe_slice sl_str (pv 7) (po_some pe_int) po_none) (pa_cons (pe_op op_add_str (pv 3) pe_str) (pa_cons pe_str pa_nil)))).n))))) (pg_name (i := 10) nd rfl (Or.inr rfl))
        (pss_cut (ps_set (i := 6) nd rfl (Or.inl rfl) (pe_and (pe_cmpR op_eq (pe_bmK K PySem.F.plainAttrs_str PySem.F.slot_str_strip PySem.F.type_str_strip mt_stripC (pv 10) (pa_cons (pv 9) pa_nil)) pe_str (nomark _)) (pe_and (pe_cmpR op_in_str (pv 3) (pv 10) (by with_unfolding_all rfl)) (pe_one (pe_cmpR op_notin_str (pv 4) (pv 10) (by with_unfolding_all rfl))))))
        (pss_cut (ps_set (i := 6) nd rfl (Or.inl rfl) (pe_and (pv 6) (pe_one (pe_callB (call_allKK K) rfl T.n_all boot_all_ (pa_cons (pe_lc rfl (cs1 (ns := ["_law_sign"]) (x := "_law_letters") (k := 10) rfl (Or.inl rfl) rfl (by decide +kernel)) (pi_str (pe_call G5 hr1 rfl T.m_law_once T.F_law_once.kp T.b_law_once .nil pass0 (pa_cons (pv 0) (pa_cons (pv 10) pa_nil)))) (fun _ _ _ _ _ => pgc 0) (fun _ _ _ _ _ => pif_nil)
          (fun _ _ _ _ _ => pe_cmpR op_in_str (pv 0) (pv 1) (by with_unfolding_all rfl))) pa_nil)))))
        (pss_one (ps_if (PW.pt (pw_or (pt_cmpR op_ne (pe_fldKK K (pe_make T.mk_Shut G6 hr2 rfl T.mC_Shut T.b_Shut_init .nil pass0 (pa_cons (pv 10) pa_nil)) rfl) (pv 10) (nomark _))
          (pw_or1 (pt_not (pt_val (pe_call G4 hr1 rfl T.m_law_says T.F_law_says.kp T.b_law_says .nil pass0 (pa_cons (pe_meth (pe_make T.mk_Shut G6 hr2 rfl T.mC_Shut T.b_Shut_init .nil pass0 (pa_cons (pv 10) pa_nil)) T.cl_Shut T.me_Shut_shows G7 hr2 T.b_Shut_shows .nil pass0 (pa_cons (pv 0) (pa_cons (pv 3) (pa_cons (pv 4) pa_nil)))) (pa_cons (pv 6) pa_nil)))))))) (pss_one (ps_ret pe_bl)) pss_nil)))))
      (pss_one (ps_ret pe_bl)))))))))), ?_⟩
    have r1 := hR.ok.pos
    have r2 := hR.ok.top
    have R5 : ∀ r ∈ R, r.length ≤ 100000 := fun r hr => Nat.le_trans (hR.le r hr) (by decide)
    refine ⟨fun i x hi hx => ?_, ?_⟩
    · have hx' : x = "_law_other" := beq_iff_eq.mp hx
      subst hx'
      have hi4 : i = 4 := nodup_ix nd hi rfl
      subst hi4
      rfl
    obtain ⟨k1, e1, l1⟩ := let_by (n := R.length) r1 z 3
    obtain ⟨k2, e2, l2⟩ := let_by (n := R.length) r1 z 7
    refine ⟨_, rfl, _, rfl, _, _, rfl, rfl, ⟨by decide, by decide⟩, _, rfl, a, _, rfl, .inl (SqL.of ha), _, _, rfl, rfl, by rw [List.length_map]; omega, _, _, 97 + k1, rfl, rfl, alph_len, ?_, ?_⟩
    · rw [List.length_map, e1]
      have := alph_at (j := (k1 : Int)) (by omega) (by omega)
      rw [Int.toNat_natCast] at this; exact this
    refine ⟨_, rfl, _, rfl, _, _, rfl, rfl, ⟨by decide, by decide⟩, _, rfl, a, _, rfl, .inl (SqL.of ha), _, _, rfl, rfl, by rw [List.length_map]; omega, _, _, 97 + k2, rfl, rfl, alph_len, ?_, ?_⟩
    · rw [List.length_map, e2]
      have := alph_at (j := (k2 : Int)) (by omega) (by omega)
      rw [Int.toNat_natCast] at this; exact this
    have lc : Let R.length (97 + k1) := ⟨by omega, by omega⟩
    have ld : Let R.length (97 + k2) := ⟨by omega, by omega⟩
    generalize 97 + k1 = c at lc
    generalize 97 + k2 = d at ld
    clear e1 e2 l1 l2 k1 k2
    -- for many
    refine ⟨fun σ' H' => Same H H' ∧ ∃ o5 o6 : Option V, σ' = [some (.ref a), some (.int z), some (.str "abcdefghijklmnopqrstuvwxyz"), some (sv [c]), some (sv [d]), o5, o6, none, none, none, none], ?_, ?_⟩
    · refine ⟨_, rfl, _, _, rfl, rfl, ⟨by decide, by decide⟩, _, rfl, a, _, rfl, .inl (SqL.of ha), _, _, rfl, rfl, _, _, rfl, rfl, by rw [List.length_map]; omega, _, _, rfl, rfl, _, _, rfl, rfl, ⟨by decide, by decide, by decide⟩, by show 3 ≤ sizeLine; decide, fun q hq => ⟨q, rfl, ⟨_, SqL.of upd_same⟩, ?_⟩⟩
      have hq0 : H q = none := hq
      have sq : Same H (upd H q (.lst [V.int (z / 5 % (((svs R).length : Int) + 3) - 1), V.int 0, V.int ((10 : Int) ^ (30 : Int).toNat)])) := same_new hq0
      have hqv : upd H q (.lst [V.int (z / 5 % (((svs R).length : Int) + 3) - 1), V.int 0, V.int ((10 : Int) ^ (30 : Int).toNat)]) q = some (.lst [V.int (z / 5 % (((svs R).length : Int) + 3) - 1), V.int 0, V.int ((10 : Int) ^ (30 : Int).toNat)]) := upd_same
      refine for_list (K := K) (a := q) (xs := [V.int (z / 5 % (((svs R).length : Int) + 3) - 1), V.int 0, V.int ((10 : Int) ^ (30 : Int).toNat)]) (fun i σ' H' => Same (upd H q (.lst [V.int (z / 5 % (((svs R).length : Int) + 3) - 1), V.int 0, V.int ((10 : Int) ^ (30 : Int).toNat)])) H' ∧ ∃ o5 o6 : Option V, σ' = [some (.ref a), some (.int z), some (.str "abcdefghijklmnopqrstuvwxyz"), some (sv [c]), some (sv [d]), o5, o6, none, none, none, none]) ⟨Same.refl _, none, none, rfl⟩ (fun i σ' H' _ ⟨w, _⟩ => SqL.of (w _ _ hqv)) ?_ (fun σ' H' ⟨w, v⟩ => ⟨sq.trans w, v⟩)
      rintro i y σ' H5 hy ⟨s5, o5, o6, rfl⟩
      obtain ⟨m, rfl⟩ : ∃ m, y = V.int m := by
        match i, hy with
        | 0, hy => cases hy; exact ⟨_, rfl⟩
        | 1, hy => cases hy; exact ⟨_, rfl⟩
        | 2, hy => cases hy; exact ⟨_, rfl⟩
        | i + 3, hy => simp at hy
      have ha5 := (sq.trans s5) _ _ ha
      refine ⟨fun σ' H' => Same H5 H' ∧ σ' = [some (.ref a), some (.int z), some (.str "abcdefghijklmnopqrstuvwxyz"), some (sv [c]), some (sv [d]), some (.int m), some (.bl (decide (DueT R c d m))), none, none, none, none], ?_, ?_⟩
      · refine ⟨_, rfl, _, _, rfl, rfl, ?_⟩
        by_cases h0 : 0 ≤ m
        case neg =>
          refine ⟨false, congrArg V.bl (decide_eq_false h0), iteF ⟨false, rfl, iteF ⟨Same.refl _, ?_⟩⟩⟩
          rw [decide_eq_false (fun w => h0 w.1)]; rfl
        refine ⟨true, congrArg V.bl (decide_eq_true h0), iteT ⟨_, rfl, a, _, rfl, .inl (SqL.of ha5), _, _, rfl, rfl, ?_⟩⟩
        by_cases h1 : m ≤ (R.length : Int)
        case neg =>
          refine ⟨false, congrArg V.bl (decide_eq_false (by rw [List.length_map]; exact h1)), iteF ⟨Same.refl _, ?_⟩⟩
          rw [decide_eq_false (fun w => h1 w.2.1)]; rfl
        obtain ⟨t, rfl⟩ := Int.eq_ofNat_of_zero_le h0
        refine ⟨true, congrArg V.bl (decide_eq_true (by rw [List.length_map]; exact h1)), iteT ⟨_, rfl, _, rfl, _, rfl, _, rfl, _, _, rfl, _, rfl, a, _, rfl, .inl (SqL.of ha5), _, _, rfl, a, R, c, t, ?_, ha5, hR.ok, hR.le, lc, by omega, fun y hy H6 s6 => ⟨tx [d], tx y, rfl, rfl, s6, ?_⟩⟩⟩
        · have e : (if ((svs R).length : Int) < (if (0 : Int) > (t : Int) then 0 else (t : Int)) then ((svs R).length : Int) else (if (0 : Int) > (t : Int) then 0 else (t : Int))) = (t : Int) := by
            rw [List.length_map]
            split <;> split <;> omega
          exact congrArg (fun w => [V.ref a, sv [c], V.int w]) e
        · rw [in_tx]
          have e : decide (d ∈ y) = decide (DueT R c d (t : Int)) := by
            rw [decide_eq_decide, hy]
            exact ⟨fun w => ⟨h0, h1, by rw [Int.toNat_natCast]; exact w⟩, fun w => by have := w.2.2; rw [Int.toNat_natCast] at this; exact this⟩
          rw [e]; rfl
      rintro _ H6 ⟨s6, rfl⟩
      have ha6 := s6 _ _ ha5
      refine ⟨_, rfl, fun x dx hx hdx hxd => ⟨x, dx, .int m, rfl, upd_same, rfl, x, T.C_Times, dx, _, _, rfl, upd_same, T.cl_Times, T.na_Times_many, putF_get _ _, _, rfl, rfl, _, rfl, iteNS rfl ?_⟩⟩
      have s7 : Same H6 (upd (upd (upd H6 dx (.own x)) x (.ins T.C_Times dx [])) x (.ins T.C_Times dx (putF "many" (.int m) []))) := made_same hx hdx hxd
      generalize upd (upd (upd H6 dx (.own x)) x (.ins T.C_Times dx [])) x (.ins T.C_Times dx (putF "many" (.int m) [])) = H7 at s7
      refine ⟨_, rfl, fun x dx hx hdx hxd => ⟨x, dx, .int m, rfl, upd_same, rfl, x, dx, _, rfl, upd_same, rfl, _, rfl, _, rfl, _, rfl, x, dx, m, a, R, c, d, rfl, upd_same, ?_, hR.ok, R5, lc, ld, fun H9 s9 => ⟨_, rfl, _, _, rfl, true, congrArg V.bl (decide_eq_true rfl), iteF ?_⟩⟩⟩
      · exact made_same hx hdx hxd _ _ (s7 _ _ ha6)
      · exact ⟨s5.trans (s6.trans (s7.trans ((made_same hx hdx hxd).trans s9))), _, _, rfl⟩
    rintro _ H1 ⟨s1, o5, o6, rfl⟩
    have ha1 := s1 _ _ ha
    refine ⟨_, rfl, ?_⟩
    -- reached
    refine ⟨fun σ' H' => Same H1 H' ∧ ∃ (x : Tx) (o8 : Option V), OkTx R.length x ∧ x.length ≤ 26 ∧ σ' = [some (.ref a), some (.int z), some (.str "abcdefghijklmnopqrstuvwxyz"), some (sv [c]), some (sv [d]), o5, o6, some (sv x), o8, none, none], ?_, ?_⟩
    · refine ⟨_, rfl, a, _, rfl, .inl (SqL.of ha1), ((svs R).length : Int), rfl, by omega, by rw [List.length_map]; omega, ?_⟩
      refine for_range (lo := 0) (n := ((svs R).length : Int).toNat) (fun i σ' H' => Same H1 H' ∧ ∃ (x : Tx) (o8 : Option V), OkTx R.length x ∧ x.length ≤ 26 ∧ σ' = [some (.ref a), some (.int z), some (.str "abcdefghijklmnopqrstuvwxyz"), some (sv [c]), some (sv [d]), o5, o6, some (sv x), o8, none, none])
        ⟨Same.refl _, [c], none, lc.ok, (by show 1 ≤ 26; decide), rfl⟩ ?_ (fun σ' H' w => w)
      rintro i σ' H2 hi ⟨s2, x, o8, hok, hlx, rfl⟩
      have lo : (once R x).length ≤ 2600 := by have := once_le hR.le hok hlx; omega
      have ho : OkTx R.length (x ++ once R x) := hok.append (OkTx.once hR.ok hok)
      have hs := sgn_small ho
      refine ⟨rfl, _, rfl, _, rfl, _, rfl, a, R, x, rfl, s2 _ _ ha1, r2, hok, by omega, by omega, fun H3 s3 => ⟨tx x, tx (once R x), rfl, rfl, by rw [tx_len, tx_len]; exact Nat.le_of_lt (sl_big (by omega)), ?_⟩⟩
      rw [tx_app]
      refine ⟨x ++ once R x, rfl, by omega, fun p3 hp3 => ⟨p3, _, _, rfl, upd_same, by omega, fun q ss hq hl hms => ?_⟩⟩
      obtain ⟨us, rfl, lus, hus⟩ := sorted_out ho hl hms
      have s4 : Same H3 (upd (upd H3 p3 (SetD P w p3 (fun k => decide (k ∈ sgn (x ++ once R x))) (sgn (x ++ once R x)).length)) q (.lst ((us.map fun e => tx [e]).map V.str))) := (same_new hp3).trans (same_new hq)
      refine ⟨q, us.map fun c => [c], rfl, rfl, SqL.of (by rw [upd_same, List.map_map, List.map_map]; rfl), ?_, ?_⟩
      · rw [flat_single]; omega
      · rw [flat_single]
        exact ⟨s2.trans (s3.trans s4), us, _, fun c hc => ho c ((hus c).mp hc), by omega, rfl⟩
    rintro _ H2 ⟨s2, x, o8, hox, hlx, rfl⟩
    have ha2 := s2 _ _ ha1
    refine ⟨_, rfl, _, rfl, a, _, rfl, .inl (SqL.of ha2), _, rfl, _, rfl, alph_len, ?_⟩
    rw [List.length_map, alph26 r2]
    -- for letters
    refine ⟨fun _ H' => Same H2 H', ?_, fun σ' H' w => k H' (s1.trans (s2.trans w))⟩
    have lle : (lets R.length).length ≤ 26 := by rw [lets_length]; exact r2
    refine ⟨_, rfl, _, rfl, _, rfl, _, rfl, x, _, rfl, by rw [tx_len]; exact Nat.le_of_lt (small1000 (by omega)), rfl, by decide, fun x2 lx2 mx2 => ⟨_, rfl, tx x2, tx [c], rfl, rfl, by rw [tx_len, tx_len]; exact Nat.le_of_lt (small1000 (by show _ + 1 ≤ 1000; omega)), ?_⟩⟩
    rw [tx_app]
    refine ⟨_, rfl, lets R.length, tx [d], rfl, by omega, rfl, ?_, fun l3 hl3 => ?_⟩
    · rw [e_eq]
      exact beq_eq_false_iff_ne.mpr fun w => by have := tx_inj w; cases this
    have e0 : ("" : Str).length = 0 := by rw [e_eq, tx_len]; rfl
    rw [e0] at hl3
    refine ⟨_, rfl, _, rfl, _, rfl, tx x, rfl, by rw [tx_len]; exact Nat.le_of_lt (small1000 (by omega)), _, rfl, tx [c], _, rfl, rfl, by rw [z_eq, tx_len, tx_len]; exact Nat.le_of_lt (small1000 (by show 1 + 1 ≤ 1000; decide)), by show 7 ≤ sizeLine; decide, fun q hq => ⟨q, rfl, ⟨_, SqL.of upd_same⟩, ?_⟩⟩
    have hq0 : H2 q = none := hq
    have sq : Same H2 (upd H2 q (.lst [sv x, sv (x2 ++ [c]), sv l3, sv [c], V.str (Txt.slice (tx x) (some 1) none), V.str (tx [c] ++ "z"), V.str ""])) := same_new hq0
    have hqv : upd H2 q (.lst [sv x, sv (x2 ++ [c]), sv l3, sv [c], V.str (Txt.slice (tx x) (some 1) none), V.str (tx [c] ++ "z"), V.str ""]) q = some (.lst [sv x, sv (x2 ++ [c]), sv l3, sv [c], V.str (Txt.slice (tx x) (some 1) none), V.str (tx [c] ++ "z"), V.str ""]) := upd_same
    refine for_list (K := K) (a := q) (xs := [sv x, sv (x2 ++ [c]), sv l3, sv [c], V.str (Txt.slice (tx x) (some 1) none), V.str (tx [c] ++ "z"), V.str ""]) (fun i σ' H' => Same (upd H2 q (.lst [sv x, sv (x2 ++ [c]), sv l3, sv [c], V.str (Txt.slice (tx x) (some 1) none), V.str (tx [c] ++ "z"), V.str ""])) H' ∧ ∃ o6 oa : Option V, σ' = [some (.ref a), some (.int z), some (.str "abcdefghijklmnopqrstuvwxyz"), some (sv [c]), some (sv [d]), o5, o6, some (sv x), o8, some (sv (lets R.length)), oa]) ⟨Same.refl _, o6, none, rfl⟩ (fun i σ' H' _ ⟨w, _⟩ => SqL.of (w _ _ hqv)) ?_ (fun σ' H' ⟨w, _⟩ => sq.trans w)
    rintro i y σ' H5 hy ⟨s5, o6, oa, rfl⟩
    obtain ⟨L, rfl, hL⟩ : ∃ L : Tx, y = sv L ∧ L.length ≤ 60 := by
      match i, hy with
      | 0, hy => cases hy; exact ⟨x, rfl, by omega⟩
      | 1, hy => cases hy; exact ⟨x2 ++ [c], rfl, by rw [List.length_append]; show _ + 1 ≤ 60; omega⟩
      | 2, hy => cases hy; exact ⟨l3, rfl, by omega⟩
      | 3, hy => cases hy; exact ⟨[c], rfl, by show 1 ≤ 60; decide⟩
      | 4, hy =>
        cases hy
        refine ⟨(Txt.slice (tx x) (some 1) none).cps.toList, by show V.str _ = V.str (tx _); rw [tx_list], ?_⟩
        have := PyProof.Txt.length_slice_le (tx x) (some 1) none
        rw [tx_len] at this
        rw [Array.length_toList]
        exact Nat.le_trans this (by omega)
      | 5, hy => cases hy; exact ⟨[c] ++ [122], by rw [z_eq, tx_app], by show 2 ≤ 60; decide⟩
      | 6, hy => cases hy; exact ⟨[], by rw [e_eq], by decide⟩
      | i + 7, hy => simp at hy
    have hsL : (sgn L).length ≤ 100 := by
      have := nd_len (sgn_nodup L) (m := L.map fun c => tx [c]) fun k hk => by
        obtain ⟨c, hc, rfl⟩ := (mem_sgn L k).mp hk
        exact List.mem_map.mpr ⟨c, hc, rfl⟩
      rw [List.length_map] at this
      omega
    have txn : (tx L).length ≤ sizeLine := tx_le hL (by decide)
    have ha5 := (sq.trans s5) _ _ ha2
    -- due
    refine ⟨fun σ' H' => H5 = H' ∧ σ' = [some (.ref a), some (.int z), some (.str "abcdefghijklmnopqrstuvwxyz"), some (sv [c]), some (sv [d]), o5, some (.bl (decide ((∀ e ∈ L, e ∈ lets R.length) ∧ c ∈ L ∧ d ∉ L))), some (sv x), o8, some (sv (lets R.length)), some (sv L)], ?_, ?_⟩
    · refine ⟨_, rfl, rfl, _, rfl, tx L, tx (lets R.length), rfl, rfl, txn, rfl, ?_⟩
      by_cases hA : ∀ e ∈ L, e ∈ lets R.length
      case neg =>
        refine ⟨false, congrArg V.bl (decide_eq_false fun w => ?_), iteF ⟨rfl, ?_⟩⟩
        · injection w with w
          rw [e_eq] at w
          refine strip_some ?_ w
          exact Classical.byContradiction fun hn => hA fun e he => Classical.byContradiction fun h => hn ⟨e, he, h⟩
        · rw [decide_eq_false (fun w => hA w.1)]; rfl
      refine ⟨true, congrArg V.bl (decide_eq_true (by rw [strip_all hA, e_eq])), iteT ⟨_, rfl, _, rfl, tx [c], tx L, rfl, rfl, ?_⟩⟩
      rw [in_tx]
      by_cases hc : c ∈ L
      case neg =>
        refine ⟨false, congrArg V.bl (decide_eq_false hc), iteF ⟨rfl, ?_⟩⟩
        rw [decide_eq_false (fun w => hc w.2.1)]; rfl
      refine ⟨true, congrArg V.bl (decide_eq_true hc), iteT ⟨_, rfl, _, rfl, tx [d], tx L, rfl, rfl, rfl, ?_⟩⟩
      rw [in_tx]
      have e : (!decide (d ∈ L)) = decide ((∀ e ∈ L, e ∈ lets R.length) ∧ c ∈ L ∧ d ∉ L) := by
        by_cases hd : d ∈ L
        · rw [decide_eq_true hd, decide_eq_false (fun w => w.2.2 hd)]; rfl
        · rw [decide_eq_false hd, decide_eq_true ⟨hA, hc, hd⟩]; rfl
      rw [e]; rfl
    rintro _ _ ⟨rfl, rfl⟩
    refine ⟨fun σ' H' => Same H5 H' ∧ σ' = [some (.ref a), some (.int z), some (.str "abcdefghijklmnopqrstuvwxyz"), some (sv [c]), some (sv [d]), o5, some (.bl (decide (ShutOk R L c d))), some (sv x), o8, some (sv (lets R.length)), some (sv L)], ?_, ?_⟩
    · refine ⟨_, rfl, _, rfl, ?_⟩
      by_cases hB : (∀ e ∈ L, e ∈ lets R.length) ∧ c ∈ L ∧ d ∉ L
      case neg =>
        rw [decide_eq_false hB]
        refine iteF ⟨Same.refl _, ?_⟩
        rw [decide_eq_false (fun w => hB ⟨w.2.2.1, w.1, w.2.1⟩)]; rfl
      rw [decide_eq_true hB]
      have hok : OkTx R.length L := fun e he => mem_lets.mp (hB.1 e he)
      have lo : (once R L).length ≤ 6000 := by have := once_le hR.le hok hL; omega
      refine iteT ⟨_, rfl, _, rfl, a, R, L, rfl, ha5, r2, hok, by omega, by omega, fun H6 s6 => ⟨tx (once R L), rfl, ?_⟩⟩
      refine lcb_map (zs := once R L) (ι := fun c => sv [c]) (f := fun e => V.bl (decide (e ∈ L))) (wk_str (once R L)) rfl (sl_big (by omega)) (fun i e H' Kt hz hs kk => ?_) fun D H7 s7 hD hDv => ?_
      · refine ⟨_, rfl, _, rfl, tx [e], tx L, rfl, rfl, ?_⟩
        rw [in_tx]
        exact kk H' (Same.refl _)
      · refine ⟨D, (once R L).map fun e => decide (e ∈ L), rfl, rfl, SqL.of (by rw [hDv, List.map_map]; rfl), s6.trans s7, ?_⟩
        have e : ((once R L).map fun e => decide (e ∈ L)).all id = decide (ShutOk R L c d) := by
          rw [Bool.eq_iff_iff, List.all_map, List.all_eq_true, decide_eq_true_eq]
          constructor
          · intro h
            refine ⟨hB.2.1, hB.2.2, hB.1, fun e he g hg => ?_⟩
            exact of_decide_eq_true (h g (List.mem_flatMap.mpr ⟨e, he, hg⟩))
          · intro h e he
            exact decide_eq_true (once_shut h.2.2.2 e he)
        rw [e]; rfl
    rintro _ H6 ⟨s6, rfl⟩
    have ha6 := s6 _ _ ha5
    refine ⟨_, rfl, fun x dx hx hdx hxd => ⟨x, dx, sv L, rfl, upd_same, rfl, x, T.C_Shut, dx, _, _, rfl, upd_same, T.cl_Shut, T.na_Shut_letters, putF_get _ _, _, rfl, rfl, _, rfl, iteNS rfl ?_⟩⟩
    have s7 : Same H6 (upd (upd (upd H6 dx (.own x)) x (.ins T.C_Shut dx [])) x (.ins T.C_Shut dx (putF "letters" (sv L) []))) := made_same hx hdx hxd
    generalize upd (upd (upd H6 dx (.own x)) x (.ins T.C_Shut dx [])) x (.ins T.C_Shut dx (putF "letters" (sv L) [])) = H7 at s7
    refine ⟨_, rfl, fun x dx hx hdx hxd => ⟨x, dx, sv L, rfl, upd_same, rfl, x, dx, _, rfl, upd_same, rfl, _, rfl, _, rfl, _, rfl, x, dx, L, a, R, c, d, rfl, upd_same, ?_, hR.ok, hsL, fun H9 s9 => ⟨_, rfl, _, _, rfl, true, congrArg V.bl (decide_eq_true rfl), iteF ?_⟩⟩⟩
    · exact made_same hx hdx hxd _ _ (s7 _ _ ha6)
    · exact ⟨s5.trans (s6.trans (s7.trans ((made_same hx hdx hxd).trans s9))), _, _, rfl⟩

theorem sc_law_long : FnScope ["_law_rules_here", "_law_row_here", "_law_times", "_law_names", "_law_now", "_law_turn"] ["_law_rules_here", "_law_row_here", "_law_times"] (defScope s_law_long) := ⟨rfl, rfl, rfl, by decide +kernel, rfl, by decide +kernel, by decide +kernel⟩
theorem ok_law_long (T : TX K mg) : FnOk P w K mg base CX0 1 T.f_law_long T.d_law_long ["_law_rules_here", "_law_row_here", "_law_times"] spLawLong := by
  refine T.F_law_long.ok sc_law_long (fun vs H Q E h => ?_) (fun cdv A outer s H vs Q E hr h => ?_)
  · obtain ⟨a, R, x, t, rfl, _⟩ := h; rfl
  · obtain ⟨a, R, x, t, rfl, ha, hR, hle, hx, hlx, ht, k⟩ := h
    have nd := sc_law_long.nd
    refine ⟨_, pss_cons (ps_set (i := 3) nd rfl (Or.inl rfl) (pe_slice sl_str pe_str po_none (po_some (pe_callB (call_lenKK K) rfl T.n_len PySem.boot_len (pa_cons (pv 0) pa_nil)))))
      (pss_cons (ps_set (i := 4) nd rfl (Or.inr rfl) (pe_lc rfl (cs1 (ns := ["_law_name"]) (x := "_law_row_here") (k := 1) rfl (Or.inl rfl) rfl (by decide +kernel)) (pi_str (pv 3)) (fun _ _ _ _ _ => pgc 0) (fun _ _ _ _ _ => pif_nil)
        (fun _ _ _ _ _ => pe_bmK K PySem.F.plainAttrs_str PySem.F.slot_str_count PySem.F.type_str_count mt_count (pv 1) (pa_cons (pv 0) pa_nil))))
      (pss_cons (ps_for PassesOwn.never rfl (pi_range1 rfl T.n_range (pa_cons (pv 2) pa_nil)) (pg_name (i := 5) nd rfl (Or.inl rfl))
        (pss_one (ps_set (i := 4) nd rfl (Or.inr rfl) (pe_lcO rfl (csO2 (n := "_law_name") (x := "_law_now") (y := "_law_rules_here") (k := 4) (m := 0) rfl rfl (Or.inl rfl) (Or.inl rfl) rfl rfl (by decide +kernel)) (pi_str (pv 3)) (fun _ _ _ _ _ => pgO 0) (fun _ _ _ _ _ => pif_nil)
          (fun _ _ _ _ _ => pe_callB (call_sumKK K) rfl T.n_sum boot_sum_ (pa_cons (pe_lc rfl (cs3 (ns := ["_law_k"]) (x := "_law_now") (y := "_law_rules_here") (z := "_law_name") (k := 1) (m := 2) (l := 0) rfl rfl rfl (Or.inl rfl) (Or.inl rfl) (Or.inl rfl) rfl rfl rfl (by decide +kernel)) (pi_range1 rfl T.n_range (pa_cons (pe_callB (call_lenKK K) rfl T.n_len PySem.boot_len (pa_cons (pv 2) pa_nil)) pa_nil)) (fun _ _ _ _ _ => pgc 0) (fun _ _ _ _ _ => pif_nil)
            (fun _ _ _ _ _ => pe_op op_mul (pe_ix (ix_listKK K) (pv 1) (pv 0) (fun _ _ => rfl)) (pe_bmK K PySem.F.plainAttrs_str PySem.F.slot_str_count PySem.F.type_str_count mt_count (pe_ix (ix_listKK K) (pv 2) (pv 0) (fun _ _ => rfl)) (pa_cons (pv 3) pa_nil)))) pa_nil))))))
      (pss_one (ps_ret (pe_callB (call_sumKK K) rfl T.n_sum boot_sum_ (pa_cons (pv 4) pa_nil)))))), ?_⟩
    have r1 := hR.pos
    have r2 := hR.top
    refine ⟨_, rfl, a, _, rfl, .inl (SqL.of ha), _, rfl, _, rfl, alph_len, ?_⟩
    rw [List.length_map, alph26 r2]
    refine ⟨_, rfl, tx (lets R.length), rfl, ?_⟩
    refine lcb_map (zs := lets R.length) (ι := fun c => sv [c]) (f := fun c => V.int (x.count c : Nat)) (wk_str (lets R.length)) rfl (by rw [lets_length]; exact small1000 (by omega)) (fun i c H' Kt hc hs kk => ?_) fun D H1 s1 hD hDv => ?_
    · exact ⟨_, rfl, rfl, _, rfl, x, c, rfl, rfl, kk H' (Same.refl _)⟩
    have hD1 : IntsAt H1 D (cnt R.length x) := by
      show H1 D = _
      rw [hDv]; unfold cnt ivs; rw [List.map_map]; rfl
    refine ⟨_, rfl, (t : Int), rfl, by omega, by omega, ?_⟩
    refine for_range (lo := 0) (n := (t : Int).toNat) (fun j σ H5 => Same H1 H5 ∧ ∃ (d : Addr) (o : Option V), σ = [some (.ref a), some (sv x), some (.int (t : Nat)), some (sv (lets R.length)), some (.ref d), o] ∧ IntsAt H5 d (cnt R.length (grow R j x)))
      ⟨Same.refl _, D, none, rfl, hD1⟩ ?_ ?_
    · rintro j σ H2 hj ⟨s2, d, o, rfl, hd2⟩
      have ha2 := s2 _ _ (s1 _ _ ha)
      have hg : OkTx R.length (grow R j x) := OkTx.grow hR hx
      refine ⟨_, rfl, tx (lets R.length), rfl, ?_⟩
      refine lcb_map (zs := lets R.length) (ι := fun c => sv [c]) (f := fun c => V.int ((once R (grow R j x)).count c : Nat)) (wk_str (lets R.length)) rfl (by rw [lets_length]; exact small1000 (by omega)) (fun i c H3 Kt hc hs kk => ?_) fun D3 H3 s3 hD3 hDv3 => ?_
      · have ha3 := hs _ _ ha2
        have hd3 := hs _ _ hd2
        have en : ((svs R).length : Int).toNat = R.length := by rw [List.length_map]; omega
        refine ⟨_, rfl, a, _, rfl, .inl (SqL.of ha3), ((svs R).length : Int), rfl, by omega, by rw [List.length_map]; omega, ?_⟩
        refine lcb_map (zs := List.range ((svs R).length : Int).toNat) (ι := fun (k : Nat) => V.int (0 + (k : Int))) (f := fun k => V.int (((grow R j x).count (97 + k) : Int) * ((R.getD k []).count c : Int))) (wk_range 0 _) rfl (by rw [List.length_range, en]; exact small1000 (by omega)) (fun i m H' Kt' hz hs' kk' => ?_) fun D4 H4 s4 hD4 hDv4 => ?_
        · have hm : m < R.length := by
            have := List.mem_range.mp (List.mem_of_getElem? hz)
            rw [en] at this; exact this
          have hcl : (R.getD m []).count c ≤ 100 := by
            refine Nat.le_trans List.count_le_length (hle _ ?_)
            rw [List.getD_eq_getElem?_getD, List.getElem?_eq_getElem hm]; exact List.getElem_mem hm
          refine ⟨_, rfl, _, rfl, d, _, _, V.int ((grow R j x).count (97 + m) : Int), rfl, rfl, SqL.of (hs' _ _ hd3), by rw [Int.zero_add]; exact atI_nat (by unfold ivs; rw [List.getElem?_map, cnt_get _ hm]; rfl), _, rfl, _, rfl, a, _, _, sv (R.getD m []), rfl, rfl, SqL.of (hs' _ _ ha3), by rw [Int.zero_add]; exact atI_nat (svs_get hm), rfl, _, rfl, R.getD m [], c, rfl, rfl, _, _, rfl, rfl, .inr ⟨by omega, by omega⟩, kk' H' (Same.refl _)⟩
        · refine ⟨D4, (List.range ((svs R).length : Int).toNat).map fun k => ((grow R j x).count (97 + k) : Int) * ((R.getD k []).count c : Int), rfl, rfl, SqL.of (by rw [hDv4, List.map_map]; rfl), ?_⟩
          have e : ((List.range ((svs R).length : Int).toNat).map fun k => ((grow R j x).count (97 + k) : Int) * ((R.getD k []).count c : Int)).sum = ((once R (grow R j x)).count c : Nat) := by
            unfold once
            rw [en, count_flatMap_int, ← sum_by_letters (n := R.length) (fun c' => ((R.getD (c' - 97) []).count c : Int)) hg]
            unfold lets
            rw [List.map_map]
            congr 1
            refine List.map_congr_left fun k _ => ?_
            show _ = ((grow R j x).count (97 + k) : Int) * ((R.getD (97 + k - 97) []).count c : Int)
            rw [Nat.add_sub_cancel_left]
          rw [e]
          exact kk H4 s4
      · refine ⟨s2.trans s3, D3, _, rfl, ?_⟩
        show H3 D3 = _
        rw [hDv3, grow_succ']; unfold cnt ivs; rw [List.map_map]; rfl
    · rintro σ H5 ⟨s5, d, o, rfl, hd5⟩
      rw [Int.toNat_natCast] at hd5
      refine ⟨_, rfl, d, _, rfl, rfl, SqL.of hd5, ?_⟩
      rw [cnt_sum (OkTx.grow hR hx)]
      exact k H5 (s1.trans s5)

theorem sc_law_rows_right : FnScope ["_law_rules_here", "_law_script", "_law_cell", "_law_one", "_law_other", "_law_lasts", "_law_many", "_law_due"] ["_law_rules_here", "_law_script", "_law_cell"] (defScope s_law_rows_right) := ⟨rfl, rfl, rfl, by decide +kernel, rfl, by decide +kernel, by decide +kernel⟩
theorem ok_law_rows_right (T : TX K mg) : FnOk P w K mg base CX0 6 T.f_law_rows_right T.d_law_rows_right ["_law_rules_here", "_law_script", "_law_cell"] (spRowsRight K) := by
  have G1 := ok_law_row (P := P) (w := w) (base := base) T
  have G2 := ok_law_long (P := P) (w := w) (base := base) T
  have G3 := ok_Apart_init (P := P) (w := w) (base := base) T
  have G4 := ok_Apart_shows (P := P) (w := w) (base := base) T
  have G5 := ok_law_says (P := P) (w := w) (base := base) T
  have G6 := ok_Alike_shows (P := P) (w := w) (base := base) T
  refine T.F_law_rows_right.ok sc_law_rows_right (fun vs H Q E h => ?_) (fun cdv A outer s H vs Q E hr h => ?_)
  · obtain ⟨a, b, R, ns, z, rfl, _⟩ := h; rfl
  · obtain ⟨a, b, R, ns, z, rfl, ha, hR, hb, hn, k⟩ := h
    have nd := sc_law_rows_right.nd
    have hr1 := hr.mono (show 1 ≤ 5 by decide)
    have hr2 := hr.mono (show 2 ≤ 5 by decide)
    have hr4 := hr.mono (show 4 ≤ 5 by decide)
    refine ⟨_, pss_cons (ps_set (i := 3) nd rfl (Or.inr rfl) (pe_call G1 hr1 rfl T.m_law_row T.F_law_row.kp T.b_law_row .nil pass0 (pa_cons (pv 0) (pa_cons (pv 1) pa_nil))))
      (pss_cons (ps_set (i := 4) nd rfl (Or.inr rfl) (pe_op op_add_str (pe_slice sl_str (pv 3) (po_some pe_int) po_none) (pe_ix ix_strS pe_str (pe_op op_mod (pe_op op_fdiv (pv 2) pe_int) (pe_callB (call_lenKK K) rfl T.n_len PySem.boot_len (pa_cons (pv 0) pa_nil))) (fun _ _ => rfl))))
      (pss_cons (ps_set (i := 5) nd rfl (Or.inl rfl) (pe_callB (call_min2 rfl) rfl T.n_min boot_min_ (pa_cons (pe_callB (call_lenKK K) rfl T.n_len PySem.boot_len (pa_cons (pv 0) pa_nil)) (pa_cons pe_int pa_nil))))
      (pss_cut (ps_for PassesOwn.never rfl (pi_listK K (pe_lst (pa_cons (pe_op op_sub (pe_op op_mod (pe_op op_fdiv (pv 2) pe_int) (pe_op op_add (pv 5) pe_int)) pe_int) (pa_cons (pe_op op_pow pe_int pe_int) (pa_cons (pe_un un_neg pe_int) pa_nil))))) (pg_name (i := 6) nd rfl (Or.inl rfl))
        (pss_cut (ps_set (i := 7) nd rfl (Or.inl rfl) (pe_chain op_le op_lt pe_int (pv 6) (pe_callB (call_lenKK K) rfl T.n_len PySem.boot_len (pa_cons (pv 0) pa_nil))))
        (pss_cut (ps_if (pt_val (pv 7)) (pss_one (ps_set (i := 7) nd rfl (Or.inl rfl) (pe_cmpR op_ne (pe_call G2 hr1 rfl T.m_law_long T.F_law_long.kp T.b_law_long .nil pass0 (pa_cons (pv 0) (pa_cons (pv 3) (pa_cons (pv 6) pa_nil)))) (pe_call G2 hr1 rfl T.m_law_long T.F_law_long.kp T.b_law_long .nil pass0 (pa_cons (pv 0) (pa_cons (pv 4) (pa_cons (pv 6) pa_nil)))) (nomark _)))) pss_nil)
        (pss_one (ps_if (PW.pt (pw_or (pt_cmpR op_ne (pe_fldKK K (pe_make T.mk_Apart G3 hr2 rfl T.mC_Apart T.b_Apart_init .nil pass0 (pa_cons (pv 6) pa_nil)) rfl) (pv 6) (nomark _))
          (pw_or1 (pt_not (pt_val (pe_call G5 hr1 rfl T.m_law_says T.F_law_says.kp T.b_law_says .nil pass0 (pa_cons (pe_meth (pe_make T.mk_Apart G3 hr2 rfl T.mC_Apart T.b_Apart_init .nil pass0 (pa_cons (pv 6) pa_nil)) T.cl_Apart T.me_Apart_shows G4 hr4 T.b_Apart_shows .nil pass0 (pa_cons (pv 0) (pa_cons (pv 3) (pa_cons (pv 4) pa_nil)))) (pa_cons (pv 7) pa_nil)))))))) (pss_one (ps_ret pe_bl)) pss_nil)))))
      (pss_cut (ps_set (i := 7) nd rfl (Or.inl rfl) (pe_callB (call_allKK K) rfl T.n_all boot_all_ (pa_cons (pe_lc rfl (cs3 (ns := ["_law_times"]) (x := "_law_rules_here") (y := "_law_one") (z := "_law_other") (k := 0) (m := 3) (l := 4) rfl rfl rfl (Or.inl rfl) (Or.inl rfl) (Or.inl rfl) rfl rfl rfl (by decide +kernel)) (pi_range1 rfl T.n_range (pa_cons (pe_callB (call_lenKK K) rfl T.n_len PySem.boot_len (pa_cons (pv 0) pa_nil)) pa_nil)) (fun _ _ _ _ _ => pgc 0) (fun _ _ _ _ _ => pif_nil)
        (fun _ _ _ _ _ => pe_cmpR op_eq (pe_call G2 hr1 rfl T.m_law_long T.F_law_long.kp T.b_law_long .nil pass0 (pa_cons (pv 1) (pa_cons (pv 2) (pa_cons (pv 0) pa_nil)))) (pe_call G2 hr1 rfl T.m_law_long T.F_law_long.kp T.b_law_long .nil pass0 (pa_cons (pv 1) (pa_cons (pv 3) (pa_cons (pv 0) pa_nil)))) (nomark _))) pa_nil)))
      (pss_one (ps_ret (pe_call G5 hr1 rfl T.m_law_says T.F_law_says.kp T.b_law_says .nil pass0 (pa_cons (pe_meth (pe_makeN T.mk_Alike rfl T.mC_Alike) T.cl_Alike T.me_Alike_shows G6 hr4 T.b_Alike_shows .nil pass0 (pa_cons (pv 0) (pa_cons (pv 3) (pa_cons (pv 4) pa_nil)))) (pa_cons (pv 7) pa_nil))))))))), ?_⟩
    have r1 := hR.ok.pos
    have r2 := hR.ok.top
    have R5 : ∀ r ∈ R, r.length ≤ 100000 := fun r hr => Nat.le_trans (hR.le r hr) (by decide)
    refine ⟨_, rfl, _, rfl, a, b, R, ns, rfl, ha, hR.ok, hb, hn, fun x hx hlx H1 s1 => ?_⟩
    have ha1 := s1 _ _ ha
    obtain ⟨k1, e1, l1⟩ := let_by (n := R.length) r1 z 3
    refine ⟨_, rfl, _, rfl, _, rfl, by rw [tx_len]; exact Nat.le_of_lt (small1000 (by omega)), _, rfl, _, _, rfl, rfl, ⟨by decide, by decide⟩, _, rfl, a, _, rfl, .inl (SqL.of ha1), _, _, rfl, rfl, by rw [List.length_map]; omega, _, _, 97 + k1, rfl, rfl, alph_len, ?_, ?_⟩
    · rw [List.length_map, e1]
      have := alph_at (j := (k1 : Int)) (by omega) (by omega)
      rw [Int.toNat_natCast] at this; exact this
    have lk : Let R.length (97 + k1) := ⟨by omega, by omega⟩
    generalize 97 + k1 = c at lk
    have es : Txt.slice (tx x) (some 1) none = tx (x.drop 1) := GT.slice_from x 1
    have ld : (x.drop 1).length ≤ 5 := by rw [List.length_drop]; omega
    refine ⟨_, tx [c], rfl, rfl, ?_, ?_⟩
    · rw [es, tx_len, tx_len]; exact Nat.le_of_lt (small1000 (by show _ + 1 ≤ 1000; omega))
    rw [es, tx_app]
    have hy : OkTx R.length (x.drop 1 ++ [c]) := OkTx.append (fun e he => hx e (List.mem_of_mem_drop he)) lk.ok
    have hly : (x.drop 1 ++ [c]).length ≤ 6 := by rw [List.length_append]; show _ + 1 ≤ 6; omega
    generalize x.drop 1 ++ [c] = y at hy hly
    refine ⟨_, rfl, a, _, rfl, .inl (SqL.of ha1), _, _, rfl, ?_⟩
    obtain ⟨la, hla, hl0⟩ : ∃ la : Int, (if (5 : Int) < ((svs R).length : Int) then (5 : Int) else ((svs R).length : Int)) = la ∧ 0 ≤ la := ⟨_, rfl, by split <;> omega⟩
    rw [hla]
    clear hla
    -- for many
    have R2 : ∀ {H' : Hp}, RuAt H' a R → Rows2 H' a R x y := fun h => ⟨h, hR.ok, R5, hx, hy⟩
    refine ⟨fun σ' H' => Same H1 H' ∧ ∃ o6 o7 : Option V, σ' = [some (.ref a), some (.ref b), some (.int z), some (sv x), some (sv y), some (.int la), o6, o7], ?_, ?_⟩
    · refine ⟨_, rfl, _, _, rfl, rfl, ⟨by decide, by decide⟩, _, rfl, _, _, rfl, rfl, _, _, rfl, rfl, by omega, _, _, rfl, rfl, _, _, rfl, rfl, ⟨by decide, by decide, by decide⟩, _, rfl, by show 3 ≤ sizeLine; decide, fun q hq => ⟨q, rfl, ⟨_, SqL.of upd_same⟩, ?_⟩⟩
      have hq0 : H1 q = none := hq
      have sq : Same H1 (upd H1 q (.lst [V.int (z / 5 % (la + 2) - 1), V.int ((10 : Int) ^ (20 : Int).toNat), V.int (-3)])) := same_new hq0
      have hqv : upd H1 q (.lst [V.int (z / 5 % (la + 2) - 1), V.int ((10 : Int) ^ (20 : Int).toNat), V.int (-3)]) q = some (.lst [V.int (z / 5 % (la + 2) - 1), V.int ((10 : Int) ^ (20 : Int).toNat), V.int (-3)]) := upd_same
      refine for_list (K := K) (a := q) (xs := [V.int (z / 5 % (la + 2) - 1), V.int ((10 : Int) ^ (20 : Int).toNat), V.int (-3)]) (fun i σ' H' => Same (upd H1 q (.lst [V.int (z / 5 % (la + 2) - 1), V.int ((10 : Int) ^ (20 : Int).toNat), V.int (-3)])) H' ∧ ∃ o6 o7 : Option V, σ' = [some (.ref a), some (.ref b), some (.int z), some (sv x), some (sv y), some (.int la), o6, o7]) ⟨Same.refl _, none, none, rfl⟩ (fun i σ' H' _ ⟨w, _⟩ => SqL.of (w _ _ hqv)) ?_ (fun σ' H' ⟨w, v⟩ => ⟨sq.trans w, v⟩)
      rintro i v σ' H5 hv ⟨s5, o6, o7, rfl⟩
      obtain ⟨m, rfl⟩ : ∃ m, v = V.int m := by
        match i, hv with
        | 0, hv => cases hv; exact ⟨_, rfl⟩
        | 1, hv => cases hv; exact ⟨_, rfl⟩
        | 2, hv => cases hv; exact ⟨_, rfl⟩
        | i + 3, hv => simp at hv
      have ha5 := (sq.trans s5) _ _ ha1
      refine ⟨fun σ' H' => H5 = H' ∧ σ' = [some (.ref a), some (.ref b), some (.int z), some (sv x), some (sv y), some (.int la), some (.int m), some (.bl (decide (0 ≤ m ∧ m ≤ (R.length : Int) - 1)))], ?_, ?_⟩
      · refine ⟨_, rfl, _, _, rfl, rfl, ?_⟩
        by_cases h0 : 0 ≤ m
        case neg =>
          refine ⟨false, congrArg V.bl (decide_eq_false h0), iteF ⟨rfl, ?_⟩⟩
          rw [decide_eq_false (fun w => h0 w.1)]; rfl
        refine ⟨true, congrArg V.bl (decide_eq_true h0), iteT ⟨_, rfl, a, _, rfl, .inl (SqL.of ha5), _, _, rfl, rfl, rfl, ?_⟩⟩
        have e : decide (m < ((svs R).length : Int)) = decide (0 ≤ m ∧ m ≤ (R.length : Int) - 1) := by
          rw [decide_eq_decide, List.length_map]; omega
        rw [← e]; rfl
      rintro _ _ ⟨rfl, rfl⟩
      refine ⟨fun σ' H' => Same H5 H' ∧ σ' = [some (.ref a), some (.ref b), some (.int z), some (sv x), some (sv y), some (.int la), some (.int m), some (.bl (decide (DueA R x y m)))], ?_, ?_⟩
      · refine ⟨_, rfl, _, rfl, ?_⟩
        by_cases hB : 0 ≤ m ∧ m ≤ (R.length : Int) - 1
        case neg =>
          rw [decide_eq_false hB]
          refine iteF ⟨Same.refl _, ?_⟩
          rw [decide_eq_false (fun w => hB ⟨w.1, w.2.1⟩)]
        rw [decide_eq_true hB]
        obtain ⟨t, rfl⟩ := Int.eq_ofNat_of_zero_le hB.1
        refine iteT ⟨_, rfl, _, rfl, _, rfl, a, R, x, t, rfl, ha5, hR.ok, hR.le, hx, by omega, by omega, fun H6 s6 => ⟨_, rfl, _, rfl, _, rfl, a, R, y, t, rfl, s6 _ _ ha5, hR.ok, hR.le, hy, by omega, by omega, fun H7 s7 => ⟨rfl, s6.trans s7, ?_⟩⟩⟩
        have e : (!decide (V.int ((grow R t x).length : Nat) = V.int ((grow R t y).length : Nat))) = decide (DueA R x y (t : Int)) := by
          by_cases w : (grow R t x).length = (grow R t y).length
          · rw [w, decide_eq_true rfl, decide_eq_false (fun d => d.2.2 w)]; rfl
          · rw [decide_eq_false (fun d => w (by injection d with d; omega)), decide_eq_true ⟨hB.1, hB.2, w⟩]; rfl
        rw [← e]; rfl
      rintro _ H6 ⟨s6, rfl⟩
      have ha6 := s6 _ _ ha5
      refine ⟨_, rfl, fun p dx hp hdx hpd => ⟨p, dx, .int m, rfl, upd_same, rfl, p, T.C_Apart, dx, _, _, rfl, upd_same, T.cl_Apart, T.na_Apart_many, putF_get _ _, _, rfl, rfl, _, rfl, iteNS rfl ?_⟩⟩
      have s7 : Same H6 (upd (upd (upd H6 dx (.own p)) p (.ins T.C_Apart dx [])) p (.ins T.C_Apart dx (putF "many" (.int m) []))) := made_same hp hdx hpd
      generalize upd (upd (upd H6 dx (.own p)) p (.ins T.C_Apart dx [])) p (.ins T.C_Apart dx (putF "many" (.int m) [])) = H7 at s7
      refine ⟨_, rfl, fun p dx hp hdx hpd => ⟨p, dx, .int m, rfl, upd_same, rfl, p, dx, _, rfl, upd_same, rfl, _, rfl, _, rfl, _, rfl, p, dx, m, a, R, x, y, rfl, upd_same, R2 ?_, fun H9 s9 => ⟨_, rfl, _, _, rfl, true, congrArg V.bl (decide_eq_true rfl), iteF ?_⟩⟩⟩
      · exact made_same hp hdx hpd _ _ (s7 _ _ ha6)
      · exact ⟨s5.trans (s6.trans (s7.trans ((made_same hp hdx hpd).trans s9))), _, _, rfl⟩
    rintro _ H2 ⟨s2, o6, o7, rfl⟩
    have ha2 := s2 _ _ ha1
    -- all times
    refine ⟨fun σ' H' => Same H2 H' ∧ σ' = [some (.ref a), some (.ref b), some (.int z), some (sv x), some (sv y), some (.int la), o6, some (.bl (decide (∀ t, t < R.length → LenEq R x y t)))], ?_, ?_⟩
    · refine ⟨_, rfl, a, _, rfl, .inl (SqL.of ha2), ((svs R).length : Int), rfl, by omega, by rw [List.length_map]; omega, ?_⟩
      have en : ((svs R).length : Int).toNat = R.length := by rw [List.length_map]; omega
      refine lcb_map (zs := List.range ((svs R).length : Int).toNat) (ι := fun (k : Nat) => V.int (0 + (k : Int))) (f := fun k => V.bl (decide (LenEq R x y k))) (wk_range 0 _) rfl (by rw [List.length_range, en]; exact small1000 (by omega)) (fun i t H' Kt hz hs kk => ?_) fun D H3 s3 hD hDv => ?_
      · have ht : t < R.length := by
          have := List.mem_range.mp (List.mem_of_getElem? hz)
          rw [en] at this; exact this
        refine ⟨_, rfl, _, rfl, _, rfl, a, R, x, t, by rw [Int.zero_add]; rfl, hs _ _ ha2, hR.ok, hR.le, hx, by omega, by omega, fun H5 s5 => ?_⟩
        refine ⟨_, rfl, _, rfl, _, rfl, a, R, y, t, by rw [Int.zero_add]; rfl, s5 _ _ (hs _ _ ha2), hR.ok, hR.le, hy, by omega, by omega, fun H6 s6 => ⟨rfl, ?_⟩⟩
        have e : decide (V.int ((grow R t x).length : Nat) = V.int ((grow R t y).length : Nat)) = decide (LenEq R x y t) := by
          rw [decide_eq_decide]
          exact ⟨fun z => by injection z with z; show (grow R t x).length = (grow R t y).length; omega, fun z => by rw [show (grow R t x).length = (grow R t y).length from z]⟩
        show Kt (V.bl (decide (V.int ((grow R t x).length : Nat) = V.int ((grow R t y).length : Nat)))) H6
        rw [e]
        exact kk H6 (s5.trans s6)
      · refine ⟨D, (List.range ((svs R).length : Int).toNat).map fun k => decide (LenEq R x y k), rfl, rfl, SqL.of (by rw [hDv, List.map_map]; rfl), s3, ?_⟩
        have e : ((List.range ((svs R).length : Int).toNat).map fun k => decide (LenEq R x y k)).all id = decide (∀ t, t < R.length → LenEq R x y t) := by
          rw [Bool.eq_iff_iff, List.all_map, List.all_eq_true, decide_eq_true_eq, en]
          exact ⟨fun h t ht => of_decide_eq_true (h t (List.mem_range.mpr ht)), fun h t ht => decide_eq_true (h t (List.mem_range.mp ht))⟩
        rw [e]; rfl
    rintro _ H3 ⟨s3, rfl⟩
    have ha3 := s3 _ _ ha2
    refine fun p dx hp hdx hpd => ?_
    have s4 : Same H3 (upd (upd H3 dx (.own p)) p (.ins T.C_Alike dx [])) := fun q u e => by
      rw [upd_ne (ne_of_none e hp), upd_ne (ne_of_none e hdx)]; exact e
    refine ⟨p, dx, [], rfl, upd_same, rfl, _, rfl, _, rfl, _, rfl, p, a, R, x, y, rfl, R2 (s4 _ _ ha3), fun t ht hn H5 s5 => ⟨_, rfl, _, _, rfl, ?_⟩, fun hall H5 s5 => ⟨_, rfl, _, _, rfl, ?_⟩⟩
    · have e : decide (false = decide (∀ t, t < R.length → LenEq R x y t)) = true := by
        have e' : decide (∀ t, t < R.length → LenEq R x y t) = false := decide_eq_false fun w => hn (w t ht)
        rw [e']; rfl
      rw [e]
      exact k H5 (s1.trans (s2.trans (s3.trans (s4.trans s5))))
    · have e : decide (true = decide (∀ t, t < R.length → LenEq R x y t)) = true := by
        have e' : decide (∀ t, t < R.length → LenEq R x y t) = true := decide_eq_true hall
        rw [e']; rfl
      rw [e]
      exact k H5 (s1.trans (s2.trans (s3.trans (s4.trans s5))))

theorem aa_eq : ("aa" : Str) = tx [97, 97] := by decide +kernel
theorem ab_eq : ("ab" : Str) = tx [97, 98] := by decide +kernel
theorem a_eq : ("a" : Str) = tx [97] := by decide +kernel
theorem b_eq : ("b" : Str) = tx [98] := by decide +kernel
theorem cut2n (ns : List Int) : ∃ ms : List Int, cutV (ns.map V.int) none (some (2 : Int)) = ms.map V.int ∧ ms.length ≤ 2 :=
  ⟨ns.take 2, by rw [show (2 : Int) = ((2 : Nat) : Int) from rfl, cut_upto, List.map_take], by rw [List.length_take]; omega⟩
theorem sc_law : FnScope ["_law_script", "_law_rules_here", "_law_cell", "_law_one"] ["_law_script"] (defScope s_law) := ⟨rfl, rfl, rfl, by decide +kernel, rfl, by decide +kernel, by decide +kernel⟩
theorem ok_law (T : TX K mg) : FnOk P w K mg base CX0 7 T.f_law T.d_law ["_law_script"] (spLaw K) := by
  have G1 := ok_law_rules (P := P) (w := w) (base := base) T
  have G2 := ok_law_letters_right (P := P) (w := w) (base := base) T
  have G3 := ok_law_rows_right (P := P) (w := w) (base := base) T
  have G4 := ok_law_says (P := P) (w := w) (base := base) T
  have G6 := ok_Shut_init (P := P) (w := w) (base := base) T
  have G7 := ok_Shut_shows (P := P) (w := w) (base := base) T
  have G8 := ok_Times_init (P := P) (w := w) (base := base) T
  have G9 := ok_Times_shows (P := P) (w := w) (base := base) T
  refine T.F_law.ok sc_law (fun vs H Q E h => ?_) (fun cdv A outer s H vs Q E hr h => ?_)
  · obtain ⟨a, ns, rfl, _⟩ := h; rfl
  · obtain ⟨a, ns, rfl, ha, hn, k⟩ := h
    have nd := sc_law.nd
    have hr1 := hr.mono (show 1 ≤ 6 by decide)
    have hr2 := hr.mono (show 2 ≤ 6 by decide)
    have hr4 := hr.mono (show 4 ≤ 6 by decide)
    refine ⟨_, pss_cons (ps_set (i := 1) nd rfl (Or.inl rfl) (pe_call G1 hr1 rfl T.m_law_rules T.F_law_rules.kp T.b_law_rules .nil pass0 (pa_cons (pv 0) pa_nil)))
      (pss_cut (ps_for PassesOwn.never rfl (pi_listK K (pe_op op_cat (pe_slice (sl_listK K) (pv 0) po_none (po_some pe_int)) (pe_step (pv 0) (po_some pe_int) po_none (po_some pe_int)))) (pg_name (i := 2) nd rfl (Or.inl rfl))
        (pss_one (ps_if (PW.pt (pw_or (pt_not (pt_val (pe_call G2 hr rfl T.m_law_letters_right T.F_law_letters_right.kp T.b_law_letters_right .nil pass0 (pa_cons (pv 1) (pa_cons (pv 2) pa_nil)))))
          (pw_or1 (pt_not (pt_val (pe_call G3 hr rfl T.m_law_rows_right T.F_law_rows_right.kp T.b_law_rows_right .nil pass0 (pa_cons (pv 1) (pa_cons (pv 0) (pa_cons (pv 2) pa_nil))))))))) (pss_one (ps_ret pe_bl)) pss_nil)))
      (pss_cons (ps_set (i := 3) nd rfl (Or.inl rfl) (pe_meth (pe_make T.mk_Shut G6 hr2 rfl T.mC_Shut T.b_Shut_init .nil pass0 (pa_cons pe_str pa_nil)) T.cl_Shut T.me_Shut_shows G7 hr2 T.b_Shut_shows .nil pass0 (pa_cons (pe_lst (pa_cons pe_str (pa_cons pe_str pa_nil))) (pa_cons pe_str (pa_cons pe_str pa_nil)))))
      (pss_one (ps_ret (pe_and (pe_call G4 hr1 rfl T.m_law_says T.F_law_says.kp T.b_law_says .nil pass0 (pa_cons (pv 3) (pa_cons pe_bl pa_nil)))
        (pe_one (pe_call G4 hr1 rfl T.m_law_says T.F_law_says.kp T.b_law_says .nil pass0 (pa_cons (pe_meth (pe_make T.mk_Times G8 hr2 rfl T.mC_Times T.b_Times_init .nil pass0 (pa_cons pe_int pa_nil)) T.cl_Times T.me_Times_shows G9 hr4 T.b_Times_shows .nil pass0 (pa_cons (pe_lst (pa_cons pe_str (pa_cons pe_str pa_nil))) (pa_cons pe_str (pa_cons pe_str pa_nil)))) (pa_cons pe_bl pa_nil))))))))), ?_⟩
    refine ⟨_, rfl, a, ns, rfl, ha, hn, fun R pr H1 hR s1 hpr hA1 => ?_⟩
    have ha1 := s1.seq ha
    -- for cell
    refine ⟨fun σ' H' => Same H1 H' ∧ ∃ o2 : Option V, σ' = [some (.ref a), some (.ref pr), o2, none], ?_, ?_⟩
    · obtain ⟨ms1, em1, lm1⟩ := cut2n ns
      refine ⟨_, rfl, _, rfl, a, _, rfl, ha1, fun q1 hq1 => ?_⟩
      rw [em1]
      refine ⟨_, rfl, _, rfl, _, rfl, a, ns, rfl, (same_new hq1).seq ha1, by decide, fun ms2 q2 lm2 hq2 => ?_⟩
      refine ⟨q1, q2, _, _, rfl, rfl, same_new hq2 _ _ upd_same, upd_same, by rw [List.length_map, List.length_map]; exact Nat.le_of_lt (small1000 (by omega)), fun q3 hq3 => ⟨q3, rfl, ⟨_, SqL.of upd_same⟩, ?_⟩⟩
      have s3 : Same H1 (upd (upd (upd H1 q1 (.lst (ms1.map V.int))) q2 (.lst (ms2.map V.int))) q3 (.lst (ms1.map V.int ++ ms2.map V.int))) := ((same_new hq1).trans (same_new hq2)).trans (same_new hq3)
      have h3 : upd (upd (upd H1 q1 (.lst (ms1.map V.int))) q2 (.lst (ms2.map V.int))) q3 (.lst (ms1.map V.int ++ ms2.map V.int)) q3 = some (.lst ((ms1 ++ ms2).map V.int)) := by rw [upd_same, List.map_append]
      rw [← List.map_append] at s3 h3 ⊢
      generalize upd (upd (upd H1 q1 (.lst (ms1.map V.int))) q2 (.lst (ms2.map V.int))) q3 (.lst ((ms1 ++ ms2).map V.int)) = H3 at s3 h3
      refine for_list (K := K) (a := q3) (xs := (ms1 ++ ms2).map V.int) (fun i σ H' => Same H3 H' ∧ ∃ o2 : Option V, σ = [some (.ref a), some (.ref pr), o2, none]) ⟨Same.refl _, none, rfl⟩ (fun i σ H' _ ⟨z, _⟩ => SqL.of (z _ _ h3)) ?_ (fun σ H' ⟨z, v⟩ => ⟨s3.trans z, v⟩)
      rintro i v σ H4 hv ⟨s4, o2, rfl⟩
      obtain ⟨z, hz, rfl⟩ := getI hv
      have s34 := s3.trans s4
      refine ⟨_, rfl, _, rfl, pr, R, z, rfl, s34 _ _ hA1, hR, fun H5 s5 => ⟨true, rfl, iteF ⟨_, rfl, _, rfl, _, rfl, pr, a, R, ns, z, rfl, s5 _ _ (s34 _ _ hA1), hR, (s34.trans s5).seq ha1, hn, fun H6 s6 => ⟨true, rfl, iteF ⟨s4.trans (s5.trans s6), _, rfl⟩⟩⟩⟩⟩
    rintro _ H2 ⟨s2, o2, rfl⟩
    -- Shut
    rw [a_eq, aa_eq, ab_eq, b_eq, e_eq]
    have o1 : OkRu [[97, 97], [98]] := ⟨by decide, by decide, by unfold OkTx; decide⟩
    have o2' : OkRu [[97, 98], []] := ⟨by decide, by decide, by unfold OkTx; decide⟩
    have hS : ShutOk [[97, 97], [98]] [97] 97 98 := by decide
    have hT : DueT [[97, 98], []] 97 98 1 := by decide
    refine fun p dx hp hdx hpd => ⟨p, dx, sv [97], rfl, upd_same, rfl, p, dx, _, rfl, upd_same, rfl, by show 2 ≤ sizeLine; decide, fun q hq => ⟨p, dx, [97], q, [[97, 97], [98]], 97, 98, rfl, same_new hq _ _ upd_same, upd_same, o1, by decide +kernel, fun H3 s3 => ?_⟩⟩
    refine ⟨_, rfl, _, true, rfl, true, congrArg V.bl (decide_eq_true (decide_eq_true hS)), iteT ?_⟩
    refine fun p dx hp hdx hpd => ⟨p, dx, .int 1, rfl, upd_same, rfl, p, dx, _, rfl, upd_same, rfl, by show 2 ≤ sizeLine; decide, fun q hq => ⟨p, dx, 1, q, [[97, 98], []], 97, 98, rfl, same_new hq _ _ upd_same, upd_same, o2', by decide, ⟨by decide, by decide⟩, ⟨by decide, by decide⟩, fun H4 s4 => ⟨_, true, rfl, ?_⟩⟩⟩
    rw [decide_eq_true (decide_eq_true hT)]
    exact k H4

end
end GP

namespace GP
open PySem L2 GT GM
theorem walk {l : PySem.W.OpenLaw} {q : Program} {loose : List Str} {XP : (Str → Option Value) → Heap → Prop} {YP : World → Heap → Prop} {d : DefRec} {K : Params → PySem.W.Frag} (hn : l.most = some 63) (hdf : d.params.defaults = [])
    (hY : ∀ (w : World) (h : Heap), YP w h → (K w.params).In h)
    (F : ∀ (w : World) (mg : Str → Option Value) (fa : Addr) (h : Heap), (K w.params).In h → h.Ns mainGlobals mg → mg d.name = some (.ref fa) → ∃ T : TX (K w.params) mg, T.f_law = fa) :
    PySem.W.WalkO q loose XP YP l.row.toRowW d [] (fun f vs => PySem.call f vs) :=
  L2.walk_of (n := 63) (k := 20) (x := "_law_script") (CX := fun _ => CX0) (sp := fun w => spLaw (K w.params)) hn (by decide) hdf ⟨rfl, by decide, by decide⟩ hY (fun w mg fa h KX G hmg => by
    obtain ⟨T, rfl⟩ := F w mg fa h KX G hmg
    exact ⟨T.d_law, T.bl, fun base _ _ => (ok_law T).mono (by decide)⟩) (fun _ _ a ns hl _ hS => ⟨a, ns, rfl, hS, hl, fun _ => rfl⟩) fun _ _ _ _ _ z => z
end GP

namespace GP
open PySem L2 GT GM
theorem len1 {us : List Value} (h : us.length = 1) : ∃ a0, us = [a0] := by
  match us, h with | [a0], _ => exact ⟨a0, rfl⟩
theorem len2 {us : List Value} (h : us.length = 2) : ∃ a0 a1, us = [a0, a1] := by
  match us, h with | [a0, a1], _ => exact ⟨a0, a1, rfl⟩
theorem len3 {us : List Value} (h : us.length = 3) : ∃ a0 a1 a2, us = [a0, a1, a2] := by
  match us, h with | [a0, a1, a2], _ => exact ⟨a0, a1, a2, rfl⟩
theorem len4 {us : List Value} (h : us.length = 4) : ∃ a0 a1 a2 a3, us = [a0, a1, a2, a3] := by
  match us, h with | [a0, a1, a2, a3], _ => exact ⟨a0, a1, a2, a3, rfl⟩
theorem mk_tx {K : PySem.W.Frag} {h : Heap} {mg : Str → Option Value} {fa : Addr} (X : K.In h) (G : h.Ns mainGlobals mg) (hfa : mg "law" = some (.ref fa))
    {C_Times : Addr}
    {C_Shut : Addr}
    {C_Alike : Addr}
    {C_Apart : Addr}
    {f1 : Addr} {od1 an1 : Option Addr} {sl1 : Array (Option Value)} {oc1 kV1 dc1 pm1 cd1 ct1 : Value}
    {f2 : Addr} {od2 an2 : Option Addr} {sl2 : Array (Option Value)} {oc2 kV2 dc2 pm2 cd2 ct2 : Value}
    {f3 : Addr} {od3 an3 : Option Addr} {sl3 : Array (Option Value)} {oc3 kV3 dc3 pm3 cd3 ct3 : Value}
    {f4 : Addr} {od4 an4 : Option Addr} {sl4 : Array (Option Value)} {oc4 kV4 dc4 pm4 cd4 ct4 : Value}
    {f5 : Addr} {od5 an5 : Option Addr} {sl5 : Array (Option Value)} {oc5 kV5 dc5 pm5 cd5 ct5 : Value}
    {f6 : Addr} {od6 an6 : Option Addr} {sl6 : Array (Option Value)} {oc6 kV6 dc6 pm6 cd6 ct6 : Value}
    {f7 : Addr} {od7 an7 : Option Addr} {sl7 : Array (Option Value)} {oc7 kV7 dc7 pm7 cd7 ct7 : Value}
    {f8 : Addr} {od8 an8 : Option Addr} {sl8 : Array (Option Value)} {oc8 kV8 dc8 pm8 cd8 ct8 : Value}
    {f9 : Addr} {od9 an9 : Option Addr} {sl9 : Array (Option Value)} {oc9 kV9 dc9 pm9 cd9 ct9 : Value}
    {f10 : Addr} {od10 an10 : Option Addr} {sl10 : Array (Option Value)} {oc10 kV10 dc10 pm10 cd10 ct10 : Value}
    {f11 : Addr} {od11 an11 : Option Addr} {sl11 : Array (Option Value)} {oc11 kV11 dc11 pm11 cd11 ct11 : Value}
    {f12 : Addr} {od12 an12 : Option Addr} {sl12 : Array (Option Value)} {oc12 kV12 dc12 pm12 cd12 ct12 : Value}
    {f13 : Addr} {od13 an13 : Option Addr} {sl13 : Array (Option Value)} {oc13 kV13 dc13 pm13 cd13 ct13 : Value}
    {f14 : Addr} {od14 an14 : Option Addr} {sl14 : Array (Option Value)} {oc14 kV14 dc14 pm14 cd14 ct14 : Value}
    {f15 : Addr} {od15 an15 : Option Addr} {sl15 : Array (Option Value)} {oc15 kV15 dc15 pm15 cd15 ct15 : Value}
    {f16 : Addr} {od16 an16 : Option Addr} {sl16 : Array (Option Value)} {oc16 kV16 dc16 pm16 cd16 ct16 : Value}
    {f17 : Addr} {od17 an17 : Option Addr} {sl17 : Array (Option Value)} {oc17 kV17 dc17 pm17 cd17 ct17 : Value}
    {f18 : Addr} {od18 an18 : Option Addr} {sl18 : Array (Option Value)} {oc18 kV18 dc18 pm18 cd18 ct18 : Value}
    {f19 : Addr} {od19 an19 : Option Addr} {sl19 : Array (Option Value)} {oc19 kV19 dc19 pm19 cd19 ct19 : Value}
    {f20 : Addr} {od20 an20 : Option Addr} {sl20 : Array (Option Value)} {oc20 kV20 dc20 pm20 cd20 ct20 : Value}
    {f21 : Addr} {od21 an21 : Option Addr} {sl21 : Array (Option Value)} {oc21 kV21 dc21 pm21 cd21 ct21 : Value}
    {f22 : Addr} {od22 an22 : Option Addr} {sl22 : Array (Option Value)} {oc22 kV22 dc22 pm22 cd22 ct22 : Value}
    {f23 : Addr} {od23 an23 : Option Addr} {sl23 : Array (Option Value)} {oc23 kV23 dc23 pm23 cd23 ct23 : Value}
    {f24 : Addr} {od24 an24 : Option Addr} {sl24 : Array (Option Value)} {oc24 kV24 dc24 pm24 cd24 ct24 : Value}
    {t_ALPHABET : Tok}
    (aC_Times : PySem.W.nsIn K mainGlobals "Times" = some (some (.ref C_Times))) (pg_Times : PySem.W.plainGet K C_Times Str.empty = true) (hd_Times : PySem.W.hasDictIn K C_Times = true) (po_Times : PySem.W.plainOver K C_Times = true) (sa_Times : PySem.W.findIn K (.ref C_Times) "__setattr__" = some (some (.builtin "object.__setattr__"))) (mk_Times : PySem.W.makesIn K C_Times = true) (kc_Times : PySem.W.keepIn K (.ref C_Times) = true)
    (na_Times_many : PySem.W.findIn K (.ref C_Times) "many" = some none)
    (aC_Shut : PySem.W.nsIn K mainGlobals "Shut" = some (some (.ref C_Shut))) (pg_Shut : PySem.W.plainGet K C_Shut Str.empty = true) (hd_Shut : PySem.W.hasDictIn K C_Shut = true) (po_Shut : PySem.W.plainOver K C_Shut = true) (sa_Shut : PySem.W.findIn K (.ref C_Shut) "__setattr__" = some (some (.builtin "object.__setattr__"))) (mk_Shut : PySem.W.makesIn K C_Shut = true) (kc_Shut : PySem.W.keepIn K (.ref C_Shut) = true)
    (na_Shut_letters : PySem.W.findIn K (.ref C_Shut) "letters" = some none)
    (aC_Alike : PySem.W.nsIn K mainGlobals "Alike" = some (some (.ref C_Alike))) (pg_Alike : PySem.W.plainGet K C_Alike Str.empty = true) (hd_Alike : PySem.W.hasDictIn K C_Alike = true) (po_Alike : PySem.W.plainOver K C_Alike = true) (sa_Alike : PySem.W.findIn K (.ref C_Alike) "__setattr__" = some (some (.builtin "object.__setattr__"))) (mk_Alike : PySem.W.makesIn K C_Alike = true) (kc_Alike : PySem.W.keepIn K (.ref C_Alike) = true)
    (aC_Apart : PySem.W.nsIn K mainGlobals "Apart" = some (some (.ref C_Apart))) (pg_Apart : PySem.W.plainGet K C_Apart Str.empty = true) (hd_Apart : PySem.W.hasDictIn K C_Apart = true) (po_Apart : PySem.W.plainOver K C_Apart = true) (sa_Apart : PySem.W.findIn K (.ref C_Apart) "__setattr__" = some (some (.builtin "object.__setattr__"))) (mk_Apart : PySem.W.makesIn K C_Apart = true) (kc_Apart : PySem.W.keepIn K (.ref C_Apart) = true)
    (na_Apart_many : PySem.W.findIn K (.ref C_Apart) "many" = some none)
    (in_Alike : PySem.W.findIn K (.ref C_Alike) "__init__" = some (some (.builtin "object.__init__")))
    (a1 : PySem.W.nsIn K mainGlobals "letters_of" = some (some (.ref f1)))
    (l1 : K.lookup f1 = some ⟨oc1, od1, .func (PySem.W.fnOf "letters_of" "letters_of" (defArgs s_letters_of) (defBody s_letters_of) (defScope s_letters_of) .none kV1 dc1 pm1 an1 cd1 ct1), sl1⟩) (c1 : PySem.W.codeIn K cd1 "letters_of" = true) (k1 : PySem.W.keepIn K (.ref f1) = true)
    (a2 : PySem.W.nsIn K mainGlobals "is_text_of" = some (some (.ref f2)))
    (l2 : K.lookup f2 = some ⟨oc2, od2, .func (PySem.W.fnOf "is_text_of" "is_text_of" (defArgs s_is_text_of) (defBody s_is_text_of) (defScope s_is_text_of) .none kV2 dc2 pm2 an2 cd2 ct2), sl2⟩) (c2 : PySem.W.codeIn K cd2 "is_text_of" = true) (k2 : PySem.W.keepIn K (.ref f2) = true)
    (a3 : PySem.W.nsIn K mainGlobals "is_number_up_to" = some (some (.ref f3)))
    (l3 : K.lookup f3 = some ⟨oc3, od3, .func (PySem.W.fnOf "is_number_up_to" "is_number_up_to" (defArgs s_is_number_up_to) (defBody s_is_number_up_to) (defScope s_is_number_up_to) .none kV3 dc3 pm3 an3 cd3 ct3), sl3⟩) (c3 : PySem.W.codeIn K cd3 "is_number_up_to" = true) (k3 : PySem.W.keepIn K (.ref f3) = true)
    (a4 : PySem.W.nsIn K mainGlobals "counted" = some (some (.ref f4)))
    (l4 : K.lookup f4 = some ⟨oc4, od4, .func (PySem.W.fnOf "counted" "counted" (defArgs s_counted) (defBody s_counted) (defScope s_counted) .none kV4 dc4 pm4 an4 cd4 ct4), sl4⟩) (c4 : PySem.W.codeIn K cd4 "counted" = true) (k4 : PySem.W.keepIn K (.ref f4) = true)
    (a5 : PySem.W.nsIn K mainGlobals "table_of" = some (some (.ref f5)))
    (l5 : K.lookup f5 = some ⟨oc5, od5, .func (PySem.W.fnOf "table_of" "table_of" (defArgs s_table_of) (defBody s_table_of) (defScope s_table_of) .none kV5 dc5 pm5 an5 cd5 ct5), sl5⟩) (c5 : PySem.W.codeIn K cd5 "table_of" = true) (k5 : PySem.W.keepIn K (.ref f5) = true)
    (a6 : PySem.W.nsIn K mainGlobals "held_next" = some (some (.ref f6)))
    (l6 : K.lookup f6 = some ⟨oc6, od6, .func (PySem.W.fnOf "held_next" "held_next" (defArgs s_held_next) (defBody s_held_next) (defScope s_held_next) .none kV6 dc6 pm6 an6 cd6 ct6), sl6⟩) (c6 : PySem.W.codeIn K cd6 "held_next" = true) (k6 : PySem.W.keepIn K (.ref f6) = true)
    (a7 : PySem.W.nsIn K mainGlobals "held_after" = some (some (.ref f7)))
    (l7 : K.lookup f7 = some ⟨oc7, od7, .func (PySem.W.fnOf "held_after" "held_after" (defArgs s_held_after) (defBody s_held_after) (defScope s_held_after) .none kV7 dc7 pm7 an7 cd7 ct7), sl7⟩) (c7 : PySem.W.codeIn K cd7 "held_after" = true) (k7 : PySem.W.keepIn K (.ref f7) = true)
    (a8 : PySem.W.nsIn K mainGlobals "parting_of" = some (some (.ref f8)))
    (l8 : K.lookup f8 = some ⟨oc8, od8, .func (PySem.W.fnOf "parting_of" "parting_of" (defArgs s_parting_of) (defBody s_parting_of) (defScope s_parting_of) .none kV8 dc8 pm8 an8 cd8 ct8), sl8⟩) (c8 : PySem.W.codeIn K cd8 "parting_of" = true) (k8 : PySem.W.keepIn K (.ref f8) = true)
    (a9 : PySem.W.findIn K (.ref C_Times) "__init__" = some (some (.ref f9))) (i9 : PySem.W.isFn K (.ref f9) = true)
    (l9 : K.lookup f9 = some ⟨oc9, od9, .func (PySem.W.fnOf "__init__" "Times.__init__" (defArgs s_Times_init) (defBody s_Times_init) (defScope s_Times_init) .none kV9 dc9 pm9 an9 cd9 ct9), sl9⟩) (c9 : PySem.W.codeIn K cd9 "Times.__init__" = true) (k9 : PySem.W.keepIn K (.ref f9) = true)
    (a10 : PySem.W.findIn K (.ref C_Times) "shows" = some (some (.ref f10))) (i10 : PySem.W.isFn K (.ref f10) = true)
    (l10 : K.lookup f10 = some ⟨oc10, od10, .func (PySem.W.fnOf "shows" "Times.shows" (defArgs s_Times_shows) (defBody s_Times_shows) (defScope s_Times_shows) .none kV10 dc10 pm10 an10 cd10 ct10), sl10⟩) (c10 : PySem.W.codeIn K cd10 "Times.shows" = true) (k10 : PySem.W.keepIn K (.ref f10) = true)
    (a11 : PySem.W.findIn K (.ref C_Shut) "__init__" = some (some (.ref f11))) (i11 : PySem.W.isFn K (.ref f11) = true)
    (l11 : K.lookup f11 = some ⟨oc11, od11, .func (PySem.W.fnOf "__init__" "Shut.__init__" (defArgs s_Shut_init) (defBody s_Shut_init) (defScope s_Shut_init) .none kV11 dc11 pm11 an11 cd11 ct11), sl11⟩) (c11 : PySem.W.codeIn K cd11 "Shut.__init__" = true) (k11 : PySem.W.keepIn K (.ref f11) = true)
    (a12 : PySem.W.findIn K (.ref C_Shut) "shows" = some (some (.ref f12))) (i12 : PySem.W.isFn K (.ref f12) = true)
    (l12 : K.lookup f12 = some ⟨oc12, od12, .func (PySem.W.fnOf "shows" "Shut.shows" (defArgs s_Shut_shows) (defBody s_Shut_shows) (defScope s_Shut_shows) .none kV12 dc12 pm12 an12 cd12 ct12), sl12⟩) (c12 : PySem.W.codeIn K cd12 "Shut.shows" = true) (k12 : PySem.W.keepIn K (.ref f12) = true)
    (a13 : PySem.W.findIn K (.ref C_Alike) "shows" = some (some (.ref f13))) (i13 : PySem.W.isFn K (.ref f13) = true)
    (l13 : K.lookup f13 = some ⟨oc13, od13, .func (PySem.W.fnOf "shows" "Alike.shows" (defArgs s_Alike_shows) (defBody s_Alike_shows) (defScope s_Alike_shows) .none kV13 dc13 pm13 an13 cd13 ct13), sl13⟩) (c13 : PySem.W.codeIn K cd13 "Alike.shows" = true) (k13 : PySem.W.keepIn K (.ref f13) = true)
    (a14 : PySem.W.findIn K (.ref C_Apart) "__init__" = some (some (.ref f14))) (i14 : PySem.W.isFn K (.ref f14) = true)
    (l14 : K.lookup f14 = some ⟨oc14, od14, .func (PySem.W.fnOf "__init__" "Apart.__init__" (defArgs s_Apart_init) (defBody s_Apart_init) (defScope s_Apart_init) .none kV14 dc14 pm14 an14 cd14 ct14), sl14⟩) (c14 : PySem.W.codeIn K cd14 "Apart.__init__" = true) (k14 : PySem.W.keepIn K (.ref f14) = true)
    (a15 : PySem.W.findIn K (.ref C_Apart) "shows" = some (some (.ref f15))) (i15 : PySem.W.isFn K (.ref f15) = true)
    (l15 : K.lookup f15 = some ⟨oc15, od15, .func (PySem.W.fnOf "shows" "Apart.shows" (defArgs s_Apart_shows) (defBody s_Apart_shows) (defScope s_Apart_shows) .none kV15 dc15 pm15 an15 cd15 ct15), sl15⟩) (c15 : PySem.W.codeIn K cd15 "Apart.shows" = true) (k15 : PySem.W.keepIn K (.ref f15) = true)
    (a16 : PySem.W.nsIn K mainGlobals "_law_rules" = some (some (.ref f16)))
    (l16 : K.lookup f16 = some ⟨oc16, od16, .func (PySem.W.fnOf "_law_rules" "_law_rules" (defArgs s_law_rules) (defBody s_law_rules) (defScope s_law_rules) .none kV16 dc16 pm16 an16 cd16 ct16), sl16⟩) (c16 : PySem.W.codeIn K cd16 "_law_rules" = true) (k16 : PySem.W.keepIn K (.ref f16) = true)
    (a17 : PySem.W.nsIn K mainGlobals "_law_row" = some (some (.ref f17)))
    (l17 : K.lookup f17 = some ⟨oc17, od17, .func (PySem.W.fnOf "_law_row" "_law_row" (defArgs s_law_row) (defBody s_law_row) (defScope s_law_row) .none kV17 dc17 pm17 an17 cd17 ct17), sl17⟩) (c17 : PySem.W.codeIn K cd17 "_law_row" = true) (k17 : PySem.W.keepIn K (.ref f17) = true)
    (a18 : PySem.W.nsIn K mainGlobals "_law_once" = some (some (.ref f18)))
    (l18 : K.lookup f18 = some ⟨oc18, od18, .func (PySem.W.fnOf "_law_once" "_law_once" (defArgs s_law_once) (defBody s_law_once) (defScope s_law_once) .none kV18 dc18 pm18 an18 cd18 ct18), sl18⟩) (c18 : PySem.W.codeIn K cd18 "_law_once" = true) (k18 : PySem.W.keepIn K (.ref f18) = true)
    (a19 : PySem.W.nsIn K mainGlobals "_law_says" = some (some (.ref f19)))
    (l19 : K.lookup f19 = some ⟨oc19, od19, .func (PySem.W.fnOf "_law_says" "_law_says" (defArgs s_law_says) (defBody s_law_says) (defScope s_law_says) .none kV19 dc19 pm19 an19 cd19 ct19), sl19⟩) (c19 : PySem.W.codeIn K cd19 "_law_says" = true) (k19 : PySem.W.keepIn K (.ref f19) = true)
    (a20 : PySem.W.nsIn K mainGlobals "_law_kinds" = some (some (.ref f20)))
    (l20 : K.lookup f20 = some ⟨oc20, od20, .func (PySem.W.fnOf "_law_kinds" "_law_kinds" (defArgs s_law_kinds) (defBody s_law_kinds) (defScope s_law_kinds) .none kV20 dc20 pm20 an20 cd20 ct20), sl20⟩) (c20 : PySem.W.codeIn K cd20 "_law_kinds" = true) (k20 : PySem.W.keepIn K (.ref f20) = true)
    (a21 : PySem.W.nsIn K mainGlobals "_law_long" = some (some (.ref f21)))
    (l21 : K.lookup f21 = some ⟨oc21, od21, .func (PySem.W.fnOf "_law_long" "_law_long" (defArgs s_law_long) (defBody s_law_long) (defScope s_law_long) .none kV21 dc21 pm21 an21 cd21 ct21), sl21⟩) (c21 : PySem.W.codeIn K cd21 "_law_long" = true) (k21 : PySem.W.keepIn K (.ref f21) = true)
    (a22 : PySem.W.nsIn K mainGlobals "_law_letters_right" = some (some (.ref f22)))
    (l22 : K.lookup f22 = some ⟨oc22, od22, .func (PySem.W.fnOf "_law_letters_right" "_law_letters_right" (defArgs s_law_letters_right) (defBody s_law_letters_right) (defScope s_law_letters_right) .none kV22 dc22 pm22 an22 cd22 ct22), sl22⟩) (c22 : PySem.W.codeIn K cd22 "_law_letters_right" = true) (k22 : PySem.W.keepIn K (.ref f22) = true)
    (a23 : PySem.W.nsIn K mainGlobals "_law_rows_right" = some (some (.ref f23)))
    (l23 : K.lookup f23 = some ⟨oc23, od23, .func (PySem.W.fnOf "_law_rows_right" "_law_rows_right" (defArgs s_law_rows_right) (defBody s_law_rows_right) (defScope s_law_rows_right) .none kV23 dc23 pm23 an23 cd23 ct23), sl23⟩) (c23 : PySem.W.codeIn K cd23 "_law_rows_right" = true) (k23 : PySem.W.keepIn K (.ref f23) = true)
    (a24 : PySem.W.nsIn K mainGlobals "law" = some (some (.ref f24)))
    (l24 : K.lookup f24 = some ⟨oc24, od24, .func (PySem.W.fnOf "law" "law" (defArgs s_law) (defBody s_law) (defScope s_law) .none kV24 dc24 pm24 an24 cd24 ct24), sl24⟩) (c24 : PySem.W.codeIn K cd24 "law" = true) (k24 : PySem.W.keepIn K (.ref f24) = true)
    (z_all : PySem.W.nsIn K mainGlobals "all" = some none)
    (z_bool : PySem.W.nsIn K mainGlobals "bool" = some none)
    (z_enumerate : PySem.W.nsIn K mainGlobals "enumerate" = some none)
    (z_int : PySem.W.nsIn K mainGlobals "int" = some none)
    (z_isinstance : PySem.W.nsIn K mainGlobals "isinstance" = some none)
    (z_len : PySem.W.nsIn K mainGlobals "len" = some none)
    (z_max : PySem.W.nsIn K mainGlobals "max" = some none)
    (z_min : PySem.W.nsIn K mainGlobals "min" = some none)
    (z_range : PySem.W.nsIn K mainGlobals "range" = some none)
    (z_set : PySem.W.nsIn K mainGlobals "set" = some none)
    (z_sorted : PySem.W.nsIn K mainGlobals "sorted" = some none)
    (z_str : PySem.W.nsIn K mainGlobals "str" = some none)
    (z_sum : PySem.W.nsIn K mainGlobals "sum" = some none)
    (z_zip : PySem.W.nsIn K mainGlobals "zip" = some none)
    (v_ALPHABET : PySem.W.nsIn K mainGlobals "ALPHABET" = some (some (.str "abcdefghijklmnopqrstuvwxyz" t_ALPHABET)))
    : ∃ T : TX K mg, T.f_law = fa := by
  have F1 := fun_mk (x := "letters_of") (qual := "letters_of") (st := s_letters_of) l1 c1 k1
  have B1 := F1.binds (ps := ["rules"]) fun _ _ _ _ _ _ us hl => by obtain ⟨_, rfl⟩ := len1 hl; rfl
  have A1 := PySem.W.mg_of X G a1
  have F2 := fun_mk (x := "is_text_of") (qual := "is_text_of") (st := s_is_text_of) l2 c2 k2
  have B2 := F2.binds (ps := ["letters", "value"]) fun _ _ _ _ _ _ us hl => by obtain ⟨_, _, rfl⟩ := len2 hl; rfl
  have A2 := PySem.W.mg_of X G a2
  have F3 := fun_mk (x := "is_number_up_to") (qual := "is_number_up_to") (st := s_is_number_up_to) l3 c3 k3
  have B3 := F3.binds (ps := ["most", "value"]) fun _ _ _ _ _ _ us hl => by obtain ⟨_, _, rfl⟩ := len2 hl; rfl
  have A3 := PySem.W.mg_of X G a3
  have F4 := fun_mk (x := "counted") (qual := "counted") (st := s_counted) l4 c4 k4
  have B4 := F4.binds (ps := ["letters", "text"]) fun _ _ _ _ _ _ us hl => by obtain ⟨_, _, rfl⟩ := len2 hl; rfl
  have A4 := PySem.W.mg_of X G a4
  have F5 := fun_mk (x := "table_of") (qual := "table_of") (st := s_table_of) l5 c5 k5
  have B5 := F5.binds (ps := ["rules"]) fun _ _ _ _ _ _ us hl => by obtain ⟨_, rfl⟩ := len1 hl; rfl
  have A5 := PySem.W.mg_of X G a5
  have F6 := fun_mk (x := "held_next") (qual := "held_next") (st := s_held_next) l6 c6 k6
  have B6 := F6.binds (ps := ["table", "held"]) fun _ _ _ _ _ _ us hl => by obtain ⟨_, _, rfl⟩ := len2 hl; rfl
  have A6 := PySem.W.mg_of X G a6
  have F7 := fun_mk (x := "held_after") (qual := "held_after") (st := s_held_after) l7 c7 k7
  have B7 := F7.binds (ps := ["rules", "row", "times"]) fun _ _ _ _ _ _ us hl => by obtain ⟨_, _, _, rfl⟩ := len3 hl; rfl
  have A7 := PySem.W.mg_of X G a7
  have F8 := fun_mk (x := "parting_of") (qual := "parting_of") (st := s_parting_of) l8 c8 k8
  have B8 := F8.binds (ps := ["rules", "one", "other"]) fun _ _ _ _ _ _ us hl => by obtain ⟨_, _, _, rfl⟩ := len3 hl; rfl
  have A8 := PySem.W.mg_of X G a8
  have F9 := fun_mk (x := "__init__") (qual := "Times.__init__") (st := s_Times_init) l9 c9 k9
  have B9 := F9.binds (ps := ["self", "many"]) fun _ _ _ _ _ _ us hl => by obtain ⟨_, _, rfl⟩ := len2 hl; rfl
  have F10 := fun_mk (x := "shows") (qual := "Times.shows") (st := s_Times_shows) l10 c10 k10
  have B10 := F10.binds (ps := ["self", "rules", "one", "other"]) fun _ _ _ _ _ _ us hl => by obtain ⟨_, _, _, _, rfl⟩ := len4 hl; rfl
  have F11 := fun_mk (x := "__init__") (qual := "Shut.__init__") (st := s_Shut_init) l11 c11 k11
  have B11 := F11.binds (ps := ["self", "letters"]) fun _ _ _ _ _ _ us hl => by obtain ⟨_, _, rfl⟩ := len2 hl; rfl
  have F12 := fun_mk (x := "shows") (qual := "Shut.shows") (st := s_Shut_shows) l12 c12 k12
  have B12 := F12.binds (ps := ["self", "rules", "one", "other"]) fun _ _ _ _ _ _ us hl => by obtain ⟨_, _, _, _, rfl⟩ := len4 hl; rfl
  have F13 := fun_mk (x := "shows") (qual := "Alike.shows") (st := s_Alike_shows) l13 c13 k13
  have B13 := F13.binds (ps := ["self", "rules", "one", "other"]) fun _ _ _ _ _ _ us hl => by obtain ⟨_, _, _, _, rfl⟩ := len4 hl; rfl
  have F14 := fun_mk (x := "__init__") (qual := "Apart.__init__") (st := s_Apart_init) l14 c14 k14
  have B14 := F14.binds (ps := ["self", "many"]) fun _ _ _ _ _ _ us hl => by obtain ⟨_, _, rfl⟩ := len2 hl; rfl
  have F15 := fun_mk (x := "shows") (qual := "Apart.shows") (st := s_Apart_shows) l15 c15 k15
  have B15 := F15.binds (ps := ["self", "rules", "one", "other"]) fun _ _ _ _ _ _ us hl => by obtain ⟨_, _, _, _, rfl⟩ := len4 hl; rfl
  have F16 := fun_mk (x := "_law_rules") (qual := "_law_rules") (st := s_law_rules) l16 c16 k16
  have B16 := F16.binds (ps := ["_law_script"]) fun _ _ _ _ _ _ us hl => by obtain ⟨_, rfl⟩ := len1 hl; rfl
  have A16 := PySem.W.mg_of X G a16
  have F17 := fun_mk (x := "_law_row") (qual := "_law_row") (st := s_law_row) l17 c17 k17
  have B17 := F17.binds (ps := ["_law_rules_here", "_law_script"]) fun _ _ _ _ _ _ us hl => by obtain ⟨_, _, rfl⟩ := len2 hl; rfl
  have A17 := PySem.W.mg_of X G a17
  have F18 := fun_mk (x := "_law_once") (qual := "_law_once") (st := s_law_once) l18 c18 k18
  have B18 := F18.binds (ps := ["_law_rules_here", "_law_row_here"]) fun _ _ _ _ _ _ us hl => by obtain ⟨_, _, rfl⟩ := len2 hl; rfl
  have A18 := PySem.W.mg_of X G a18
  have F19 := fun_mk (x := "_law_says") (qual := "_law_says") (st := s_law_says) l19 c19 k19
  have B19 := F19.binds (ps := ["_law_said", "_law_due"]) fun _ _ _ _ _ _ us hl => by obtain ⟨_, _, rfl⟩ := len2 hl; rfl
  have A19 := PySem.W.mg_of X G a19
  have F20 := fun_mk (x := "_law_kinds") (qual := "_law_kinds") (st := s_law_kinds) l20 c20 k20
  have B20 := F20.binds (ps := ["_law_rules_here", "_law_one", "_law_times"]) fun _ _ _ _ _ _ us hl => by obtain ⟨_, _, _, rfl⟩ := len3 hl; rfl
  have A20 := PySem.W.mg_of X G a20
  have F21 := fun_mk (x := "_law_long") (qual := "_law_long") (st := s_law_long) l21 c21 k21
  have B21 := F21.binds (ps := ["_law_rules_here", "_law_row_here", "_law_times"]) fun _ _ _ _ _ _ us hl => by obtain ⟨_, _, _, rfl⟩ := len3 hl; rfl
  have A21 := PySem.W.mg_of X G a21
  have F22 := fun_mk (x := "_law_letters_right") (qual := "_law_letters_right") (st := s_law_letters_right) l22 c22 k22
  have B22 := F22.binds (ps := ["_law_rules_here", "_law_cell"]) fun _ _ _ _ _ _ us hl => by obtain ⟨_, _, rfl⟩ := len2 hl; rfl
  have A22 := PySem.W.mg_of X G a22
  have F23 := fun_mk (x := "_law_rows_right") (qual := "_law_rows_right") (st := s_law_rows_right) l23 c23 k23
  have B23 := F23.binds (ps := ["_law_rules_here", "_law_script", "_law_cell"]) fun _ _ _ _ _ _ us hl => by obtain ⟨_, _, _, rfl⟩ := len3 hl; rfl
  have A23 := PySem.W.mg_of X G a23
  have F24 := fun_mk (x := "law") (qual := "law") (st := s_law) l24 c24 k24
  have B24 := F24.binds (ps := ["_law_script"]) fun _ _ _ _ _ _ us hl => by obtain ⟨_, rfl⟩ := len1 hl; rfl
  have A24 := PySem.W.mg_of X G a24
  have e := hfa.symm.trans A24
  have e : f24 = fa := by injection e with e; injection e with e; exact e.symm
  subst e
  exact ⟨⟨f1, _, F1, A1, B1, f2, _, F2, A2, B2, f3, _, F3, A3, B3, f4, _, F4, A4, B4, f5, _, F5, A5, B5, f6, _, F6, A6, B6, f7, _, F7, A7, B7, f8, _, F8, A8, B8, f9, _, F9, B9, f10, _, F10, B10, f11, _, F11, B11, f12, _, F12, B12, f13, _, F13, B13, f14, _, F14, B14, f15, _, F15, B15, f16, _, F16, A16, B16, f17, _, F17, A17, B17, f18, _, F18, A18, B18, f19, _, F19, A19, B19, f20, _, F20, A20, B20, f21, _, F21, A21, B21, f22, _, F22, A22, B22, f23, _, F23, A23, B23, f24, _, F24, A24, B24, C_Times, ⟨pg_Times, hd_Times, po_Times, sa_Times⟩, PySem.W.mg_of X G aC_Times, ⟨mk_Times, a9, i9, kc_Times⟩, ⟨a10, i10, k10⟩, na_Times_many, C_Shut, ⟨pg_Shut, hd_Shut, po_Shut, sa_Shut⟩, PySem.W.mg_of X G aC_Shut, ⟨mk_Shut, a11, i11, kc_Shut⟩, ⟨a12, i12, k12⟩, na_Shut_letters, C_Alike, ⟨pg_Alike, hd_Alike, po_Alike, sa_Alike⟩, PySem.W.mg_of X G aC_Alike, ⟨a13, i13, k13⟩, C_Apart, ⟨pg_Apart, hd_Apart, po_Apart, sa_Apart⟩, PySem.W.mg_of X G aC_Apart, ⟨mk_Apart, a14, i14, kc_Apart⟩, ⟨a15, i15, k15⟩, na_Apart_many, ⟨mk_Alike, in_Alike, kc_Alike⟩, fun s v => .of_eq rfl, PySem.W.mg_none_of X G z_all, PySem.W.mg_none_of X G z_bool, PySem.W.mg_none_of X G z_enumerate, PySem.W.mg_none_of X G z_int, PySem.W.mg_none_of X G z_isinstance, PySem.W.mg_none_of X G z_len, PySem.W.mg_none_of X G z_max, PySem.W.mg_none_of X G z_min, PySem.W.mg_none_of X G z_range, PySem.W.mg_none_of X G z_set, PySem.W.mg_none_of X G z_sorted, PySem.W.mg_none_of X G z_str, PySem.W.mg_none_of X G z_sum, PySem.W.mg_none_of X G z_zip, ⟨_, by rw [← alph_eq]; exact PySem.W.mg_of X G v_ALPHABET⟩⟩, rfl⟩
end GP
open PySem PySem.W PyProof.Rows
set_option maxRecDepth 100000 in
set_option maxHeartbeats 0 in
theorem PySem.Challenge.cw_growrow_k06_answers_by_hand_holds : PySem.Challenge.rw_growrow_k06_answers_by_hand.Holds := by
  w_on; o_law; k_head; (case hw => w_witness2)
  k_fill
  refine GP.walk (l := PySem.Challenge.rw_growrow_k06_answers_by_hand) rfl rfl (fun w h Y => PySem.W.kIn_of Y) ?F
  case F =>
    intro w mg fa h KX G hmg
    refine' GP.mk_tx KX G hmg ?aC_Times ?pg_Times ?hd_Times ?po_Times ?sa_Times ?mk_Times ?kc_Times ?na_Times_many ?aC_Shut ?pg_Shut ?hd_Shut ?po_Shut ?sa_Shut ?mk_Shut ?kc_Shut ?na_Shut_letters ?aC_Alike ?pg_Alike ?hd_Alike ?po_Alike ?sa_Alike ?mk_Alike ?kc_Alike ?aC_Apart ?pg_Apart ?hd_Apart ?po_Apart ?sa_Apart ?mk_Apart ?kc_Apart ?na_Apart_many ?in_Alike ?a1 ?l1 ?c1 ?k1 ?a2 ?l2 ?c2 ?k2 ?a3 ?l3 ?c3 ?k3 ?a4 ?l4 ?c4 ?k4 ?a5 ?l5 ?c5 ?k5 ?a6 ?l6 ?c6 ?k6 ?a7 ?l7 ?c7 ?k7 ?a8 ?l8 ?c8 ?k8 ?a9 ?i9 ?l9 ?c9 ?k9 ?a10 ?i10 ?l10 ?c10 ?k10 ?a11 ?i11 ?l11 ?c11 ?k11 ?a12 ?i12 ?l12 ?c12 ?k12 ?a13 ?i13 ?l13 ?c13 ?k13 ?a14 ?i14 ?l14 ?c14 ?k14 ?a15 ?i15 ?l15 ?c15 ?k15 ?a16 ?l16 ?c16 ?k16 ?a17 ?l17 ?c17 ?k17 ?a18 ?l18 ?c18 ?k18 ?a19 ?l19 ?c19 ?k19 ?a20 ?l20 ?c20 ?k20 ?a21 ?l21 ?c21 ?k21 ?a22 ?l22 ?c22 ?k22 ?a23 ?l23 ?c23 ?k23 ?a24 ?l24 ?c24 ?k24 ?z_all ?z_bool ?z_enumerate ?z_int ?z_isinstance ?z_len ?z_max ?z_min ?z_range ?z_set ?z_sorted ?z_str ?z_sum ?z_zip ?v_ALPHABET
    (case aC_Times => k_is)
    (case pg_Times => k_is)
    (case hd_Times => k_is)
    (case po_Times => k_is)
    (case sa_Times => k_is)
    (case mk_Times => k_is)
    (case kc_Times => k_is)
    (case na_Times_many => k_is)
    (case aC_Shut => k_is)
    (case pg_Shut => k_is)
    (case hd_Shut => k_is)
    (case po_Shut => k_is)
    (case sa_Shut => k_is)
    (case mk_Shut => k_is)
    (case kc_Shut => k_is)
    (case na_Shut_letters => k_is)
    (case aC_Alike => k_is)
    (case pg_Alike => k_is)
    (case hd_Alike => k_is)
    (case po_Alike => k_is)
    (case sa_Alike => k_is)
    (case mk_Alike => k_is)
    (case kc_Alike => k_is)
    (case aC_Apart => k_is)
    (case pg_Apart => k_is)
    (case hd_Apart => k_is)
    (case po_Apart => k_is)
    (case sa_Apart => k_is)
    (case mk_Apart => k_is)
    (case kc_Apart => k_is)
    (case na_Apart_many => k_is)
    (case in_Alike => k_is)
    (case a1 => k_is)
    (case l1 => k_is)
    (case c1 => k_is)
    (case k1 => k_is)
    (case a2 => k_is)
    (case l2 => k_is)
    (case c2 => k_is)
    (case k2 => k_is)
    (case a3 => k_is)
    (case l3 => k_is)
    (case c3 => k_is)
    (case k3 => k_is)
    (case a4 => k_is)
    (case l4 => k_is)
    (case c4 => k_is)
    (case k4 => k_is)
    (case a5 => k_is)
    (case l5 => k_is)
    (case c5 => k_is)
    (case k5 => k_is)
    (case a6 => k_is)
    (case l6 => k_is)
    (case c6 => k_is)
    (case k6 => k_is)
    (case a7 => k_is)
    (case l7 => k_is)
    (case c7 => k_is)
    (case k7 => k_is)
    (case a8 => k_is)
    (case l8 => k_is)
    (case c8 => k_is)
    (case k8 => k_is)
    (case a9 => k_is)
    (case i9 => k_is)
    (case l9 => k_is)
    (case c9 => k_is)
    (case k9 => k_is)
    (case a10 => k_is)
    (case i10 => k_is)
    (case l10 => k_is)
    (case c10 => k_is)
    (case k10 => k_is)
    (case a11 => k_is)
    (case i11 => k_is)
    (case l11 => k_is)
    (case c11 => k_is)
    (case k11 => k_is)
    (case a12 => k_is)
    (case i12 => k_is)
    (case l12 => k_is)
    (case c12 => k_is)
    (case k12 => k_is)
    (case a13 => k_is)
    (case i13 => k_is)
    (case l13 => k_is)
    (case c13 => k_is)
    (case k13 => k_is)
    (case a14 => k_is)
    (case i14 => k_is)
    (case l14 => k_is)
    (case c14 => k_is)
    (case k14 => k_is)
    (case a15 => k_is)
    (case i15 => k_is)
    (case l15 => k_is)
    (case c15 => k_is)
    (case k15 => k_is)
    (case a16 => k_is)
    (case l16 => k_is)
    (case c16 => k_is)
    (case k16 => k_is)
    (case a17 => k_is)
    (case l17 => k_is)
    (case c17 => k_is)
    (case k17 => k_is)
    (case a18 => k_is)
    (case l18 => k_is)
    (case c18 => k_is)
    (case k18 => k_is)
    (case a19 => k_is)
    (case l19 => k_is)
    (case c19 => k_is)
    (case k19 => k_is)
    (case a20 => k_is)
    (case l20 => k_is)
    (case c20 => k_is)
    (case k20 => k_is)
    (case a21 => k_is)
    (case l21 => k_is)
    (case c21 => k_is)
    (case k21 => k_is)
    (case a22 => k_is)
    (case l22 => k_is)
    (case c22 => k_is)
    (case k22 => k_is)
    (case a23 => k_is)
    (case l23 => k_is)
    (case c23 => k_is)
    (case k23 => k_is)
    (case a24 => k_is)
    (case l24 => k_is)
    (case c24 => k_is)
    (case k24 => k_is)
    (case z_all => k_is)
    (case z_bool => k_is)
    (case z_enumerate => k_is)
    (case z_int => k_is)
    (case z_isinstance => k_is)
    (case z_len => k_is)
    (case z_max => k_is)
    (case z_min => k_is)
    (case z_range => k_is)
    (case z_set => k_is)
    (case z_sorted => k_is)
    (case z_str => k_is)
    (case z_sum => k_is)
    (case z_zip => k_is)
    (case v_ALPHABET => k_is)

