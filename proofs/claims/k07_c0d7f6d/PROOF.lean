import PyProof.Rows.All
import Wide.All
import OpenK.AllK
import Wide.FinOn
import KE.RegKIsAll
import Lean
import PyProof.EqAt
import PyProof.EqKinds
import PyProof.TupleCall
import PyProof.Rows.SetFrom
import PyProof.StrWalks
import PyProof.SetRoads
import PyProof.DictKinds
import PyProof.DictStraight
import PyProof.MeetsSeq2
import PyProof.ZipIter
import PyProof.Draws
import PyProof.DictUpdate
import PyProof.AttrMissHeap
import PyProof.ListNew
import PyProof.FactsAll.dict_1
import PyProof.Rows.DictSet
import KE.KDictOf
import PyProof.NeKinds
import PyProof.WalksEnum
import PyProof.EnumMake
import PyProof.Rows.Range3
import PyProof.FactsAll.list_2
import KE.KDictSum
import PyProof.Rows.SortStr
import PyProof.FactsAll.set_1
import PyProof.CollectWalk
import PyProof.FactsAll.set_2
import PyProof.Rows.SortShell
import PyProof.WalksS
import PyProof.ListRange
import Wide.Txt
import PyProof.SetKind
import PyProof.Rows.StrStep
import PyProof.StrCalls6
import PyProof.Logic
import OpenK.KOwn
import KE.KIsAll
import PyProof.ExcArgs
import PyProof.RulesAs
import PySem.Challenge.RW_growrow_k07_refused
set_option Elab.async false
set_option linter.all false
set_option maxRecDepth 100000
set_option maxHeartbeats 4000000
set_option genInjectivity false
set_option genSizeOf false
def PySem.W.Fast.tw16567184451620487285 := 0
def PySem.W.Fast.tw5175888205003719140 := 0
def PySem.W.Fast.tw10990165429321012735 := 0
def PySem.W.Fast.tw9849197723059319321 := 0
def PySem.W.Fast.tw16699874008104447638 := 0
def PySem.W.Fast.tw1873070820141811426 := 0
def PySem.W.Fast.tw17988445258031198201 := 0
def PySem.W.Fast.tw14325537025073925087 := 0
def PySem.W.Fast.tw2351930379343724344 := 0
def PySem.W.Fast.tw17834389419978614238 := 0
def PySem.W.Fast.tw8060561307060466652 := 0
def PySem.W.Fast.tw5628168205604946166 := 0
def PySem.W.Fast.tw1221667750169711112 := 0
def PySem.W.Fast.tw10247655211618539129 := 0
def PySem.W.Fast.tw4843177887408559795 := 0
def PySem.W.Fast.tw9777637135599802600 := 0
def PySem.W.Fast.tw5352030335204369335 := 0
def PySem.W.Fast.tw9243536552428588729 := 0
def PySem.W.Fast.tw11026798582777578004 := 0
def PySem.W.Fast.tw5948159828903490198 := 0
def PySem.W.Fast.tw3187416194967929654 := 0
def PySem.W.Fast.tw14784601579341072091 := 0
def PySem.W.Fast.tw17374079526542029952 := 0
def PySem.W.Fast.tw13737029057391640861 := 0
def PySem.W.Fast.tw7235386533681038871 := 0
def PySem.W.Fast.tw17138313936673125282 := 0
def PySem.W.Fast.tw18096948037170834404 := 0
def PySem.W.Fast.tw2431472488906710774 := 0
def PySem.W.Fast.tw17543377537860318174 := 0
def PySem.W.Fast.tw15405871646732464145 := 0
def PySem.W.Fast.tw176198990495731898 := 0
def PySem.W.Fast.tw5436331463992110529 := 0
def PySem.W.Fast.tw7815293063677232708 := 0
def PySem.W.Fast.tw5603539444704464248 := 0
def PySem.W.Fast.tw13453289587296830942 := 0
def PySem.W.Fast.tw1982982898555367048 := 0
def PySem.W.Fast.tw7310004593832216734 := 0
def PySem.W.Fast.tw1897801122155189680 := 0
def PySem.W.Fast.tw7991569742392724687 := 0
def PySem.W.Fast.tw10683996289327235790 := 0
def PySem.W.Fast.tw13031164235010004113 := 0
def PySem.W.Fast.tw8035263728956658566 := 0
def PySem.W.Fast.tw12020841013014807208 := 0
def PySem.W.Fast.tw7407662845448835403 := 0
def PySem.W.Fast.tw12196261857078357712 := 0
def PySem.W.Fast.tw913298261697688883 := 0
def PySem.W.Fast.tw10822169110068098710 := 0
def PySem.W.Fast.tw12064039300609085924 := 0
def PySem.W.Fast.tw3816197762533622960 := 0
def PySem.W.Fast.tw15963248109271443775 := 0
def PySem.W.Fast.tw7758082107792854612 := 0
def PySem.W.Fast.tw17131212054013353282 := 0
def PySem.W.Fast.tw11603483934932776588 := 0
def PySem.W.Fast.tw3713104042601512368 := 0
def PySem.W.Fast.tw2110453646190670255 := 0
def PySem.W.Fast.tw5328786775653391142 := 0
def PySem.W.Fast.tw10843305030801928351 := 0
def PySem.W.Fast.tw5363663517392697086 := 0
def PySem.W.Fast.tw14190374126491074894 := 0
def PySem.W.Fast.tw11640849016833227597 := 0
def PySem.W.Fast.tw9725550293292508013 := 0
def PySem.W.Fast.tw5690542952353990869 := 0
def PySem.W.Fast.tw15383561031182351518 := 0
def PySem.W.Fast.tw9303760681716875461 := 0
def PySem.W.Fast.tw3882559713199277417 := 0
def PySem.W.Fast.tw286603166345865960 := 0
def PySem.W.Fast.tw11642892718848272105 := 0
def PySem.W.Fast.tw3500877505162424075 := 0
def PySem.W.Fast.tw13658747246193361169 := 0
def PySem.W.Fast.tw18002232514333433688 := 0
def PySem.W.Fast.tw14448843537068400718 := 0
def PySem.W.Fast.tw15254134875103332688 := 0
def PySem.W.Fast.tw785830787632864554 := 0
def PySem.W.Fast.tw1597260394121692112 := 0
def PySem.W.Fast.tw10898340752198942156 := 0
def PySem.W.Fast.tw12317218302922067824 := 0
def PySem.W.Fast.tw4778288040169091501 := 0
def PySem.W.Fast.tw13042581468930696860 := 0
def PySem.W.Fast.tw2881370138217253404 := 0
def PySem.W.Fast.tw15664979044839346158 := 0
def PySem.W.Fast.tw9314391593173238924 := 0
def PySem.W.Fast.tw5826704949349236021 := 0
def PySem.W.Fast.tw7540323849817448580 := 0
def PySem.W.Fast.tw8846383877174765974 := 0
def PySem.W.Fast.tw14236000403443485891 := 0
def PySem.W.Fast.tw768747630463487702 := 0
def PySem.W.Fast.tw2498791941913864259 := 0
def PySem.W.Fast.tw196584159398755636 := 0
def PySem.W.Fast.tw15503761322117330187 := 0
def PySem.W.Fast.tw2681414358508490323 := 0
def PySem.W.Fast.tw14943210497858040915 := 0
def PySem.W.Fast.tw6120005488536601353 := 0
def PySem.W.Fast.tw15796935294906739276 := 0
def PySem.W.Fast.tw5552235600031310538 := 0
def PySem.W.Fast.tw1733177647906601524 := 0
def PySem.W.Fast.tw17683970572205514643 := 0
def PySem.W.Fast.tw17396399798613305715 := 0
def PySem.W.Fast.tw534655130988357529 := 0
def PySem.W.Fast.tw1627478761687360074 := 0
def PySem.W.Fast.tw3850446815606679649 := 0
def PySem.W.Fast.tw6861385420600432886 := 0
def PySem.W.Fast.tw13055415409257403756 := 0
def PySem.W.Fast.tw4083609323308190 := 0
def PySem.W.Fast.tw3537028355092350791 := 0
def PySem.W.Fast.tw11398605762878141672 := 0
def PySem.W.Fast.tw6303310128745197287 := 0
def PySem.W.Fast.tw17352684781422842502 := 0
def PySem.W.Fast.tw14405668403632168764 := 0
def PySem.W.Fast.tw17595360601267369048 := 0
def PySem.W.Fast.tw7426787806960565666 := 0
def PySem.W.Fast.tw3062804955281978783 := 0
def PySem.W.Fast.tw5823829237626004082 := 0
def PySem.W.Fast.tw5641284740148689037 := 0
def PySem.W.Fast.tw12235564052234783833 := 0
def PySem.W.Fast.tw5714264597000010663 := 0
def PySem.W.Fast.tw16401461070869635730 := 0
def PySem.W.Fast.tw13926464321581464649 := 0
def PySem.W.Fast.tw11655287378082845909 := 0
namespace L2
inductive Ex2 {α0 α1 : Type} (p : α0 -> α1 -> Prop) : Prop
  | mk (a0 : α0) (a1 : α1) (h : p a0 a1) : Ex2 p
inductive Ex3 {α0 α1 α2 : Type} (p : α0 -> α1 -> α2 -> Prop) : Prop
  | mk (a0 : α0) (a1 : α1) (a2 : α2) (h : p a0 a1 a2) : Ex3 p
inductive Ex4 {α0 α1 α2 α3 : Type} (p : α0 -> α1 -> α2 -> α3 -> Prop) : Prop
  | mk (a0 : α0) (a1 : α1) (a2 : α2) (a3 : α3) (h : p a0 a1 a2 a3) : Ex4 p
inductive Ex5 {α0 α1 α2 α3 α4 : Type} (p : α0 -> α1 -> α2 -> α3 -> α4 -> Prop) : Prop
  | mk (a0 : α0) (a1 : α1) (a2 : α2) (a3 : α3) (a4 : α4) (h : p a0 a1 a2 a3 a4) : Ex5 p
end L2
namespace L2
open PySem PySem.Spec PyProof.Rows
noncomputable abbrev Key := Sum Int Str
noncomputable def keyIs : Key -> Value -> Bool
  | .inl k, v => Value.isInt k v
  | .inr x, v => Value.isStrOf x v
noncomputable def keyH (w : World) : Key -> Int
  | .inl k => hashInt k
  | .inr x => hashStr w x
theorem keyIs_shape : ∀ {k : Key} {v : Value}, keyIs k v = true -> (∃ i t, k = Sum.inl i /\ v = Value.int i t) \/ (∃ x t, k = Sum.inr x /\ v = Value.str x t)
  | .inl i, v, h => by
    obtain ⟨t, e⟩ := Value.isInt_shape (k := i) (v := v) h
    exact .inl ⟨i, t, rfl, e⟩
  | .inr x, v, h => by
    obtain ⟨t, e⟩ := Value.isStrOf_shape (x := x) (v := v) h
    exact .inr ⟨x, t, rfl, e⟩
theorem keyIs_int (i : Int) (t : Tok) : keyIs (.inl i) (.int i t) = true := by simp [keyIs, Value.isInt]
theorem keyIs_str (x : Str) (t : Tok) : keyIs (.inr x) (.str x t) = true := by simp [keyIs, Value.isStrOf]
theorem key_ll (a b : Int) : decide ((Sum.inl a : Key) = Sum.inl b) = (a == b) := by
  by_cases e : a = b
  · subst e; simp
  · have h : ¬ (Sum.inl a : Key) = Sum.inl b := fun q => e (Sum.inl.inj q)
    rw [decide_eq_false h]
    exact (beq_eq_false_iff_ne.mpr e).symm
theorem key_rr (a b : Str) : decide ((Sum.inr a : Key) = Sum.inr b) = decide (a = b) := by
  by_cases e : a = b
  · subst e; simp
  · have h : ¬ (Sum.inr a : Key) = Sum.inr b := fun q => e (Sum.inr.inj q)
    rw [decide_eq_false h, decide_eq_false e]
theorem key_lr (a : Int) (b : Str) : decide ((Sum.inl a : Key) = Sum.inr b) = false := decide_eq_false (fun q => nomatch q)
theorem key_rl (a : Str) (b : Int) : decide ((Sum.inr a : Key) = Sum.inl b) = false := decide_eq_false (fun q => nomatch q)
noncomputable def mixKind (prog : Program) (w : World) : PySem.KeyKind prog w Key where
  is := keyIs
  hash := keyH w
  inj := fun v a b ha hb => by
    rcases keyIs_shape ha with ⟨i, t, rfl, rfl⟩ | ⟨x, t, rfl, rfl⟩
    · rcases keyIs_shape hb with ⟨j, u, rfl, e⟩ | ⟨y, u, rfl, e⟩
      · injection e with e1 _; rw [e1]
      · exact nomatch e
    · rcases keyIs_shape hb with ⟨j, u, rfl, e⟩ | ⟨y, u, rfl, e⟩
      · exact nomatch e
      · injection e with e1 _; rw [e1]
  byValue := fun k v h => by
    rcases keyIs_shape h with ⟨i, t, rfl, rfl⟩ | ⟨x, t, rfl, rfl⟩ <;> rfl
  pyHash := fun hv h => by
    rcases keyIs_shape hv with ⟨i, t, rfl, rfl⟩ | ⟨x, t, rfl, rfl⟩
    · exact wpAny_pyHash_int h
    · exact wpAny_pyHash_str h
  eqBool := fun hu hv h => by
    rcases keyIs_shape hu with ⟨i, t, rfl, rfl⟩ | ⟨x, t, rfl, rfl⟩
    · rcases keyIs_shape hv with ⟨j, u, rfl, rfl⟩ | ⟨y, u, rfl, rfl⟩
      · rw [key_ll] at h; exact wpAny_eqBool_int h
      · rw [key_lr] at h; exact SeqAt.EqAt.int_str i t y u _ _ _ _ h
    · rcases keyIs_shape hv with ⟨j, u, rfl, rfl⟩ | ⟨y, u, rfl, rfl⟩
      · rw [key_rl] at h; exact SeqAt.EqAt.str_int x t j u _ _ _ _ h
      · rw [key_rr] at h; exact wpAny_eqBool_str h
  «strs» := fun k x t v h => by
    rcases keyIs_shape h with ⟨i, u, rfl, e⟩ | ⟨y, u, rfl, e⟩
    · exact nomatch e
    · injection e with e1 _
      subst e1
      cases v <;> rfl
theorem mixKind_int (prog : Program) (w : World) (i : Int) (t : Tok) : (mixKind prog w).is (.inl i) (.int i t) = true := keyIs_int i t
theorem mixKind_str (prog : Program) (w : World) (x : Str) (t : Tok) : (mixKind prog w).is (.inr x) (.str x t) = true := keyIs_str x t
end L2
namespace L2
open PySem PySem.Spec PyProof.Rows
set_option genInjectivity true in
inductive V where
  | non | bl (b : Bool) | int (i : Int) | str (x : Str) | byt (b : Array UInt8) | flt (b : UInt64) | ref (a : Addr) | ty (n : String)
  deriving DecidableEq
noncomputable def RelV : V -> Value -> Prop
  | .non, u => u = Value.none
  | .bl b, u => u = Value.bool b
  | .int i, u => ∃ t, u = Value.int i t
  | .str x, u => ∃ t, u = Value.str x t
  | .byt b, u => ∃ t, u = Value.bytes b t
  | .flt b, u => ∃ t, u = Value.float b t
  | .ref a, u => u = Value.ref a
  | .ty n, u => u = Value.type n
inductive IsBl (x : V) (q : Bool -> Prop) : Prop
  | mk (k : Bool) (e : x = .bl k) (h : q k) : IsBl x q
inductive IsIn (x : V) (q : Int -> Prop) : Prop
  | mk (k : Int) (e : x = .int k) (h : q k) : IsIn x q
inductive In2 (x y : V) (q : Int -> Int -> Prop) : Prop
  | mk (i j : Int) (e : x = .int i) (f : y = .int j) (h : q i j) : In2 x y q
noncomputable abbrev Vals : List V -> List Value -> Prop := Paired RelV
theorem Vals.length {xs : List V} {us : List Value} (r : Vals xs us) : xs.length = us.length := Paired.length r
theorem Vals.get : ∀ {xs : List V} {us : List Value} {i : Nat} {x : V}, Vals xs us -> xs[i]? = some x -> ∃ u, us[i]? = some u /\ RelV x u
  | _, _, _, _, .nil, e => by simp at e
  | _, _, 0, _, .cons r _, e => by simp at e; subst e; exact ⟨_, rfl, r⟩
  | _, _, i + 1, x, .cons _ t, e => by
    obtain ⟨u, h1, h2⟩ := Vals.get (i := i) (x := x) t (by simpa using e)
    exact ⟨u, by simpa using h1, h2⟩
theorem Vals.set {x : V} {u : Value} (r : RelV x u) : ∀ {xs : List V} {us : List Value} (i : Nat), Vals xs us -> Vals (xs.set i x) (us.set i u)
  | _, _, _, .nil => .nil
  | _, _, 0, .cons _ t => .cons r t
  | _, _, i + 1, .cons q t => .cons q (Vals.set r i t)
theorem Vals.append : ∀ {xs ys : List V} {us ws : List Value}, Vals xs us -> Vals ys ws -> Vals (xs ++ ys) (us ++ ws)
  | _, _, _, _, .nil, s => s
  | _, _, _, _, .cons r t, s => .cons r (Vals.append t s)
theorem Vals.take : ∀ {xs : List V} {us : List Value} (n : Nat), Vals xs us -> Vals (xs.take n) (us.take n)
  | _, _, 0, _ => .nil
  | _, _, _ + 1, .nil => .nil
  | _, _, n + 1, .cons r t => .cons r (Vals.take n t)
theorem Vals.drop : ∀ {xs : List V} {us : List Value} (n : Nat), Vals xs us -> Vals (xs.drop n) (us.drop n)
  | _, _, 0, r => r
  | _, _, _ + 1, .nil => .nil
  | _, _, n + 1, .cons _ t => Vals.drop n t
theorem Vals.none_of : ∀ {xs : List V} {us : List Value} {i : Nat}, Vals xs us -> xs[i]? = none -> us[i]? = none := fun {xs us i} r e => by
  have h1 := r.length
  have h2 : xs.length <= i := List.getElem?_eq_none_iff.mp e
  exact List.getElem?_eq_none_iff.mpr (by omega)
noncomputable def RelO : Option V -> Option Value -> Prop
  | some v, some u => RelV v u
  | none, none => True
  | _, _ => False
noncomputable def KV {κ : Type} : List (κ × V) -> List (κ × Value) -> Prop := Paired fun (p : κ × V) (q : κ × Value) => p.1 = q.1 /\ RelV p.2 q.2
noncomputable def kV : Key -> V
  | .inl i => .int i
  | .inr x => .str x
inductive HO where
  | lst (xs : List V)
  | tup (xs : List V)
  | dK (kvs : List (Key × V)) | dT (kvs : List (List Key × V))
  | set (S : Int -> Bool) (n : Nat)
  | ins (C dx : Addr) (fs : List (Str × V))
  | own (x : Addr)
  | xd (fs : List (Str × V))
  | met (f x : Addr)
  | rng (lo hi : Int)
  | frz (o : Obj) (u : HO)
  | tbl (ps : Array Value)
  | ext (φ : Heap -> Prop)
noncomputable abbrev Hp := Addr -> Option HO
noncomputable def upd (H : Hp) (a : Addr) (o : HO) : Hp := fun b => if b = a then some o else H b
theorem upd_same {H : Hp} {a : Addr} {o : HO} : upd H a o a = some o := by unfold upd; rw [if_pos rfl]
theorem upd_ne {H : Hp} {a b : Addr} {o : HO} (h : b ≠ a) : upd H a o b = H b := by unfold upd; rw [if_neg h]
theorem upd_upd {H : Hp} {a : Addr} {o u : HO} : upd (upd H a o) a u = upd H a u := by
  funext b; unfold upd; split <;> rfl
theorem ne_of {H : Hp} {a b : Addr} {o u : HO} (h : H a = some o) (h' : H b = some u) (d : o ≠ u) : a ≠ b := by
  intro e; subst e; rw [h] at h'; exact d (Option.some.inj h')
theorem ne_of_none {H : Hp} {a b : Addr} {o : HO} (h : H a = some o) (h' : H b = none) : a ≠ b := by
  intro e; subst e; rw [h] at h'; cases h'
section
variable (P : Program) (w : World)
noncomputable def ObjOk (H : Hp) (h : Heap) (a : Addr) : HO -> Prop
  | .lst xs => xs.length <= sizeLine /\ ∃ (its : List Value) (n : Nat), Vals xs its /\ h.get? a = some { cls := .type "list", data := .seq its.toArray n }
  | .tup xs => xs.length <= sizeLine /\ ∃ its : List Value, Vals xs its /\ IsTup h a its.toArray
  | .dK kvs => kvs.length <= sizeLine /\ (a == sysModules) = false /\ ∃ vs, KV kvs vs /\ h.DictOf (mixKind P w) a vs
  | .dT kvs => kvs.length <= sizeLine /\ (a == sysModules) = false /\ ∃ xs : List (List Key × Addr × Value),
      Paired (fun (p : List Key × V) (q : List Key × Addr × Value) => p.1 = q.1 /\ H q.2.1 = some (.tup (p.1.map kV)) /\ RelV p.2 q.2.2) kvs xs /\
      ∃ o es ep, h.get? a = some o /\ o.ExactDict /\ o.data = .dict es ep /\ es.toList = xs.map (entryOfKey (tupleKind (mixKind P w))) /\ (xs.map (·.1)).Nodup
  | .set S n => h.SetOf (intKind P w) a S n
  | .ins C dx fs => H dx = some (.own a) /\ fs.length <= 1000 /\ dx ≠ a /\ h.get? a = some (PySem.W.instObj C dx) /\
      ∃ mA, h.Ns1 dx mA /\ (∀ f, RelO (fs.lookup f) (mA f)) /\ PySem.Within mA (fs.map (·.1))
  | .own _ => ∃ o, h.get? a = some o
  | .xd fs => ∃ mA, h.Ns1 a mA /\ ∀ f, RelO (fs.lookup f) (mA f)
  | .rng lo hi => ∃ t u v, h.get? a = some { cls := .type "range", data := .fields #[.int lo t, .int hi u, .int 1 v] }
  | .frz o u => h.get? a = some o /\ ObjOk H h a u
  | .tbl ps => h.get? a = some { cls := .none, data := .fields ps }
  | .met f x => h.get? a = some (PySem.W.methodObj (.ref f) (.ref x))
  | .ext φ => φ h /\ (∃ o, h.get? a = some o) /\ ∀ h1 h2 : Heap, φ h1 -> (∀ o, h1.get? a = some o -> h2.get? a = some o) -> φ h2
noncomputable def HOk (H : Hp) (h : Heap) : Prop := ∀ a o, H a = some o -> ObjOk P w H h a o
end
section
variable {P : Program} {w : World} {H H' : Hp} {h h' : Heap} {a : Addr} {o : HO}
theorem ObjOk.lt (x : ObjOk P w H h a o) : a < h.objs.size := by
  cases o with
  | lst xs => obtain ⟨_, _, _, _, e⟩ := x; exact Heap.lt_size e
  | tup xs => obtain ⟨_, _, _, p⟩ := x; exact p.lt
  | dK kvs => obtain ⟨_, _, _, _, o, _, _, e, _⟩ := x; exact Heap.lt_size e
  | dT kvs => obtain ⟨_, _, _, _, o, _, _, e, _⟩ := x; exact Heap.lt_size e
  | set S n => obtain ⟨o, _, _, _, e, _⟩ := x; exact Heap.lt_size e
  | ins C dx fs => obtain ⟨_, _, _, e, _⟩ := x; exact Heap.lt_size e
  | own y => obtain ⟨_, e⟩ := x; exact Heap.lt_size e
  | xd fs => obtain ⟨_, ⟨_, _, _, e, _⟩, _⟩ := x; exact Heap.lt_size e
  | rng lo hi => obtain ⟨_, _, _, e⟩ := x; exact Heap.lt_size e
  | frz ob u => obtain ⟨e, _⟩ := x; exact Heap.lt_size e
  | tbl ps => exact Heap.lt_size (show h.get? a = some _ from x)
  | met f y => exact Heap.lt_size (show h.get? a = some _ from x)
  | ext φ => obtain ⟨_, ⟨_, e⟩, _⟩ := x; exact Heap.lt_size e
theorem Paired.mapP {α β : Type} {F G : α -> β -> Prop} : ∀ {l₁ : List α} {l₂ : List β}, Paired F l₁ l₂ -> (∀ a b, F a b -> G a b) -> Paired G l₁ l₂
  | _, _, .nil, _ => .nil
  | _, _, .cons r t, f => .cons (f _ _ r) (Paired.mapP t f)
theorem ObjOk.stay (x : ObjOk P w H h a o) (k : ∀ b u, (b = a \/ H b = some (.own a)) -> h.get? b = some u -> h'.get? b = some u)
    (ho : ∀ b, H b = some (.own a) -> H' b = some (.own a)) (ht : ∀ b xs, H b = some (.tup xs) -> H' b = some (.tup xs)) : ObjOk P w H' h' a o := by
  induction o with
  | lst xs => obtain ⟨z, its, n, r, e⟩ := x; exact ⟨z, its, n, r, k _ _ (.inl rfl) e⟩
  | tup xs => obtain ⟨z, its, r, ob, e, c⟩ := x; exact ⟨z, its, r, ob, k _ _ (.inl rfl) e, c⟩
  | dK kvs => obtain ⟨z, y, vs, r, ob, es, ep, e, c⟩ := x; exact ⟨z, y, vs, r, ob, es, ep, k _ _ (.inl rfl) e, c⟩
  | dT kvs =>
    obtain ⟨z, y, xs, r, ob, es, ep, e, c⟩ := x
    exact ⟨z, y, xs, Paired.mapP r fun p q z => ⟨z.1, ht _ _ z.2.1, z.2.2⟩, ob, es, ep, k _ _ (.inl rfl) e, c⟩
  | set S n => obtain ⟨ob, es, ep, t, e, c⟩ := x; exact ⟨ob, es, ep, t, k _ _ (.inl rfl) e, c⟩
  | ins C dx fs =>
    obtain ⟨d, z, ne, e, mA, ⟨od, es, ep, e2, c⟩, r⟩ := x
    exact ⟨ho _ d, z, ne, k _ _ (.inl rfl) e, mA, ⟨od, es, ep, k _ _ (.inr d) e2, c⟩, r⟩
  | own y => obtain ⟨ob, e⟩ := x; exact ⟨ob, k _ _ (.inl rfl) e⟩
  | xd fs => obtain ⟨mA, ⟨od, es, ep, e, c⟩, r⟩ := x; exact ⟨mA, ⟨od, es, ep, k _ _ (.inl rfl) e, c⟩, r⟩
  | rng lo hi => obtain ⟨t, u, v, e⟩ := x; exact ⟨t, u, v, k _ _ (.inl rfl) e⟩
  | frz ob u ih => obtain ⟨e, q⟩ := x; exact ⟨k _ _ (.inl rfl) e, ih q⟩
  | tbl ps =>
    have e : h.get? a = some { cls := .none, data := .fields ps } := x
    show h'.get? a = some { cls := .none, data := .fields ps }
    exact k a _ (.inl rfl) e
  | met f y =>
    have e : h.get? a = some (PySem.W.methodObj (.ref f) (.ref y)) := x
    show h'.get? a = some (PySem.W.methodObj (.ref f) (.ref y))
    exact k a _ (.inl rfl) e
  | ext φ => obtain ⟨p, ⟨o, e⟩, st⟩ := x; exact ⟨st _ _ p fun o q => k _ _ (.inl rfl) q, ⟨o, k _ _ (.inl rfl) e⟩, st⟩
theorem HOk.lt (x : HOk P w H h) (e : H a = some o) : a < h.objs.size := (x a o e).lt
theorem HOk.fresh (x : HOk P w H h) (e : h.objs.size <= a) : H a = none := by
  cases q : H a with
  | none => rfl
  | some u => exact absurd (Nat.lt_of_lt_of_le (x.lt q) e) (Nat.lt_irrefl _)
theorem HOk.kept (x : HOk P w H h) (k : ∀ b u, h.get? b = some u -> h'.get? b = some u) : HOk P w H h' := fun a o e =>
  (x a o e).stay (fun b u _ q => k b u q) (fun _ q => q) fun _ _ q => q
theorem HOk.laid (x : HOk P w H h) (k : ∀ b u, h.get? b = some u -> h'.get? b = some u) (hp : h.objs.size <= a) (new : ObjOk P w (upd H a o) h' a o) : HOk P w (upd H a o) h' := fun b u e => by
  have hn := x.fresh hp
  by_cases hb : b = a
  · subst hb; rw [upd_same] at e; cases e; exact new
  · rw [upd_ne hb] at e
    exact (x b u e).stay (fun c v _ q => k c v q) (fun c q => by rw [upd_ne (ne_of_none q hn)]; exact q) fun c xs q => by rw [upd_ne (ne_of_none q hn)]; exact q
end
noncomputable def Rd (H : Hp) (a : Addr) (u : HO) : Prop := H a = some u \/ ∃ o, H a = some (.frz o u)
theorem Rd.of {H : Hp} {a : Addr} {u : HO} (h : H a = some u) : Rd H a u := .inl h
theorem Rd.ok {P : Program} {w : World} {H : Hp} {h : Heap} {a : Addr} {u : HO} (r : Rd H a u) (x : HOk P w H h) : ObjOk P w H h a u := by
  rcases r with r | ⟨o, r⟩
  · exact x a u r
  · obtain ⟨_, q⟩ := x a _ r
    exact q
noncomputable def Mut : Option HO -> Prop
  | some (.lst _) => True
  | some (.dK _) => True
  | some (.dT _) => True
  | some (.set _ _) => True
  | some (.ins _ _ _) => True
  | some (.ext _) => True
  | _ => False
section
variable {P : Program} {w : World} {H : Hp} {h h' : Heap} {x e : Addr} {o' : HO}
theorem HOk.write (ok : HOk P w H h) (mu : Mut (H x)) (he : e = x \/ H e = some (.own x)) (k : ∀ b u, b ≠ e -> h.get? b = some u -> h'.get? b = some u) (heo : ∃ u, h'.get? e = some u)
    (new : ObjOk P w (upd H x o') h' x o') : HOk P w (upd H x o') h' := fun b u q => by
  have nown : ∀ c y, H c = some (.own y) -> c ≠ x := fun c y r z => by subst z; rw [r] at mu; exact mu
  have ntup : ∀ c xs, H c = some (.tup xs) -> c ≠ x := fun c xs r z => by subst z; rw [r] at mu; exact mu
  by_cases hb : b = x
  · subst hb; rw [upd_same] at q; cases q; exact new
  · rw [upd_ne hb] at q
    by_cases hbe : b = e
    · have q' : H b = some (.own x) := by
        rcases he with z | z
        · exact absurd (hbe.trans z) hb
        · rw [hbe]; exact z
      rw [q] at q'; cases q'
      obtain ⟨v, hv⟩ := heo
      exact ⟨v, by rw [hbe]; exact hv⟩
    · refine (ok b u q).stay (fun c v hc r => k c v ?_ r) (fun c r => by rw [upd_ne (nown c b r)]; exact r) fun c xs r => by rw [upd_ne (ntup c xs r)]; exact r
      rcases hc with rfl | hc
      · exact hbe
      · rintro rfl
        rcases he with z | z
        · exact nown c b hc z
        · rw [hc] at z; cases z; exact hb rfl
end
structure Un (fs ex : List Addr) (H H' : Hp) (h h' : Heap) : Prop where
  keep : ∀ b o, h.get? b = some o -> H b = none -> b ∉ fs -> b ∉ ex -> h'.get? b = some o
  slot : ∀ b o, h.get? b = some o -> H b = none -> b ∈ fs -> b ∉ ex -> ∃ sl, h'.get? b = some { o with slots := sl }
  free : ∀ b o, h.get? b = some o -> H b = none -> b ∉ ex -> H' b = none
  there : ∀ b o, h.get? b = some o -> b ∉ ex -> ∃ o', h'.get? b = some o'
  tups : ∀ b xs, H b = some (.tup xs) -> H' b = some (.tup xs)
  frzs : ∀ b o u, H b = some (.frz o u) -> H' b = some (.frz o u)
  tbls : ∀ b ps, H b = some (.tbl ps) -> ∃ more, H' b = some (.tbl (ps ++ more))
section
variable {fs fs' ex ex' : List Addr} {H H1 H2 : Hp} {h h1 h2 h' : Heap} {a x e : Addr} {o : HO}
theorem Un.any (u : Un fs ex H H1 h h1) {b : Addr} {ob : Obj} (q : h.get? b = some ob) (n : H b = none) (hx : b ∉ ex) : ∃ sl, h1.get? b = some { ob with slots := sl } := by
  by_cases hb : b ∈ fs
  · exact u.slot b ob q n hb hx
  · exact ⟨ob.slots, u.keep b ob q n hb hx⟩
theorem Un.trans (a : Un fs ex H H1 h h1) (b : Un fs ex H1 H2 h1 h2) : Un fs ex H H2 h h2 where
  keep := fun c ob q n hc hx => b.keep c ob (a.keep c ob q n hc hx) (a.free c ob q n hx) hc hx
  slot := fun c ob q n hc hx => by
    obtain ⟨sl, e1⟩ := a.slot c ob q n hc hx
    obtain ⟨sl', e2⟩ := b.slot c _ e1 (a.free c ob q n hx) hc hx
    exact ⟨sl', e2⟩
  free := fun c ob q n hx => by
    obtain ⟨o', e1⟩ := a.there c ob q hx
    exact b.free c o' e1 (a.free c ob q n hx) hx
  there := fun c ob q hx => by
    obtain ⟨o', e1⟩ := a.there c ob q hx
    exact b.there c o' e1 hx
  tups := fun c xs q => b.tups c xs (a.tups c xs q)
  frzs := fun c ob xs q => b.frzs c ob xs (a.frzs c ob xs q)
  tbls := fun c ps q => by
    obtain ⟨m1, e1⟩ := a.tbls c ps q
    obtain ⟨m2, e2⟩ := b.tbls c _ e1
    exact ⟨m1 ++ m2, by rw [e2, Array.append_assoc]⟩
theorem Un.kept (k : ∀ b u, h.get? b = some u -> h'.get? b = some u) : Un fs ex H H h h' :=
  ⟨fun b ob q _ _ _ => k b ob q, fun b ob q _ _ _ => ⟨ob.slots, k b ob q⟩, fun _ _ _ n _ => n, fun b ob q _ => ⟨ob, k b ob q⟩, fun _ _ q => q, fun _ _ _ q => q, fun _ ps q => ⟨#[], by rw [q]; simp⟩⟩
theorem Un.refl : Un fs ex H H h h := Un.kept fun _ _ q => q
theorem Un.laid (k : ∀ b u, h.get? b = some u -> h'.get? b = some u) (hp : h.objs.size <= a) (hn : H a = none) : Un fs ex H (upd H a o) h h' where
  keep := fun b u q _ _ _ => k b u q
  slot := fun b u q _ _ _ => ⟨u.slots, k b u q⟩
  free := fun b u q n _ => by rw [upd_ne (Nat.ne_of_lt (Nat.lt_of_lt_of_le (Heap.lt_size q) hp))]; exact n
  there := fun b u q _ => ⟨u, k b u q⟩
  tups := fun b xs q => by rw [upd_ne (ne_of_none q hn)]; exact q
  frzs := fun b u xs q => by rw [upd_ne (ne_of_none q hn)]; exact q
  tbls := fun b ps q => ⟨#[], by rw [upd_ne (ne_of_none q hn), q]; simp⟩
theorem Un.write (mu : Mut (H x)) (he : e = x \/ H e = some (.own x)) (k : ∀ b u, b ≠ e -> h.get? b = some u -> h'.get? b = some u) (heo : ∃ u, h'.get? e = some u) : Un fs ex H (upd H x o) h h' := by
  have hx : ∀ b, H b = none -> b ≠ x := fun b n z => by subst z; rw [n] at mu; exact mu
  have hb : ∀ b, H b = none -> b ≠ e := fun b n z => by
    subst z
    rcases he with r | r
    · exact hx b n r
    · rw [n] at r; cases r
  have hm : ∀ b u, H b = some u -> ¬ Mut (some u) -> b ≠ x := fun b u q nm z => by subst z; rw [q] at mu; exact nm mu
  refine ⟨fun b u q n _ _ => k b u (hb b n) q, fun b u q n _ _ => ⟨u.slots, k b u (hb b n) q⟩, fun b u q n _ => by rw [upd_ne (hx b n)]; exact n, fun b u q _ => ?_,
    fun b xs q => by rw [upd_ne (hm b _ q fun z => z)]; exact q, fun b u xs q => by rw [upd_ne (hm b _ q fun z => z)]; exact q, fun b ps q => ⟨#[], by rw [upd_ne (hm b _ q fun z => z), q]; simp⟩⟩
  by_cases hbe : b = e
  · subst hbe; exact heo
  · exact ⟨u, k b u hbe q⟩
theorem Un.mono (u : Un fs ex H H1 h h1) (hs : ∀ b ∈ fs, b ∈ fs') (hx : ∀ b ∈ ex, b ∈ ex') : Un fs' ex' H H1 h h1 :=
  ⟨fun b ob q n hb he => u.keep b ob q n (fun z => hb (hs b z)) fun z => he (hx b z), fun _ _ q n _ he => u.any q n fun z => he (hx _ z), fun b ob q n he => u.free b ob q n fun z => he (hx b z), fun b ob q he => u.there b ob q fun z => he (hx b z), u.tups, u.frzs, u.tbls⟩
end
noncomputable def trk (h : Heap) (H : Hp) : List Addr := (List.range h.objs.size).filter fun a => (H a).isSome
noncomputable def hidT (h : Heap) (H : Hp) : Heap := PySem.W.hideAll h (trk h H)
theorem hidT_size (h : Heap) (H : Hp) : (hidT h H).objs.size = h.objs.size := PySem.W.hideAll_size _ _
theorem hidT_get {h : Heap} {H : Hp} {b : Addr} {o : Obj} (e : h.get? b = some o) (n : H b = none) : (hidT h H).get? b = some o :=
  PySem.W.hideAll_get _ e fun hm => by
    have q : (H b).isSome = true := (List.mem_filter.mp hm).2
    rw [n] at q; simp at q
theorem of_hidT {h : Heap} {H : Hp} {b : Addr} {o : Obj} (e : (hidT h H).get? b = some o) : h.get? b = some o /\ H b = none := by
  have e' : h.get? b = some o := PySem.W.of_hideAll (trk h H) e
  refine ⟨e', ?_⟩
  cases q : H b with
  | none => rfl
  | some x =>
    have hm : b ∈ trk h H := List.mem_filter.mpr ⟨List.mem_range.mpr (Heap.lt_size e'), by simp [q]⟩
    have z : (hidT h H).get? b = none := PySem.W.hideAll_none (trk h H) hm
    rw [z] at e; cases e
noncomputable def allNews (g h : Heap) (L : Addr) : List (Addr × Obj) := (List.range h.objs.size).filterMap fun a => if a = L \/ (g.get? a).isSome = true then none else (h.get? a).map fun o => (a, o)
noncomputable def rest (g h : Heap) (L d : Addr) : List (Addr × Obj) := (allNews g h L).filter fun p => decide (p.1 ≠ d)
end L2
namespace L2
open PySem PySem.Spec PyProof.Rows
structure Mod (K : PySem.W.Frag) (mg : Str -> Option Value) (base : Heap) : Prop where
  kin : K.In base
  glob : base.Ns mainGlobals mg
  blt : ∃ mb, base.Ns builtinsNs mb /\ ∀ x : Str, x ≠ "__name__" -> mb x = bootBuiltins x
  nolimit : base.NoLimit
structure Cx where
  prog : Program
  w : World
  K : PySem.W.Frag
  mg : Str -> Option Value
  base : Heap
  A : Around
  N : List Str
  s₀ : Shared
  H₀ : Hp
  env : Env
  outer : List Env
  stack : List Env
  ex : List Addr
  fn : Str -> Bool
  calm : Bool
  pn : List (Addr × Obj)
  xe : Value -> Shared -> Prop
  nz : Str -> Bool := fun _ => false
noncomputable def Nz (u : Value) : Prop := ∀ z t, u = .str z t -> t ≠ 0
noncomputable def frs (l : List Env) : List Addr := l.filterMap (·.frame)
noncomputable abbrev Cx.fs (X : Cx) : List Addr := frs X.outer
noncomputable def Vis (sc : Scope) (x : Str) : Prop := sc.names.lookup x = some .local \/ sc.names.lookup x = some .cell \/ sc.names.lookup x = some .free
noncomputable def Loc (sc : Scope) (x : Str) : Prop := sc.names.lookup x = some .local \/ sc.names.lookup x = some .cell
noncomputable def Look (env : Env) (h : Heap) (m : Str -> Option Value) (x : Str) (u : Value) : Prop :=
  (env.kindOf x = some .local /\ m x = some u) \/ ((env.kindOf x = some .cell \/ env.kindOf x = some .free) /\ ∃ c, env.cells.lookup x = some c /\ h.IsCell c (some u))
structure Cx.Ok (X : Cx) : Prop where
  mod : Mod X.K X.mg X.base
  kind : X.env.scope.kind = .function
  glob : X.env.globals = mainGlobals
  blt : X.env.builtins = builtinsNs
  above : X.s₀.heap.objs.size <= X.env.locals
  inj : ∀ x y c, X.env.cells.lookup x = some c -> X.env.cells.lookup y = some c -> x = y
  has : ∀ x, (X.env.kindOf x = some .cell \/ X.env.kindOf x = some .free) -> ∃ c, X.env.cells.lookup x = some c
  cab : ∀ x c, X.fn x = true -> X.env.cells.lookup x = some c -> X.s₀.heap.objs.size <= c
  hd : X.calm = true -> X.A.handled = none
  frames : X.A.frames = some X.stack
  stk : X.stack = X.outer \/ (X.stack = X.env :: X.outer /\ X.env.frame = some X.env.locals)
  exf : ∀ b ∈ X.ex, b ≠ X.env.locals /\ ∀ x c, X.env.cells.lookup x = some c -> c ≠ b
  bs : ∀ b o, X.base.get? b = some o -> X.s₀.heap.get? b = some o /\ X.H₀ b = none
  bsz : X.base.objs.size <= X.s₀.heap.objs.size
  noex : ∀ b o, X.base.get? b = some o -> b ∉ X.ex
  exfs : ∀ b ∈ X.ex, b ∉ X.fs
  funs : X.s₀.heap.FunFrames X.base X.outer
  frf : ∀ b ∈ X.fs, X.H₀ b = none
structure Inv (X : Cx) (pins : List (Addr × Obj)) (σ : List (Option V)) (H : Hp) (s : Shared) : Prop where
  ok : X.Ok
  os : s.os = X.s₀.os
  bare : AllBare s.gens
  base : Un X.fs X.ex X.H₀ H X.s₀.heap s.heap
  loc : ∃ m, s.heap.Ns X.env.locals m /\ ∀ (i : Nat) (x : Str) (v : V), X.N[i]? = some x -> σ[i]? = some (some v) -> Vis X.env.scope x -> ∃ u, (RelV v u /\ (X.nz x = true -> Nz u)) /\ Look X.env s.heap m x u
  cell : ∀ x c, X.env.cells.lookup x = some c -> ∃ v, s.heap.IsCell c v
  free : H X.env.locals = none
  freeC : ∀ x c, X.env.cells.lookup x = some c -> H c = none
  pin : ∀ p ∈ X.pn ++ pins, s.heap.get? p.1 = some p.2 /\ H p.1 = none /\ p.1 ≠ X.env.locals /\ p.1 ∉ X.fs /\ ∀ v, p.2.data ≠ .cell v
  hok : HOk X.prog X.w H s.heap
  len : σ.length = X.N.length
section
variable {X : Cx} {pins : List (Addr × Obj)} {σ : List (Option V)} {H H' : Hp} {s : Shared} {h' : Heap}
theorem Cx.Ok.nofr (ok : X.Ok) {b : Addr} {o : Obj} (e : X.base.get? b = some o) : b ∉ X.fs := fun hb => by
  have := (ok.funs.mem hb).1
  rw [e] at this; cases this
theorem Inv.bs (I : Inv X pins σ H s) : ∀ b o, X.base.get? b = some o -> s.heap.get? b = some o /\ H b = none := fun b o e =>
  ⟨I.base.keep b o (I.ok.bs b o e).1 (I.ok.bs b o e).2 (I.ok.nofr e) (I.ok.noex b o e), I.base.free b o (I.ok.bs b o e).1 (I.ok.bs b o e).2 (I.ok.noex b o e)⟩
theorem Inv.bk (I : Inv X pins σ H s) : ∀ b o, X.base.get? b = some o -> s.heap.get? b = some o := fun b o e => (I.bs b o e).1
theorem Inv.mod (I : Inv X pins σ H s) : Mod X.K X.mg X.base := I.ok.mod
theorem Inv.kIn (I : Inv X pins σ H s) : X.K.In s.heap := I.ok.mod.kin.keeps I.bk
theorem Inv.nolimit (I : Inv X pins σ H s) : s.heap.NoLimit := I.ok.mod.nolimit.keeps I.bk
theorem Inv.fr (I : Inv X pins σ H s) : ∃ m, Fr X.base X.env.locals s.heap m :=
  let ⟨m, hn, _⟩ := I.loc
  ⟨m, hn, I.bk, Nat.le_trans I.ok.bsz I.ok.above⟩
theorem Inv.lt (I : Inv X pins σ H s) : X.env.locals < s.heap.objs.size := let ⟨_, hn, _⟩ := I.loc; hn.lt
theorem Inv.sz (I : Inv X pins σ H s) : X.s₀.heap.objs.size <= s.heap.objs.size := Nat.le_trans I.ok.above (Nat.le_of_lt I.lt)
theorem Inv.nofs (I : Inv X pins σ H s) {a : Addr} (h : s.heap.objs.size <= a) : a ∉ X.fs := fun hb => by
  obtain ⟨_, o, ho, _⟩ := I.ok.funs.mem hb
  exact absurd (Nat.lt_of_lt_of_le (Heap.lt_size ho) (Nat.le_trans I.sz h)) (Nat.lt_irrefl _)
theorem Inv.cne (I : Inv X pins σ H s) : ∀ x c, X.env.cells.lookup x = some c -> c ≠ X.env.locals := fun x c e z => by
  obtain ⟨v, o, ho, hd⟩ := I.cell x c e
  obtain ⟨m, ⟨o', es, ep, ho', hd', _⟩, _⟩ := I.loc
  rw [z, ho'] at ho; cases ho; rw [hd'] at hd; cases hd
theorem Inv.funs (I : Inv X pins σ H s) : s.heap.FunFrames X.base X.outer := by
  have all : ∀ (l : List Env), (∀ b ∈ frs l, b ∈ X.fs) -> X.s₀.heap.FunFrames X.base l -> s.heap.FunFrames X.base l := by
    intro l
    induction l with
    | nil => intro _ _; trivial
    | cons env r ih =>
      intro hs hl
      obtain ⟨hk, ⟨L, o, hf, hn, ho, hd⟩, hr⟩ := hl
      have hL : L ∈ X.fs := hs L (by unfold frs; rw [List.filterMap_cons, hf]; exact List.mem_cons_self)
      obtain ⟨sl, e⟩ := I.base.slot L o ho (I.ok.frf L hL) hL fun z => I.ok.exfs L z hL
      exact ⟨hk, ⟨L, _, hf, hn, e, hd⟩, ih (fun b hb => hs b (by unfold frs; rw [List.filterMap_cons, hf]; exact List.mem_cons_of_mem _ hb)) hr⟩
  exact all X.outer (fun _ hb => hb) I.ok.funs
theorem Inv.stack (I : Inv X pins σ H s) : s.heap.FunFrames X.base X.stack := by
  rcases I.ok.stk with e | ⟨e, hf⟩
  · rw [e]; exact I.funs
  · rw [e]
    obtain ⟨m, hn, _⟩ := I.loc
    refine .cons (by rw [I.ok.kind]; decide) hf hn ?_ I.funs
    exact Heap.get?_none_of_le (Nat.le_trans I.ok.bsz I.ok.above)
theorem Inv.stkSub (I : Inv X pins σ H s) : ∀ b ∈ frs X.stack, b ∈ X.env.locals :: X.fs := fun b hb => by
  rcases I.ok.stk with e | ⟨e, hf⟩
  · rw [e] at hb; exact List.mem_cons_of_mem _ hb
  · rw [e] at hb
    unfold frs at hb
    rw [List.filterMap_cons, hf] at hb
    exact hb
theorem Inv.stkFree (I : Inv X pins σ H s) : ∀ b ∈ frs X.stack, H b = none := fun b hb => by
  rcases List.mem_cons.mp (I.stkSub b hb) with e | hb
  · rw [e]; exact I.free
  · obtain ⟨_, o, ho, _⟩ := I.ok.funs.mem hb
    exact I.base.free b o ho (I.ok.frf b hb) fun z => I.ok.exfs b z hb
theorem Inv.step {g' : Array GenState} {t' : Nat} {d' : Drawn} {ch : List Addr} (I : Inv X pins σ H s)
    (hch : ∀ b ∈ ch, (b ∈ X.ex \/ X.s₀.heap.objs.size <= b) /\ b ≠ X.env.locals /\ (∀ x c, X.env.cells.lookup x = some c -> c ≠ b) /\ ∀ p ∈ X.pn ++ pins, p.1 ≠ b)
    (keep : ∀ b o, b ≠ X.env.locals -> b ∉ X.fs -> b ∉ ch -> s.heap.get? b = some o -> H b = none -> h'.get? b = some o)
    (slot : ∀ b o, b ≠ X.env.locals -> b ∈ X.fs -> b ∉ ch -> s.heap.get? b = some o -> H b = none -> ∃ sl, h'.get? b = some { o with slots := sl }) (free : ∀ b o, b ∉ ch -> s.heap.get? b = some o -> H b = none -> H' b = none)
    (there : ∀ b o, b ∉ ch -> s.heap.get? b = some o -> ∃ o', h'.get? b = some o')
    (tups : ∀ b xs, H b = some (.tup xs) -> H' b = some (.tup xs)) (frzs : ∀ b o u, H b = some (.frz o u) -> H' b = some (.frz o u)) (tbls : ∀ b ps, H b = some (.tbl ps) -> ∃ more, H' b = some (.tbl (ps ++ more)))
    (ns : ∀ m, s.heap.Ns X.env.locals m -> h'.Ns X.env.locals m) (hok : HOk X.prog X.w H' h') (hg : AllBare g') :
    Inv X pins σ H' { s with heap := h', gens := g', drawn := d', toks := t' } := by
  have neL : ∀ b o, X.s₀.heap.get? b = some o -> b ≠ X.env.locals := fun b o e => Nat.ne_of_lt (Nat.lt_of_lt_of_le (Heap.lt_size e) I.ok.above)
  have neC : ∀ b o, X.s₀.heap.get? b = some o -> b ∉ X.ex -> b ∉ ch := fun b o e hx hb => by
    rcases (hch b hb).1 with z | z
    · exact hx z
    · exact absurd (Nat.lt_of_lt_of_le (Heap.lt_size e) z) (Nat.lt_irrefl _)
  have cellK : ∀ x c, X.env.cells.lookup x = some c -> ∀ v, s.heap.IsCell c v -> h'.IsCell c v := fun x c e v ⟨o, ho, hd⟩ => by
    have nch : c ∉ ch := fun z => (hch c z).2.2.1 x c e rfl
    by_cases hc : c ∈ X.fs
    · obtain ⟨sl, q⟩ := slot c o (I.cne x c e) hc nch ho (I.freeC x c e)
      exact ⟨_, q, hd⟩
    · exact ⟨o, keep c o (I.cne x c e) hc nch ho (I.freeC x c e), hd⟩
  refine ⟨I.ok, I.os, hg, ⟨fun b o e n hb hx => ?_, fun b o e n hb hx => ?_, fun b o e n hx => ?_, fun b o e hx => ?_, fun b xs e => tups b xs (I.base.tups b xs e), fun b o xs e => frzs b o xs (I.base.frzs b o xs e), fun b ps e => ?_⟩, ?_, fun x c e => ?_, ?_, fun x c e => ?_, fun p hp => ?_, hok, I.len⟩
  · exact keep b o (neL b o e) hb (neC b o e hx) (I.base.keep b o e n hb hx) (I.base.free b o e n hx)
  · obtain ⟨sl, e1⟩ := I.base.slot b o e n hb hx
    obtain ⟨sl', e2⟩ := slot b _ (neL b o e) hb (neC b o e hx) e1 (I.base.free b o e n hx)
    exact ⟨sl', e2⟩
  · obtain ⟨o', e1⟩ := I.base.there b o e hx
    exact free b o' (neC b o e hx) e1 (I.base.free b o e n hx)
  · obtain ⟨o', e1⟩ := I.base.there b o e hx
    exact there b o' (neC b o e hx) e1
  · obtain ⟨m1, e1⟩ := I.base.tbls b ps e
    obtain ⟨m2, e2⟩ := tbls b _ e1
    exact ⟨m1 ++ m2, by rw [e2, Array.append_assoc]⟩
  · obtain ⟨m, hn, hl⟩ := I.loc
    refine ⟨m, ns m hn, fun i x v e1 e2 e3 => ?_⟩
    obtain ⟨u, r, l⟩ := hl i x v e1 e2 e3
    refine ⟨u, r, ?_⟩
    rcases l with l | ⟨k, c, e, z⟩
    · exact .inl l
    · exact .inr ⟨k, c, e, cellK x c e _ z⟩
  · obtain ⟨v, z⟩ := I.cell x c e
    exact ⟨v, cellK x c e v z⟩
  · obtain ⟨m, ⟨o, _, _, ho, _⟩, _⟩ := I.loc
    exact free _ o (fun z => (hch _ z).2.1 rfl) ho I.free
  · obtain ⟨v, o, ho, hd⟩ := I.cell x c e
    exact free c o (fun z => (hch c z).2.2.1 x c e rfl) ho (I.freeC x c e)
  · obtain ⟨e, n, ne, nf, d⟩ := I.pin p hp
    have nch : p.1 ∉ ch := fun z => (hch p.1 z).2.2.2 p hp rfl
    exact ⟨keep p.1 p.2 ne nf nch e n, free p.1 p.2 nch e n, ne, nf, d⟩
theorem Inv.un {t' : Nat} (I : Inv X pins σ H s) (u : Un X.fs [] H H' s.heap h') (hok : HOk X.prog X.w H' h') : Inv X pins σ H' { s with heap := h', toks := t' } := by
  obtain ⟨m, ⟨o, es, ep, ho, r⟩, _⟩ := id I.loc
  obtain ⟨sl, hL⟩ := u.any ho I.free (by simp)
  exact I.step (g' := s.gens) (d' := s.drawn) (ch := []) (fun _ z => nomatch z) (fun b o _ hb _ e n => u.keep b o e n hb (by simp)) (fun b o _ hb _ e n => u.slot b o e n hb (by simp)) (fun b o _ e n => u.free b o e n (by simp)) (fun b o _ e => u.there b o e (by simp)) u.tups u.frzs u.tbls (fun m' hm => by
    obtain ⟨o', es', ep', ho', r'⟩ := hm
    rw [ho] at ho'; cases ho'
    exact ⟨_, es', ep', hL, r'⟩) hok I.bare
theorem Inv.call {g' : Array GenState} {t' : Nat} {d' : Drawn} {ch : List Addr} (I : Inv X pins σ H s) (u : Un (frs X.stack) ch H H' s.heap h') (hok : HOk X.prog X.w H' h') (hg : AllBare g')
    (hch : ∀ b ∈ ch, (b ∈ X.ex \/ X.s₀.heap.objs.size <= b) /\ b ≠ X.env.locals /\ (∀ x c, X.env.cells.lookup x = some c -> c ≠ b) /\ ∀ p ∈ X.pn ++ pins, p.1 ≠ b) :
    Inv X pins σ H' { s with heap := h', gens := g', drawn := d', toks := t' } := by
  obtain ⟨m, ⟨o, es, ep, ho, r⟩, _⟩ := id I.loc
  obtain ⟨sl, hL⟩ := u.any ho I.free fun z => (hch _ z).2.1 rfl
  exact I.step (ch := ch) hch (fun b o hL hb hc e n => u.keep b o e n (fun z => (List.mem_cons.mp (I.stkSub b z)).elim hL hb) hc) (fun b o _ _ hc e n => u.any e n hc) (fun b o hc e n => u.free b o e n hc) (fun b o hc e => u.there b o e hc) u.tups u.frzs u.tbls (fun m' hm => by
    obtain ⟨o', es', ep', ho', r'⟩ := hm
    rw [ho] at ho'; cases ho'
    exact ⟨_, es', ep', hL, r'⟩) hok hg
theorem Inv.turned {t' : Nat} {it : Addr} (I : Inv X pins σ H s) (k : ∀ b o, b ≠ it -> s.heap.get? b = some o -> h'.get? b = some o) (hn : H it = none) (hL : it ≠ X.env.locals)
    (h1 : it ∈ X.ex \/ X.s₀.heap.objs.size <= it) (h2 : ∀ x c, X.env.cells.lookup x = some c -> c ≠ it) (h3 : ∀ p ∈ X.pn ++ pins, p.1 ≠ it) : Inv X pins σ H { s with heap := h', toks := t' } := by
  have nit : ∀ b u, H b = some u -> b ≠ it := fun b u e z => by rw [z, hn] at e; cases e
  refine I.step (g' := s.gens) (d' := s.drawn) (ch := [it]) (fun b hb => ?_) (fun b o _ _ hc e _ => k b o (fun z => hc (by simp [z])) e) (fun b o _ _ hc e _ => ⟨o.slots, k b o (fun z => hc (by simp [z])) e⟩) (fun _ _ _ _ n => n)
    (fun b o hc e => ⟨o, k b o (fun z => hc (by simp [z])) e⟩) (fun _ _ e => e) (fun _ _ _ e => e) (fun b ps e => ⟨#[], by rw [e]; simp⟩) (fun m hm => ?_) (fun b u e => ?_) I.bare
  · have e : b = it := by simpa using hb
    subst e
    exact ⟨h1, hL, h2, h3⟩
  · obtain ⟨o, es, ep, ho, r⟩ := hm
    exact ⟨o, es, ep, k _ o (Ne.symm hL) ho, r⟩
  · refine (I.hok b u e).stay (fun c v hc q => k c v ?_ q) (fun _ q => q) fun _ _ q => q
    rcases hc with z | z
    · rw [z]; exact nit b u e
    · exact nit c _ z
theorem Inv.tok (I : Inv X pins σ H s) (t : Nat) : Inv X pins σ H { s with toks := t } := I.un (h' := s.heap) (t' := t) Un.refl I.hok
theorem Inv.kept {t' : Nat} (I : Inv X pins σ H s) (k : ∀ b u, s.heap.get? b = some u -> h'.get? b = some u) : Inv X pins σ H { s with heap := h', toks := t' } := I.un (Un.kept k) (I.hok.kept k)
theorem Inv.laid {a : Addr} {o : HO} {t' : Nat} (I : Inv X pins σ H s) (k : ∀ b u, s.heap.get? b = some u -> h'.get? b = some u) (hp : s.heap.objs.size <= a) (new : ObjOk X.prog X.w (upd H a o) h' a o) :
    Inv X pins σ (upd H a o) { s with heap := h', toks := t' } := I.un (Un.laid k hp (I.hok.fresh hp)) (I.hok.laid k hp new)
theorem Inv.write {x e : Addr} {o : HO} {t' : Nat} (I : Inv X pins σ H s) (mu : Mut (H x)) (he : e = x \/ H e = some (.own x)) (k : ∀ b u, b ≠ e -> s.heap.get? b = some u -> h'.get? b = some u) (heo : ∃ u, h'.get? e = some u)
    (new : ObjOk X.prog X.w (upd H x o) h' x o) : Inv X pins σ (upd H x o) { s with heap := h', toks := t' } := I.un (Un.write mu he k heo) (I.hok.write mu he k heo new)
theorem Inv.pins_of {pins' : List (Addr × Obj)} (I : Inv X pins σ H s) (h : ∀ p ∈ pins', s.heap.get? p.1 = some p.2 /\ H p.1 = none /\ p.1 ≠ X.env.locals /\ p.1 ∉ X.fs /\ ∀ v, p.2.data ≠ .cell v) : Inv X pins' σ H s :=
  ⟨I.ok, I.os, I.bare, I.base, I.loc, I.cell, I.free, I.freeC, fun p hp => (List.mem_append.mp hp).elim (fun z => I.pin p (List.mem_append_left _ z)) (h p), I.hok, I.len⟩
theorem nodup_ix {N : List Str} (hN : N.Nodup) {i j : Nat} {x : Str} (a : N[i]? = some x) (b : N[j]? = some x) : i = j := by
  obtain ⟨h1, e1⟩ := List.getElem?_eq_some_iff.mp a
  obtain ⟨h2, e2⟩ := List.getElem?_eq_some_iff.mp b
  exact (List.getElem_inj hN).mp (e1.trans e2.symm)
theorem store_ok2 {M : Model} {A : Around} {E : Value -> Shared -> Prop} {i : Nat} {x : Str} {v : V} {u : Value} {Q : Unit -> Shared -> Prop} (I : Inv X pins σ H s) (hN : X.N.Nodup) (hi : X.N[i]? = some x) (hx : Loc X.env.scope x) (r : RelV v u)
    (h : ∀ s', Inv X pins (σ.set i (some v)) H s' -> (∃ a, Heap.SameBut a s.heap s'.heap /\ (a = X.env.locals \/ X.env.cells.lookup x = some a)) -> Q () s') (hf : X.fn x = true \/ X.env.scope.names.lookup x = some .local := by first | exact .inl rfl | exact .inr rfl | assumption) (hz : X.nz x = true -> Nz u := by first | exact (fun h => by cases h) | assumption) : wpAny M A (storeName X.env x u) Q E s := by
  obtain ⟨m, hn, hl⟩ := id I.loc
  have hcls : (X.env.scope.kind == .class || (X.env.scope.kind == .module && X.env.locals != X.env.globals)) = false := by rw [I.ok.kind]; rfl
  have hiσ : i < σ.length := by rw [I.len]; exact (List.getElem?_eq_some_iff.mp hi).1
  have cne := I.cne
  have tracked : ∀ {a : Addr} {h' : Heap}, (∃ o, s.heap.get? a = some o /\ H a = none) -> Heap.SameBut a s.heap h' -> HOk X.prog X.w H h' := fun {a h'} ha hs b ob e => by
    obtain ⟨_, _, hfree⟩ := ha
    refine (I.hok b ob e).stay (fun c w' hc q => (hs.2 c ?_).trans q) (fun _ q => q) fun _ _ q => q
    rintro rfl
    rcases hc with rfl | hc
    · rw [hfree] at e; cases e
    · rw [hfree] at hc; cases hc
  rcases hx with hk | hk
  · refine wpAny_storeName_local hk hn (fun h' hn' hs => ?_) hcls
    obtain ⟨oL, _, _, hoL, _⟩ := id hn
    refine h _ ⟨I.ok, I.os, I.bare, ⟨fun b o e n hb hx => ?_, fun b o e n hb hx => ?_, I.base.free, fun b o e hx => ?_, I.base.tups, I.base.frzs, I.base.tbls⟩, ⟨_, hn', fun j y v' e1 e2 e3 => ?_⟩, fun y c e => ?_, I.free, I.freeC, fun p hp => ?_, tracked ⟨oL, hoL, I.free⟩ hs, by simpa using I.len⟩ ⟨_, hs, .inl rfl⟩
    · exact (hs.2 b (Nat.ne_of_lt (Nat.lt_of_lt_of_le (Heap.lt_size e) I.ok.above))).trans (I.base.keep b o e n hb hx)
    · obtain ⟨sl, e1⟩ := I.base.slot b o e n hb hx
      exact ⟨sl, (hs.2 b (Nat.ne_of_lt (Nat.lt_of_lt_of_le (Heap.lt_size e) I.ok.above))).trans e1⟩
    · obtain ⟨o', e1⟩ := I.base.there b o e hx
      exact ⟨o', (hs.2 b (Nat.ne_of_lt (Nat.lt_of_lt_of_le (Heap.lt_size e) I.ok.above))).trans e1⟩
    · by_cases hj : j = i
      · subst hj
        rw [hi] at e1; cases e1
        rw [List.getElem?_set_self hiσ] at e2
        cases e2
        exact ⟨u, ⟨r, hz⟩, .inl ⟨hk, by simp⟩⟩
      · rw [List.getElem?_set_ne (Ne.symm hj)] at e2
        obtain ⟨u', r', q⟩ := hl j y v' e1 e2 e3
        refine ⟨u', r', ?_⟩
        rcases q with ⟨k, e⟩ | ⟨k, c, e, z⟩
        · refine .inl ⟨k, ?_⟩
          have : y ≠ x := fun e => hj (nodup_ix hN e1 (e ▸ hi))
          simp [this, e]
        · exact .inr ⟨k, c, e, z.sameBut hs (cne y c e)⟩
    · obtain ⟨w', z⟩ := I.cell y c e
      exact ⟨w', z.sameBut hs (cne y c e)⟩
    · obtain ⟨e, n, ne, nf, d⟩ := I.pin p hp
      exact ⟨(hs.2 p.1 ne).trans e, n, ne, nf, d⟩
  · have hfn : X.fn x = true := by
      rcases hf with z | z
      · exact z
      · rw [z] at hk; cases hk
    obtain ⟨c, hc⟩ := I.ok.has x (.inl hk)
    obtain ⟨w', z⟩ := I.cell x c hc
    refine wpAny_storeName_cell I.ok.kind hk hc z (fun h' hc' hs => ?_)
    obtain ⟨oc, hoc, hocd⟩ := id z
    refine h { s with heap := h' } ⟨I.ok, I.os, I.bare, ⟨fun b o e n hb hx => ?_, fun b o e n hb hx => ?_, I.base.free, fun b o e hx => ?_, I.base.tups, I.base.frzs, I.base.tbls⟩, ⟨m, hn.sameBut hs (Ne.symm (cne x c hc)), fun j y v' e1 e2 e3 => ?_⟩, fun y c' e => ?_, I.free, I.freeC, fun p hp => ?_, tracked ⟨oc, hoc, I.freeC x c hc⟩ hs, by simpa using I.len⟩ ⟨c, hs, .inr hc⟩
    · exact (hs.2 b (Nat.ne_of_lt (Nat.lt_of_lt_of_le (Heap.lt_size e) (I.ok.cab x c hfn hc)))).trans (I.base.keep b o e n hb hx)
    · obtain ⟨sl, e1⟩ := I.base.slot b o e n hb hx
      exact ⟨sl, (hs.2 b (Nat.ne_of_lt (Nat.lt_of_lt_of_le (Heap.lt_size e) (I.ok.cab x c hfn hc)))).trans e1⟩
    · obtain ⟨o', e1⟩ := I.base.there b o e hx
      exact ⟨o', (hs.2 b (Nat.ne_of_lt (Nat.lt_of_lt_of_le (Heap.lt_size e) (I.ok.cab x c hfn hc)))).trans e1⟩
    · by_cases hj : j = i
      · subst hj
        rw [hi] at e1; cases e1
        rw [List.getElem?_set_self hiσ] at e2
        cases e2
        exact ⟨u, ⟨r, hz⟩, .inr ⟨.inl hk, c, hc, hc'⟩⟩
      · rw [List.getElem?_set_ne (Ne.symm hj)] at e2
        obtain ⟨u', r', q⟩ := hl j y v' e1 e2 e3
        refine ⟨u', r', ?_⟩
        rcases q with q | ⟨k, c', e, z'⟩
        · exact .inl q
        · refine .inr ⟨k, c', e, z'.sameBut hs ?_⟩
          rintro rfl
          exact hj (nodup_ix hN e1 (I.ok.inj _ _ _ e hc ▸ hi))
    · by_cases hcc : c' = c
      · subst hcc; exact ⟨_, hc'⟩
      · obtain ⟨w2, z2⟩ := I.cell y c' e
        exact ⟨w2, z2.sameBut hs hcc⟩
    · obtain ⟨e, n, ne, nf, d⟩ := I.pin p hp
      refine ⟨(hs.2 p.1 ?_).trans e, n, ne, nf, d⟩
      intro q
      rw [q, hoc] at e
      have q' : oc = p.2 := Option.some.inj e
      exact d w' (by rw [<- q']; exact hocd)
theorem store_ok {M : Model} {A : Around} {E : Value -> Shared -> Prop} {i : Nat} {x : Str} {v : V} {u : Value} {Q : Unit -> Shared -> Prop} (I : Inv X pins σ H s) (hN : X.N.Nodup) (hi : X.N[i]? = some x) (hx : Loc X.env.scope x) (r : RelV v u)
    (h : ∀ s', Inv X pins (σ.set i (some v)) H s' -> Q () s') (hf : X.fn x = true \/ X.env.scope.names.lookup x = some .local := by first | exact .inl rfl | exact .inr rfl | assumption) (hz : X.nz x = false := by first | rfl | assumption | decide +kernel) : wpAny M A (storeName X.env x u) Q E s :=
  store_ok2 I hN hi hx r (fun s' I' _ => h s' I') hf (fun h => by rw [hz] at h; cases h)
theorem Inv.call' {s' : Shared} {ch : List Addr} (I : Inv X pins σ H s) (ho : s'.os = s.os) (u : Un (frs X.stack) ch H H' s.heap s'.heap) (hok : HOk X.prog X.w H' s'.heap) (hg : AllBare s'.gens)
    (hch : ∀ b ∈ ch, (b ∈ X.ex \/ X.s₀.heap.objs.size <= b) /\ b ≠ X.env.locals /\ (∀ x c, X.env.cells.lookup x = some c -> c ≠ b) /\ ∀ p ∈ X.pn ++ pins, p.1 ≠ b) : Inv X pins σ H' s' := by
  obtain ⟨h', g', d', t', o'⟩ := s'
  have e : o' = s.os := ho
  subst e
  exact I.call (g' := g') (t' := t') (d' := d') u hok hg hch
end
noncomputable abbrev XK := Value -> Option Addr -> Hp -> Prop
noncomputable abbrev St := List (Option V)
noncomputable abbrev VK := V -> Hp -> Prop
noncomputable abbrev TE := St -> Hp -> VK -> Prop
noncomputable abbrev TT := St -> Hp -> (Bool -> Hp -> Prop) -> Prop
noncomputable abbrev TA := St -> Hp -> (List V -> Hp -> Prop) -> Prop
structure Ends where
  nx : St -> Hp -> Prop
  rt : VK
  bk : St -> Hp -> Prop := fun _ _ => False
  ct : St -> Hp -> Prop := fun _ _ => False
noncomputable abbrev TS := Ends -> St -> Hp -> Prop
noncomputable def EP (X : Cx) (pins : List (Addr × Obj)) (σ : St) (Q : VK) (u : Value) (s' : Shared) : Prop := ∃ v H', Inv X pins σ H' s' /\ RelV v u /\ Q v H'
noncomputable def TP (X : Cx) (pins : List (Addr × Obj)) (σ : St) (Q : Bool -> Hp -> Prop) (b : Bool) (s' : Shared) : Prop := ∃ H', Inv X pins σ H' s' /\ Q b H'
noncomputable def AP (X : Cx) (pins : List (Addr × Obj)) (σ : St) (Q : List V -> Hp -> Prop) (us : List Value) (s' : Shared) : Prop := ∃ vs H', Inv X pins σ H' s' /\ Vals vs us /\ Q vs H'
noncomputable def SP (X : Cx) (pins : List (Addr × Obj)) (D : Ends) (f : Flow) (s' : Shared) : Prop :=
  match f with
  | .next => ∃ σ' H', Inv X pins σ' H' s' /\ D.nx σ' H'
  | .brk => ∃ σ' H', Inv X pins σ' H' s' /\ D.bk σ' H'
  | .cont => ∃ σ' H', Inv X pins σ' H' s' /\ D.ct σ' H'
  | .ret u => ∃ v σ' H', Inv X pins σ' H' s' /\ RelV v u /\ D.rt v H'
noncomputable def PE (X : Cx) (e : Expr) (t : TE) : Prop :=
  ∀ (pins : List (Addr × Obj)) (s : Shared) (σ : St) (H : Hp) (Q : VK), Inv X pins σ H s -> t σ H Q -> wpAny (model X.prog X.w) X.A (eval e X.env) (EP X pins σ Q) X.xe s
noncomputable def PT (X : Cx) (e : Expr) (t : TT) : Prop :=
  ∀ (pins : List (Addr × Obj)) (s : Shared) (σ : St) (H : Hp) (Q : Bool -> Hp -> Prop), Inv X pins σ H s -> t σ H Q -> wpAny (model X.prog X.w) X.A (isTrue e X.env (eval e X.env)) (TP X pins σ Q) X.xe s
noncomputable def PW (X : Cx) (e : Expr) (t : TT) : Prop :=
  ∀ (whole : Sem Value) (pins : List (Addr × Obj)) (s : Shared) (σ : St) (H : Hp) (Q : Bool -> Hp -> Prop), Inv X pins σ H s -> t σ H Q -> wpAny (model X.prog X.w) X.A (isTrue e X.env whole) (TP X pins σ Q) X.xe s
theorem PW.pt {X : Cx} {e : Expr} {t : TT} (h : PW X e t) : PT X e t := h _
noncomputable def PA (X : Cx) (es : List Expr) (t : TA) : Prop :=
  ∀ (pos : Pos) (pins : List (Addr × Obj)) (s : Shared) (σ : St) (H : Hp) (Q : List V -> Hp -> Prop), Inv X pins σ H s -> t σ H Q -> wpAny (model X.prog X.w) X.A (spliced (backTo pos (starEach es X.env))) (AP X pins σ Q) X.xe s
noncomputable def PS (X : Cx) (st : Stmt) (t : TS) : Prop :=
  ∀ (pins : List (Addr × Obj)) (s : Shared) (σ : St) (H : Hp) (D : Ends), Inv X pins σ H s -> t D σ H -> wpAny (model X.prog X.w) X.A (exec st X.env) (SP X pins D) X.xe s
noncomputable def PSs (X : Cx) (st : List Stmt) (t : TS) : Prop :=
  ∀ (pins : List (Addr × Obj)) (s : Shared) (σ : St) (H : Hp) (D : Ends), Inv X pins σ H s -> t D σ H -> wpAny (model X.prog X.w) X.A (execs st X.env) (SP X pins D) X.xe s
theorem thn {α : Type} {t : Sem α} {Q Q' : α -> Shared -> Prop} {M : Model} {A : Around} {E : Value -> Shared -> Prop} {s : Shared} (h : wpAny M A t Q E s) (hQ : ∀ a s, Q a s -> Q' a s) : wpAny M A t Q' E s := wpAny_mono h hQ fun _ _ x => x
end L2
namespace L2
open PySem PySem.Spec PyProof.Rows
section
variable {X : Cx}
inductive TVar (i : Nat) (σ : St) (H : Hp) (Q : VK) : Prop
  | mk (v : V) (e : σ[i]? = some (some v)) (q : Q v H) : TVar i σ H Q
noncomputable def tVar (i : Nat) : TE := fun σ H Q => TVar i σ H Q
noncomputable def tC (v : V) : TE := fun _ H Q => Q v H
theorem pe_var {i : Nat} {x : Str} {pos : Pos} (hN : X.N[i]? = some x) (hv : Vis X.env.scope x) (hd : (x == ("__debug__" : Str)) = false := by decide) (hcd : (x == ("__classdict__" : Str)) = false := by decide) : PE X (.Name x pos) (tVar i) := by
  intro pins s σ H Q I h
  obtain ⟨v, e, h⟩ := h
  obtain ⟨m, hn, hl⟩ := I.loc
  obtain ⟨u, r, l⟩ := hl i x v hN e hv
  have fin : EP X pins σ Q u s := ⟨v, H, I, r.1, h⟩
  rcases l with ⟨hk, hm⟩ | ⟨hk, c, hc, hcell⟩
  · exact wpAny_Name (wpAny_loadName_local I.ok.kind hk hn hm fin) hd
  · rcases hk with hk | hk
    · exact wpAny_Name (wpAny_loadName_cell I.ok.kind hk hc hcell fin) hd
    · exact wpAny_Name (wpAny_loadName_free I.ok.kind hk hc hcell fin hcd) hd
theorem pe_int {i j pos} : PE X (.Constant (.int i) j pos) (tC (.int i)) := fun _ _ _ H _ I h => wpAny_Constant_int ⟨.int i, H, I.tok _, ⟨_, rfl⟩, h⟩
theorem pe_bl {b j pos} : PE X (.Constant (.bool b) j pos) (tC (.bl b)) := fun _ _ _ H _ I h => Constant_bool ⟨.bl b, H, I, rfl, h⟩
theorem pe_non {j pos} : PE X (.Constant .none j pos) (tC .non) := fun _ _ _ H _ I h => Constant_none ⟨.non, H, I, rfl, h⟩
theorem pe_str {x j pos} : PE X (.Constant (.str x) j pos) (tC (.str x)) := fun _ _ _ H _ I h => Calls.Constant_str ⟨.str x, H, I.tok _, ⟨_, rfl⟩, h⟩
noncomputable def Gl (X : Cx) (x : Str) : Prop := X.env.kindOf x = some .globalImplicit
theorem ld_glob {E : Value -> Shared -> Prop} {pins : List (Addr × Obj)} {s : Shared} {σ : St} {H : Hp} {x : Str} {u : Value} {pos : Pos} {Q : Value -> Shared -> Prop} (I : Inv X pins σ H s) (hg : Gl X x) (hm : X.mg x = some u) (h : Q u s)
    (hd : (x == ("__debug__" : Str)) = false := by decide) : wpAny (model X.prog X.w) X.A (eval (.Name x pos) X.env) Q E s :=
  Calls.Name_function_global I.ok.kind hg (Calls.loadGlobal_global (by rw [I.ok.glob]; exact I.mod.glob.keeps I.bk) hm h) hd
theorem ld_blt {E : Value -> Shared -> Prop} {pins : List (Addr × Obj)} {s : Shared} {σ : St} {H : Hp} {x : Str} {u : Value} {pos : Pos} {Q : Value -> Shared -> Prop} (I : Inv X pins σ H s) (hg : Gl X x) (hm : X.mg x = none) (hv : bootBuiltins x = some u) (h : Q u s)
    (hn : x ≠ "__name__" := by decide) (hd : (x == ("__debug__" : Str)) = false := by decide) : wpAny (model X.prog X.w) X.A (eval (.Name x pos) X.env) Q E s := by
  obtain ⟨mb, h1, h2⟩ := I.mod.blt
  exact Calls.Name_function_global I.ok.kind hg (Calls.loadGlobal_builtin (by rw [I.ok.glob]; exact I.mod.glob.keeps I.bk) hm (by rw [I.ok.blt]; exact h1.keeps I.bk) ((h2 x hn).trans hv) h) hd
theorem pe_glob {x : Str} {v : V} {u : Value} {pos : Pos} (hg : Gl X x) (hm : X.mg x = some u) (r : RelV v u) (hd : (x == ("__debug__" : Str)) = false := by decide) : PE X (.Name x pos) (tC v) :=
  fun _ _ _ H _ I h => ld_glob I hg hm ⟨v, H, I, r, h⟩ hd
theorem pe_bltn {x : Str} {v : V} {u : Value} {pos : Pos} (hg : Gl X x) (hm : X.mg x = none) (hv : bootBuiltins x = some u) (r : RelV v u) (hn : x ≠ "__name__" := by decide) (hd : (x == ("__debug__" : Str)) = false := by decide) : PE X (.Name x pos) (tC v) :=
  fun _ _ _ H _ I h => ld_blt I hg hm hv ⟨v, H, I, r, h⟩ hn hd
variable {a b : Expr} {ta tb : TE} {pos : Pos}
noncomputable def PC (X : Cx) (op : CmpOp) (a b : Expr) (t : TE) : Prop :=
  ∀ (pins : List (Addr × Obj)) (s : Shared) (σ : St) (H : Hp) (Q : VK), Inv X pins σ H s -> t σ H Q ->
    wpAny (model X.prog X.w) X.A (eval a X.env) (fun v s₁ => wpAny (model X.prog X.w) X.A (eval b X.env) (fun u s₂ => wpAny (model X.prog X.w) X.A (compareOp op v u) (EP X pins σ Q) X.xe s₂) X.xe s₁) X.xe s
theorem nobehind (b : Expr) {op : CmpOp} (h : op ≠ .In) (h2 : op ≠ .NotIn) : behindInMarks op b = false := by
  have e1 : (op == CmpOp.In) = false := by cases op <;> first | rfl | exact absurd rfl h
  have e2 : (op == CmpOp.NotIn) = false := by cases op <;> first | rfl | exact absurd rfl h2
  cases b <;> simp [behindInMarks, e1, e2]
noncomputable def tB (t : TE) : TT := fun σ H Q => t σ H fun x H1 => IsBl x fun c => Q c H1
theorem pt_cmp {op : CmpOp} {t : TE} (h : PC X op a b t) (h1 : behindInMarks op b = false := by first | exact nobehind _ (by decide) (by decide) | rfl) : PT X (.Compare a [op] [b] pos) (tB t) := by
  intro pins s σ H Q I hw
  refine wpAny_isTrue_Compare1 (thn (h pins s σ H _ I hw) fun v s1 h1 => thn h1 fun u s2 h2 => thn h2 fun c s3 ⟨x, H1, I1, r1, q1⟩ => ?_) h1
  obtain ⟨d, rfl, q⟩ := q1
  cases r1
  exact wpAny_truthy_bool ⟨H1, I1, q⟩
theorem pt_val {e : Expr} {t : TE} (h : PE X e t) (he : ∀ whole, isTrue e X.env whole = (do let v <- whole; standAt e.pos; holding [v] (truthy v)) := by intro _; rfl) : PT X e (tB t) := by
  intro pins s σ H Q I hw
  refine isTrue_plain (thn (h pins s σ H _ I hw) fun v s1 ⟨x, H1, I1, r1, q1⟩ => ?_) (he _)
  obtain ⟨d, rfl, q⟩ := q1
  cases r1
  exact wpAny_truthy_bool ⟨H1, I1, q⟩
variable {tA tB' : TT} {rest : List Expr}
noncomputable def tAnd (t u : TT) : TT := fun σ H Q => t σ H fun c H1 => if c = true then u σ H1 Q else Q false H1
noncomputable def tOr (t u : TT) : TT := fun σ H Q => t σ H fun c H1 => if c = true then Q true H1 else u σ H1 Q
noncomputable def tNot (t : TT) : TT := fun σ H Q => t σ H fun c H1 => Q (!c) H1
theorem pw_and1 (ha : PT X a tA) : PW X (.BoolOp .And [a] pos) tA := by
  intro wh pins s σ H Q I h
  refine isTrue_and (thn (ha pins s σ H Q I h) fun c s1 e => ?_)
  cases c with
  | true => exact isTrue_and_nil e
  | false => exact e
theorem pw_or1 (ha : PT X a tA) : PW X (.BoolOp .Or [a] pos) tA := by
  intro wh pins s σ H Q I h
  refine isTrue_or (thn (ha pins s σ H Q I h) fun c s1 e => ?_)
  cases c with
  | false => exact isTrue_or_nil e
  | true => exact e
theorem pw_and (ha : PT X a tA) (hb : PW X (.BoolOp .And (b :: rest) pos) tB') : PW X (.BoolOp .And (a :: b :: rest) pos) (tAnd tA tB') := by
  intro wh pins s σ H Q I h
  refine isTrue_and (thn (ha pins s σ H _ I h) fun c s1 ⟨H1, I1, q1⟩ => ?_)
  cases c with
  | true => exact hb wh pins s1 σ H1 Q I1 q1
  | false => exact ⟨H1, I1, q1⟩
theorem pw_or (ha : PT X a tA) (hb : PW X (.BoolOp .Or (b :: rest) pos) tB') : PW X (.BoolOp .Or (a :: b :: rest) pos) (tOr tA tB') := by
  intro wh pins s σ H Q I h
  refine isTrue_or (thn (ha pins s σ H _ I h) fun c s1 ⟨H1, I1, q1⟩ => ?_)
  cases c with
  | true => exact ⟨H1, I1, q1⟩
  | false => exact hb wh pins s1 σ H1 Q I1 q1
theorem pt_not (ha : PT X a tA) : PT X (.UnaryOp .Not a pos) (tNot tA) := by
  intro pins s σ H Q I h
  exact isTrue_not (ha pins s σ H (fun c H1 => Q (!c) H1) I h)
noncomputable def tAndV (ta tb : TE) : TE := fun σ H Q => ta σ H fun x H1 => IsBl x fun c => if c = true then tb σ H1 Q else Q (.bl false) H1
noncomputable def tNotV (ta : TE) : TE := fun σ H Q => ta σ H fun x H1 => IsBl x fun c => Q (.bl (!c)) H1
theorem pe_one {op} {t : TE} (h : PE X a t) : PE X (.BoolOp op [a] pos) t := fun pins s σ H Q I hw => BoolOp_one (h pins s σ H Q I hw)
theorem pe_and (ha : PE X a ta) (hb : PE X (.BoolOp .And (b :: rest) pos) tb) : PE X (.BoolOp .And (a :: b :: rest) pos) (tAndV ta tb) := by
  intro pins s σ H Q I h
  refine BoolOp_and (thn (ha pins s σ H _ I h) fun v s1 ⟨x, H1, I1, r1, q1⟩ => ?_)
  obtain ⟨c, rfl, q1⟩ := q1
  cases r1
  refine wpAny_truthy_bool ?_
  cases c with
  | true => exact hb pins s1 σ H1 Q I1 q1
  | false => exact ⟨.bl false, H1, I1, rfl, q1⟩
theorem pe_not (ha : PE X a ta) : PE X (.UnaryOp .Not a pos) (tNotV ta) := by
  intro pins s σ H Q I h
  refine UnaryOp_ (thn (ha pins s σ H _ I h) fun v s1 ⟨x, H1, I1, r1, q1⟩ => ?_)
  obtain ⟨c, rfl, q1⟩ := q1
  cases r1
  exact not_of (wpAny_truthy_bool ⟨.bl (!c), H1, I1, rfl, q1⟩)
noncomputable def tIf (t : TT) (ta tb : TE) : TE := fun σ H Q => t σ H fun c H1 => if c = true then ta σ H1 Q else tb σ H1 Q
theorem pe_ifExp {c : Expr} (hc : PT X c tA) (ha : PE X a ta) (hb : PE X b tb) : PE X (.IfExp c a b pos) (tIf tA ta tb) := by
  intro pins s σ H Q I h
  refine wpAny_IfExp (thn (hc pins s σ H _ I h) fun d s1 ⟨H1, I1, q1⟩ => ?_)
  cases d with
  | true => exact ha pins s1 σ H1 Q I1 q1
  | false => exact hb pins s1 σ H1 Q I1 q1
end
end L2
namespace L2
open PySem PySem.Spec PyProof.Rows
noncomputable def SqL (K : PySem.W.Frag) (H : Hp) (a : Addr) (xs : List V) : Prop :=
  Rd H a (.lst xs) \/
    ∃ (o : Obj) (its : Array Value) (n : Nat), K.lookup a = some o /\ o.cls = .type "list" /\ o.dict = none /\ o.data = .seq its n /\ its.size <= sizeLine /\ Vals xs its.toList
noncomputable def SqT (K : PySem.W.Frag) (H : Hp) (a : Addr) (xs : List V) : Prop :=
  Rd H a (.tup xs) \/
    ∃ (o : Obj) (its : Array Value) (n : Nat), K.lookup a = some o /\ o.cls = .type "tuple" /\ o.data = .seq its n /\ its.size <= sizeLine /\ Vals xs its.toList
noncomputable def absV : Value -> Option V
  | .none => some .non
  | .bool b => some (.bl b)
  | .int i _ => some (.int i)
  | .str x _ => some (.str x)
  | .bytes b _ => some (.byt b)
  | .float b _ => some (.flt b)
  | .ref a => some (.ref a)
  | .type n => some (.ty n)
  | _ => none
theorem RelV.abs {x : V} {u : Value} (r : RelV x u) : absV u = some x := by
  cases x with
  | non => cases r; rfl
  | bl _ => cases r; rfl
  | int _ => obtain ⟨t, rfl⟩ := r; rfl
  | str _ => obtain ⟨t, rfl⟩ := r; rfl
  | byt _ => obtain ⟨t, rfl⟩ := r; rfl
  | flt _ => obtain ⟨t, rfl⟩ := r; rfl
  | ref _ => cases r; rfl
  | ty _ => cases r; rfl
theorem RelV.inj {x y : V} {u : Value} (r : RelV x u) (q : RelV y u) : x = y := Option.some.inj (r.abs.symm.trans q.abs)
theorem Vals.inj : ∀ {xs ys : List V} {us : List Value}, Vals xs us -> Vals ys us -> xs = ys
  | _, _, _, .nil, .nil => rfl
  | _, _, _, .cons r t, .cons r' t' => by rw [r.inj r', Vals.inj t t']
section
variable {X : Cx} {pins : List (Addr × Obj)} {σ : St} {H : Hp} {s : Shared} {a : Addr} {xs ys : List V}
theorem SqL.of {K : PySem.W.Frag} (h : H a = some (.lst xs)) : SqL K H a xs := .inl (.inl h)
theorem SqT.of {K : PySem.W.Frag} (h : H a = some (.tup xs)) : SqT K H a xs := .inl (.inl h)
theorem Inv.list (I : Inv X pins σ H s) (h : SqL X.K H a xs) : ∃ its : List Value, Vals xs its /\ PlainL s.heap a its.toArray /\ xs.length <= sizeLine := by
  rcases h with h | ⟨o, its, n, hk, hc, hd, hs, hz, r⟩
  · obtain ⟨z, its, n, r, e⟩ := h.ok I.hok
    exact ⟨its, r, ⟨_, n, e, rfl, rfl, rfl⟩, z⟩
  · refine ⟨its.toList, r, ⟨o, n, I.kIn a o hk, hc, hd, by simpa using hs⟩, ?_⟩
    have e := r.length
    simp only [Array.length_toList] at e
    omega
theorem Inv.tuple (I : Inv X pins σ H s) (h : SqT X.K H a xs) : ∃ its : List Value, Vals xs its /\ IsTup s.heap a its.toArray /\ xs.length <= sizeLine := by
  rcases h with h | ⟨o, its, n, hk, hc, hs, hz, r⟩
  · obtain ⟨z, its, r, p⟩ := h.ok I.hok
    exact ⟨its, r, p, z⟩
  · refine ⟨its.toList, r, ⟨o, I.kIn a o hk, hc, n, by simpa using hs⟩, ?_⟩
    have e := r.length
    simp only [Array.length_toList] at e
    omega
theorem Inv.list_inj (I : Inv X pins σ H s) (h : SqL X.K H a xs) (h' : SqL X.K H a ys) : xs = ys := by
  obtain ⟨its, r, ⟨o, n, e, _, _, d⟩, _⟩ := I.list h
  obtain ⟨its', r', ⟨o', n', e', _, _, d'⟩, _⟩ := I.list h'
  rw [e] at e'; cases e'
  rw [d] at d'
  injection d' with d1 _
  have : its = its' := by simpa using congrArg Array.toList d1
  subst this
  exact r.inj r'
end
noncomputable abbrev Cx.wish (X : Cx) (E : Value -> Shared -> Prop) : Cx := { X with xe := E }
noncomputable abbrev Cx.nox (X : Cx) : Cx := X.wish fun _ _ => False
theorem Cx.Ok.wish {X : Cx} (ok : X.Ok) (E : Value -> Shared -> Prop) : (X.wish E).Ok :=
  ⟨ok.mod, ok.kind, ok.glob, ok.blt, ok.above, ok.inj, ok.has, ok.cab, ok.hd, ok.frames, ok.stk, ok.exf, ok.bs, ok.bsz, ok.noex, ok.exfs, ok.funs, ok.frf⟩
theorem Cx.Ok.unwish {X : Cx} {E : Value -> Shared -> Prop} (ok : (X.wish E).Ok) : X.Ok :=
  ⟨ok.mod, ok.kind, ok.glob, ok.blt, ok.above, ok.inj, ok.has, ok.cab, ok.hd, ok.frames, ok.stk, ok.exf, ok.bs, ok.bsz, ok.noex, ok.exfs, ok.funs, ok.frf⟩
section
variable {X : Cx} {pins : List (Addr × Obj)} {σ : St} {H : Hp} {s : Shared} {E : Value -> Shared -> Prop}
theorem Inv.wish (I : Inv X pins σ H s) (E : Value -> Shared -> Prop) : Inv (X.wish E) pins σ H s := ⟨I.ok.wish E, I.os, I.bare, I.base, I.loc, I.cell, I.free, I.freeC, I.pin, I.hok, I.len⟩
theorem Inv.unwish (I : Inv (X.wish E) pins σ H s) : Inv X pins σ H s := ⟨I.ok.unwish, I.os, I.bare, I.base, I.loc, I.cell, I.free, I.freeC, I.pin, I.hok, I.len⟩
theorem SP.unwish {D : Ends} {f : Flow} {s' : Shared} (h : SP (X.wish E) pins D f s') : SP X pins D f s' := by
  cases f with
  | next => obtain ⟨σ', H', I, q⟩ := h; exact ⟨σ', H', I.unwish, q⟩
  | brk => obtain ⟨σ', H', I, q⟩ := h; exact ⟨σ', H', I.unwish, q⟩
  | cont => obtain ⟨σ', H', I, q⟩ := h; exact ⟨σ', H', I.unwish, q⟩
  | ret u => obtain ⟨v, σ', H', I, r, q⟩ := h; exact ⟨v, σ', H', I.unwish, r, q⟩
theorem PE.nox {e : Expr} {t : TE} (h : PE X.nox e t) : PE X e t := fun pins s σ H Q I hw =>
  wpAny_mono (h pins s σ H Q (I.wish _) hw) (fun _ _ ⟨v, H', I', r, q⟩ => ⟨v, H', I'.unwish, r, q⟩) fun _ _ z => False.elim z
theorem PT.nox {e : Expr} {t : TT} (h : PT X.nox e t) : PT X e t := fun pins s σ H Q I hw =>
  wpAny_mono (h pins s σ H Q (I.wish _) hw) (fun _ _ ⟨H', I', q⟩ => ⟨H', I'.unwish, q⟩) fun _ _ z => False.elim z
theorem PSs.nox {st : List Stmt} {t : TS} (h : PSs X.nox st t) : PSs X st t := fun pins s σ H D I hw =>
  wpAny_mono (h pins s σ H D (I.wish _) hw) (fun _ _ q => q.unwish) fun _ _ z => False.elim z
end
section
variable {X : Cx} {st : Stmt} {rest : List Stmt} {t u : TS} {e : Expr} {te : TE} {pos : Pos}
noncomputable def tNext : TS := fun D σ H => D.nx σ H
noncomputable def tSeq (t u : TS) : TS := fun D σ H => t { D with nx := u D } σ H
theorem pss_nil : PSs X [] tNext := fun _ _ σ H _ I h => wpAny_execs_nil ⟨σ, H, I, h⟩
theorem pss_cons (h1 : PS X st t) (h2 : PSs X rest u) : PSs X (st :: rest) (tSeq t u) := by
  intro pins s σ H D I h
  refine wpAny_execs_cons (thn (h1 pins s σ H { D with nx := u D } I h) fun f s1 q => ?_)
  cases f with
  | next =>
    obtain ⟨σ', H', I', q⟩ := q
    exact h2 pins s1 σ' H' D I' q
  | ret v => exact q
  | brk => exact q
  | cont => exact q
theorem pss_one (h1 : PS X st t) : PSs X [st] t := by
  intro pins s σ H D I h
  refine wpAny_execs_cons (thn (h1 pins s σ H D I h) fun f s1 q => ?_)
  cases f with
  | next => exact wpAny_execs_nil q
  | ret v => exact q
  | brk => exact q
  | cont => exact q
theorem Inv.quiet {pins : List (Addr × Obj)} {σ : St} {H : Hp} {s : Shared} (I : Inv X pins σ H s) : interactive X.env = false := by simp [interactive, I.ok.kind]
noncomputable def tDrop (te : TE) : TS := fun D σ H => te σ H fun _ H1 => D.nx σ H1
theorem ps_expr (he : PE X e te) (hs : swapsWith e none pos.line X.env = pure false := by rfl) : PS X (.Expr e pos) (tDrop te) := by
  intro pins s σ H D I h
  exact wpAny_Expr_any (thn (he pins s σ H _ I h) fun v s1 ⟨x, H1, I1, r1, q1⟩ => ⟨σ, H1, I1, q1⟩) I.quiet hs
noncomputable def tRet (te : TE) : TS := fun D σ H => te σ H D.rt
theorem ps_ret (he : PE X e te) : PS X (.Return (some e) pos) (tRet te) := by
  intro pins s σ H D I h
  exact wpAny_Return_some (thn (he pins s σ H _ I h) fun v s1 ⟨x, H1, I1, r1, q1⟩ => ⟨x, σ, H1, I1, r1, q1⟩)
noncomputable def tIfS (c : TT) (t u : TS) : TS := fun D σ H => c σ H fun b H1 => if b = true then t D σ H1 else u D σ H1
theorem ps_if {c : Expr} {a b : List Stmt} {tc : TT} (hc : PT X c tc) (ha : PSs X a t) (hb : PSs X b u) : PS X (.If c a b pos) (tIfS tc t u) := by
  intro pins s σ H D I h
  refine wpAny_If (thn (hc pins s σ H _ I h) fun d s1 ⟨H1, I1, q1⟩ => ?_)
  cases d with
  | true => exact ha pins s1 σ H1 D I1 q1
  | false => exact hb pins s1 σ H1 D I1 q1
noncomputable def tNever : TS := fun _ _ _ => False
theorem pss_never {sts : List Stmt} : PSs X sts tNever := fun _ _ _ _ _ _ h => h.elim
end
noncomputable abbrev TG := V -> St -> Hp -> (St -> Hp -> Prop) -> Prop
noncomputable abbrev TGs := List V -> St -> Hp -> (St -> Hp -> Prop) -> Prop
noncomputable def PG (X : Cx) (target : Expr) (t : TG) : Prop :=
  ∀ (pins : List (Addr × Obj)) (s : Shared) (σ : St) (H : Hp) (v : V) (u : Value) (Q : St -> Hp -> Prop), Inv X pins σ H s -> RelV v u -> t v σ H Q ->
    wpAny (model X.prog X.w) X.A (assign target X.env u) (fun _ s' => ∃ σ' H', Inv X pins σ' H' s' /\ Q σ' H') X.xe s
noncomputable def PGs (X : Cx) (ts : List Expr) (t : TGs) : Prop :=
  ∀ (pins : List (Addr × Obj)) (s : Shared) (σ : St) (H : Hp) (vs : List V) (us : List Value) (Q : St -> Hp -> Prop), Inv X pins σ H s -> Vals vs us -> t vs σ H Q ->
    wpAny (model X.prog X.w) X.A (assignInOrder ((assignEach ts X.env).map (·.2)) us) (fun _ s' => ∃ σ' H', Inv X pins σ' H' s' /\ Q σ' H') X.xe s
noncomputable abbrev TIp := V -> V -> Hp -> VK -> Prop
noncomputable def PIp (X : Cx) (op : Operator) (t : TIp) : Prop :=
  ∀ (pins : List (Addr × Obj)) (s : Shared) (σ : St) (H : Hp) (x y : V) (v u : Value) (Q : VK), Inv X pins σ H s -> RelV x v -> RelV y u -> t x y H Q ->
    wpAny (model X.prog X.w) X.A (inplaceOp op v u) (EP X pins σ Q) X.xe s
section
variable {X : Cx} {pos : Pos}
noncomputable def gName (i : Nat) : TG := fun v σ H Q => Q (σ.set i (some v)) H
theorem pg_name {i : Nat} {x : Str} (hN : X.N.Nodup) (hi : X.N[i]? = some x) (hx : Loc X.env.scope x) (hf : X.fn x = true \/ X.env.scope.names.lookup x = some .local := by first | exact .inl rfl | exact .inr rfl | assumption) (hz : X.nz x = false := by first | rfl | assumption | decide +kernel) : PG X (.Name x pos) (gName i) := by
  intro pins s σ H v u Q I r h
  exact wpAny_assign_Name (store_ok I hN hi hx r (fun s' I' => ⟨_, H, I', h⟩) hf)
noncomputable def gNil : TGs := fun vs σ H Q => vs = [] /\ Q σ H
noncomputable def gCons (t : TG) (u : TGs) : TGs := fun vs σ H Q => Ex2 fun v r => vs = v :: r /\ t v σ H fun σ' H' => u r σ' H' Q
theorem pgs_nil : PGs X [] gNil := by
  intro pins s σ H vs us Q I r h
  obtain ⟨e, h⟩ := h
  subst e
  cases r
  exact assignInOrder_nil ⟨σ, H, I, h⟩
theorem pgs_cons {e : Expr} {es : List Expr} {t : TG} {u : TGs} (h1 : PG X e t) (h2 : PGs X es u)
    (hs : (assignEach (e :: es) X.env).map (·.2) = assign e X.env :: (assignEach es X.env).map (·.2) := by rfl) : PGs X (e :: es) (gCons t u) := by
  intro pins s σ H vs us Q I r h
  obtain ⟨v, vr, e1, h⟩ := h
  subst e1
  cases r with
  | cons r rr =>
    rw [hs]
    refine assignInOrder_cons (thn (h1 pins s σ H _ _ _ I r h) fun _ s1 ⟨σ1, H1, I1, q1⟩ => ?_)
    exact h2 pins s1 σ1 H1 _ _ Q I1 rr q1
noncomputable def gTup (K : PySem.W.Frag) (n : Nat) (t : TGs) : TG := fun v σ H Q => Ex2 fun a xs => v = .ref a /\ SqT K H a xs /\ xs.length = n /\ t xs σ H Q
theorem pg_tup {es : List Expr} {k : Nat} {t : TGs} {n : Nat} (hc : X.calm = true) (h : PGs X es t)
    (hn : (assignEach es X.env).length = n := by rfl) (hst : (assignEach es X.env).findIdx? (·.1) = none := by rfl) : PG X (.Tuple es k pos) (gTup X.K n t) := by
  intro pins s σ H v u Q I r hw
  obtain ⟨a, xs, e1, hq, hl, hw⟩ := hw
  subst e1
  cases r
  obtain ⟨its, rv, ht, hz⟩ := I.tuple hq
  refine assign_Tuple_tuple (I.ok.hd hc) ht (by simp [hn, <- hl, rv.length]) hst fun h' hx => ?_
  have I1 : Inv X pins σ H { s with heap := h' } := I.kept (t' := s.toks) fun b o e => hx b o (Nat.ne_of_lt (Heap.lt_size e)) e
  exact h pins _ σ H xs _ Q I1 (by simpa using rv) hw
noncomputable def tAsg (te : TE) (g : TG) : TS := fun D σ H => te σ H fun x H1 => g x σ H1 D.nx
theorem ps_set {i : Nat} {x : Str} {e : Expr} {te : TE} {pos' : Pos} (hN : X.N.Nodup) (hi : X.N[i]? = some x) (hx : Loc X.env.scope x) (he : PE X e te) (hs : swapsWith e (some (.Name x pos')) pos.line X.env = pure false := by rfl) (hf : X.fn x = true \/ X.env.scope.names.lookup x = some .local := by first | exact .inl rfl | exact .inr rfl | assumption) (hz : X.nz x = false := by first | rfl | assumption | decide +kernel) :
    PS X (.Assign [.Name x pos'] e pos) (tAsg te (gName i)) := by
  intro pins s σ H D I h
  refine wpAny_Assign_Name (thn (he pins s σ H _ I h) fun v s1 ⟨y, H1, I1, r1, q1⟩ => ?_) hs
  exact store_ok I1 hN hi hx r1 (fun s2 I2 => ⟨_, H1, I2, q1⟩) hf
noncomputable def tAug (i : Nat) (te : TE) (ti : TIp) : TS := fun D σ H => ∃ x, σ[i]? = some (some x) /\ te σ H fun y H1 => ti x y H1 fun z H2 => D.nx (σ.set i (some z)) H2
theorem ps_aug {i : Nat} {x : Str} {e : Expr} {te : TE} {op : Operator} {ti : TIp} {pos' : Pos} (hN : X.N.Nodup) (hi : X.N[i]? = some x) (hx : Loc X.env.scope x) (he : PE X e te) (ho : PIp X op ti) (hf : X.fn x = true \/ X.env.scope.names.lookup x = some .local := by first | exact .inl rfl | exact .inr rfl | assumption) (hz : X.nz x = false := by first | rfl | assumption | decide +kernel) :
    PS X (.AugAssign (.Name x pos') op e pos) (tAug i te ti) := by
  intro pins s σ H D I h
  obtain ⟨v, e1, h⟩ := h
  obtain ⟨m, hn, hl⟩ := I.loc
  have vis : Vis X.env.scope x := by rcases hx with k | k; exact .inl k; exact .inr (.inl k)
  obtain ⟨u, r, l⟩ := hl i x v hi e1 vis
  refine wpAny_AugAssign_Name ?_
  have go : wpAny (model X.prog X.w) X.A (eval e X.env) (fun w s₂ => wpAny (model X.prog X.w) X.A (inplaceOp op u w) (fun r s₃ => wpAny (model X.prog X.w) X.A (storeName X.env x r) (fun _ => SP X pins D .next) X.xe s₃) X.xe s₂) X.xe s := by
    refine thn (he pins s σ H _ I h) fun w s1 ⟨y, H1, I1, r1, q1⟩ => ?_
    refine thn (ho pins s1 σ H1 v y u w _ I1 r.1 r1 q1) fun z s2 ⟨zv, H2, I2, r2, q2⟩ => ?_
    exact store_ok I2 hN hi hx r2 (fun s3 I3 => ⟨_, H2, I3, q2⟩) hf
  rcases l with ⟨hk, hm⟩ | ⟨hk, c, hc, hcell⟩
  · exact wpAny_loadName_local I.ok.kind hk hn hm go
  · rcases hk with hk | hk
    · exact wpAny_loadName_cell I.ok.kind hk hc hcell go
    · rcases hx with k | k
      · have : X.env.scope.names.lookup x = some .free := hk
        rw [k] at this; cases this
      · have : X.env.scope.names.lookup x = some .free := hk
        rw [k] at this; cases this
noncomputable def ipI (f : Int -> Int -> Int) : TIp := fun x y H Q => In2 x y fun i j => Q (.int (f i j)) H
theorem ip_add : PIp X .Add (ipI fun i j => i + j) := by
  intro pins s σ H x y v u Q I r1 r2 h
  obtain ⟨i, j, e1, e2, q⟩ := h
  subst e1; subst e2
  obtain ⟨t, rfl⟩ := r1
  obtain ⟨t', rfl⟩ := r2
  exact iadd_int ⟨.int _, H, I.tok _, ⟨_, rfl⟩, q⟩
theorem ip_sub : PIp X .Sub (ipI fun i j => i - j) := by
  intro pins s σ H x y v u Q I r1 r2 h
  obtain ⟨i, j, e1, e2, q⟩ := h
  subst e1; subst e2
  obtain ⟨t, rfl⟩ := r1
  obtain ⟨t', rfl⟩ := r2
  exact isub_int ⟨.int _, H, I.tok _, ⟨_, rfl⟩, q⟩
end
section
variable {X : Cx} {pos : Pos}
noncomputable def tWhile (c : TT) (tb : TS) : TS := fun D σ H => ∃ W : Nat -> St -> Hp -> Prop, (∃ m, W m σ H) /\ ∀ m σ H, W m σ H ->
  c σ H fun b H1 => if b = true then ∃ N : St -> Hp -> Prop, (∀ σ' H', N σ' H' -> ∃ m', m' < m /\ W m' σ' H') /\ tb { D with nx := N, ct := N, bk := D.nx } σ H1 else D.nx σ H1
theorem ps_while {c : Expr} {body : List Stmt} {tc : TT} {tb : TS} (hp : PassesOwn (model X.prog X.w) X.A X.env X.xe) (hc : PT X c tc) (hb : PSs X body tb) : PS X (.While c body [] pos) (tWhile tc tb) := by
  intro pins s σ H D I h
  obtain ⟨W, ⟨m0, w0⟩, turn⟩ := h
  refine wpAny_While (codeAny_whileLoop (fun n s' => ∃ σ' H', Inv X pins σ' H' s' /\ W n σ' H') ?_ m0 ⟨σ, H, I, w0⟩)
  rintro n s1 ⟨σ1, H1, I1, w1⟩
  refine wpAny_passesOwn hp (thn (hc pins s1 σ1 H1 _ I1 (turn n σ1 H1 w1)) fun b s2 ⟨H2, I2, q2⟩ => ?_)
  cases b with
  | true =>
    obtain ⟨N, hN, q2⟩ := q2
    rw [if_pos rfl]
    refine wpAny_passesOwn hp (thn (hb pins s2 σ1 H2 _ I2 q2) fun f s3 q3 => ?_)
    cases f with
    | next =>
      obtain ⟨σ3, H3, I3, n3⟩ := q3
      obtain ⟨m', hm, w3⟩ := hN σ3 H3 n3
      exact ⟨m', hm, σ3, H3, I3, w3⟩
    | cont =>
      obtain ⟨σ3, H3, I3, n3⟩ := q3
      obtain ⟨m', hm, w3⟩ := hN σ3 H3 n3
      exact ⟨m', hm, σ3, H3, I3, w3⟩
    | brk => exact q3
    | ret v => exact q3
  | false =>
    rw [if_neg Bool.false_ne_true]
    exact wpAny_execs_nil ⟨σ1, H2, I2, q2⟩
end
structure It where
  go : Nat -> Hp -> Prop
  yld : Nat -> Hp -> V -> Hp -> Prop
  stop : Nat -> Hp -> Prop
noncomputable def FpOk (X : Cx) (pins : List (Addr × Obj)) (H : Hp) (b : Addr) : Prop :=
  H b = none /\ b ≠ X.env.locals /\ b ∉ X.fs /\ (b ∈ X.ex \/ X.s₀.heap.objs.size <= b) /\ (∀ x c, X.env.cells.lookup x = some c -> c ≠ b) /\ ∀ p ∈ X.pn ++ pins, p.1 ≠ b
theorem Inv.fpOk {X : Cx} {pins : List (Addr × Obj)} {σ : St} {H H' : Hp} {s : Shared} {b : Addr} (I : Inv X pins σ H s) (hb : s.heap.objs.size <= b) (hn : H' b = none) : FpOk X pins H' b := by
  refine ⟨hn, Nat.ne_of_gt (Nat.lt_of_lt_of_le I.lt hb), I.nofs hb, .inr (Nat.le_trans I.sz hb), fun x c e z => ?_, fun p hp z => ?_⟩
  · obtain ⟨v, q⟩ := I.cell x c e
    exact absurd (Nat.lt_of_lt_of_le q.lt (by rw [z]; exact hb)) (Nat.lt_irrefl _)
  · exact absurd (Nat.lt_of_lt_of_le (Heap.lt_size (I.pin p hp).1) (by rw [z]; exact hb)) (Nat.lt_irrefl _)
structure Turn (P : Program) (w : World) (K : PySem.W.Frag) (tg : Expr) (J : It) (fp : List Addr) (it : Addr) (tn : Nat -> Heap -> Prop) : Prop where
  mem : it ∈ fp
  obj : ∀ i h, tn i h -> ∀ b ∈ fp, ∃ o, h.get? b = some o /\ ∀ v, o.data ≠ .cell v
  keep : ∀ i h h', tn i h -> (∀ b ∈ fp, ∀ o, h.get? b = some o -> h'.get? b = some o) -> tn i h'
  item : ∀ (X : Cx), X.prog = P -> X.w = w -> X.K = K -> X.calm = true -> ∀ (i : Nat) (pins : List (Addr × Obj)) (s : Shared) (σ : St) (H : Hp) (E : Value -> Shared -> Prop), Inv X pins σ H s -> (∀ b ∈ fp, FpOk X pins H b) -> tn i s.heap -> J.go i H ->
    wpAny (model P w) X.A (pyNext (.ref it)) (fun r s1 => ∃ u, r = some u /\
      wpAny (model P w) X.A (letOwnedTupleGo tg (.ref it) u) (fun _ s2 => ∃ x H', Inv X pins σ H' s2 /\ RelV x u /\ J.yld i H x H' /\ tn (i + 1) s2.heap /\ ∀ b ∈ fp, H' b = none) E s1) E s
  done : ∀ (X : Cx), X.prog = P -> X.w = w -> X.K = K -> X.calm = true -> ∀ (i : Nat) (pins : List (Addr × Obj)) (s : Shared) (σ : St) (H : Hp) (E : Value -> Shared -> Prop), Inv X pins σ H s -> (∀ b ∈ fp, FpOk X pins H b) -> tn i s.heap -> J.stop i H ->
    wpAny (model P w) X.A (pyNext (.ref it)) (fun r s1 => r = none /\ Inv X pins σ H s1) E s
  self : ∀ (A : Around) (i : Nat) (s : Shared) (Q : Value -> Shared -> Prop) (E : Value -> Shared -> Prop), tn i s.heap -> Q (.ref it) s -> wpAny (model P w) A (pyIter (.ref it)) Q E s
noncomputable abbrev TI := St -> Hp -> (It -> Hp -> Prop) -> Prop
noncomputable def PIE (X : Cx) (pins : List (Addr × Obj)) (σ : St) (tg : Expr) (R : It -> Hp -> Prop) (itv : Value) (s2 : Shared) : Prop :=
  ∃ (it : Addr) (fp : List Addr) (tn : Nat -> Heap -> Prop) (J : It) (H' : Hp), itv = .ref it /\ Inv X pins σ H' s2 /\ Turn X.prog X.w X.K tg J fp it tn /\ tn 0 s2.heap /\ (∀ b ∈ fp, FpOk X pins H' b) /\ R J H'
noncomputable def PI (X : Cx) (tg iter : Expr) (wi : TI) : Prop :=
  ∀ (pins : List (Addr × Obj)) (s : Shared) (σ : St) (H : Hp) (R : It -> Hp -> Prop), Inv X pins σ H s -> wi σ H R ->
    wpAny (model X.prog X.w) X.A (eval iter X.env) (fun v s1 => wpAny (model X.prog X.w) X.A (pyIter v) (PIE X pins σ tg R) X.xe s1) X.xe s
theorem go_of {M : Model} {A : Around} {E : Value -> Shared -> Prop} {s : Shared} {tg : Expr} {it : Addr} {u : Value} {o : Obj} {n : String} {vs : Array Value} {Q : Unit -> Shared -> Prop} (ho : s.heap.get? it = some o) (hc : o.cls = .type n) (hd : o.data = .fields vs)
    (hn : ["enumerate", "zip", "dict_itemiterator", "dict_reverseitemiterator", "odict_iterator", "itertools.zip_longest", "itertools.pairwise"].contains n = false) (hQ : Q () s) : wpAny M A (letOwnedTupleGo tg (.ref it) u) Q E s := by
  unfold letOwnedTupleGo
  cases tg <;> first
    | exact wpAny_pure hQ
    | (cases u <;> first
        | exact wpAny_pure hQ
        | (refine wpAny_bind (wpAny_load ho ?_)
           rw [hc, hd]
           show wpAny M A (if (["enumerate", "zip", "dict_itemiterator", "dict_reverseitemiterator", "odict_iterator", "itertools.zip_longest", "itertools.pairwise"].contains n && vs[0]? == some (rawInt _)) = true then _ else _) Q E s
           rw [if_neg (by intro h; rw [hn, Bool.false_and] at h; cases h)]
           exact wpAny_pure hQ))
noncomputable def Itl (K : PySem.W.Frag) (a : Addr) : It :=
  ⟨fun i H => ∃ xs x, SqL K H a xs /\ xs[i]? = some x, fun i H x H' => H' = H /\ ∀ xs, SqL K H a xs -> xs[i]? = some x, fun i H => ∃ xs, SqL K H a xs /\ xs.length <= i⟩
noncomputable def Itr (lo : Int) (n : Nat) : It := ⟨fun i _ => i < n, fun i H x H' => H' = H /\ x = .int (lo + i), fun i _ => n <= i⟩
theorem turn_list {P : Program} {w : World} {K : PySem.W.Frag} {tg : Expr} (a it : Addr) : Turn P w K tg (Itl K a) [it] it (fun i h => h.IsListIter it a i) where
  mem := by simp
  obj := fun i h st b hb => by
    have e : b = it := by simpa using hb
    subst e
    obtain ⟨o, e, c, d⟩ := st
    exact ⟨o, e, fun v z => by rw [d] at z; cases z⟩
  keep := fun i h h' st k => st.at fun o e => k it (by simp) o e
  item := by
    intro X hP hw hK hc i pins s σ H E I hf st hg
    subst hP hw hK
    obtain ⟨xs, x, hq, hx⟩ := hg
    obtain ⟨its, rv, p, hz⟩ := I.list hq
    obtain ⟨u, hu, ru⟩ := rv.get hx
    obtain ⟨f0, f1, f2, f3, f4, f5⟩ := hf it (by simp)
    refine wpAny_pyNext_list_item st p.isList (x := u) (by simpa using hu) fun h' st' sb => ?_
    have I1 : Inv X pins σ H { s with heap := h' } := I.turned (t' := s.toks) (fun b o hb e => (sb.2 b hb).trans e) f0 f1 f3 f4 f5
    obtain ⟨o, e, c, d⟩ := id st'
    exact ⟨u, rfl, go_of (s := { s with heap := h' }) e c d (by decide) ⟨x, H, I1, ru, ⟨rfl, fun ys hy => by rw [I.list_inj hy hq]; exact hx⟩, st', fun b hb => (hf b hb).1⟩⟩
  done := by
    intro X hP hw hK hc i pins s σ H E I hf st hg
    subst hP hw hK
    obtain ⟨xs, hq, hx⟩ := hg
    obtain ⟨its, rv, p, hz⟩ := I.list hq
    obtain ⟨f0, f1, f2, f3, f4, f5⟩ := hf it (by simp)
    have hl := rv.length
    exact wpAny_pyNext_list_end (I.ok.hd hc) st p.isList (by simp; omega) fun h' eb => ⟨rfl, I.turned (t' := s.toks) (fun b o hb e => eb b o hb e) f0 f1 f3 f4 f5⟩
  self := fun _ _ _ _ _ st h => wpAny_pyIter_listiter st h
theorem turn_range {P : Program} {w : World} {K : PySem.W.Frag} {tg : Expr} (it : Addr) (lo : Int) (n : Nat) : Turn P w K tg (Itr lo n) [it] it (fun i h => IsRangeIter h it (lo + (i : Nat) * 1) ((n : Int) - (i : Nat)) 1) where
  mem := by simp
  obj := fun i h st b hb => by
    have e : b = it := by simpa using hb
    subst e
    exact ⟨_, st, fun v z => by
      have z' : Data.fields _ = Data.cell v := z
      cases z'⟩
  keep := fun i h h' st k => k it (by simp) _ st
  item := by
    intro X hP hw hK hc i pins s σ H E I hf st hg
    subst hP hw hK
    obtain ⟨f0, f1, f2, f3, f4, f5⟩ := hf it (by simp)
    have W := Walks.range (prog := X.prog) (w := X.w) (I.ok.hd hc) it lo 1 n
    refine W.item i s _ _ hg st fun v h' tk hv st' kk => ?_
    obtain ⟨t, rfl⟩ := hv
    have I1 : Inv X pins σ H { s with heap := h', toks := tk } := I.turned (fun b o hb e => kk b o (by simpa using hb) e) f0 f1 f3 f4 f5
    refine ⟨_, rfl, go_of (s := { s with heap := h', toks := tk }) (n := "range_iterator") st' rfl rfl (by decide) ⟨.int (lo + i), H, I1, ⟨t, ?_⟩, ⟨rfl, rfl⟩, st', fun b hb => (hf b hb).1⟩⟩
    rw [Int.mul_one]
  done := by
    intro X hP hw hK hc i pins s σ H E I hf st hg
    subst hP hw hK
    obtain ⟨f0, f1, f2, f3, f4, f5⟩ := hf it (by simp)
    exact wpAny_pyNext_range_end (I.ok.hd hc) st (by have : n <= i := hg; omega) fun h' eb => ⟨rfl, I.turned (t' := s.toks) (fun b o hb e => eb b o hb e) f0 f1 f3 f4 f5⟩
  self := fun _ _ _ _ _ st h => wpAny_pyIter_rangeiter st h
end L2
namespace L2
open PySem PySem.Spec PyProof.Rows
section
variable {X : Cx} {tg : Expr}
noncomputable def iList (K : PySem.W.Frag) (tl : TE) : TI := fun σ H R => tl σ H fun x H1 => ∃ a, x = .ref a /\ (∃ xs, SqL K H1 a xs) /\ R (Itl K a) H1
theorem pi_list {l : Expr} {tl : TE} (hl : PE X l tl) : PI X tg l (iList X.K tl) := by
  intro pins s σ H R I h
  refine thn (hl pins s σ H _ I h) fun v s1 ⟨x, H1, I1, r1, q1⟩ => ?_
  obtain ⟨a, e, ⟨xs, hq⟩, q⟩ := q1
  subst e
  cases r1
  obtain ⟨its, rv, p, hz⟩ := I1.list hq
  refine wpAny_pyIter_list p.isList ?_
  refine ⟨s1.heap.objs.size, [s1.heap.objs.size], _, _, H1, rfl, I1.kept (t' := s1.toks) fun b o e => Heap.get?_push_of_some _ e, turn_list a _, ⟨_, Heap.get?_push_size _ rfl, rfl, rfl⟩, fun b hb => ?_, q⟩
  have e : b = s1.heap.objs.size := by simpa using hb
  subst e
  exact I1.fpOk (Nat.le_refl _) (I1.hok.fresh (Nat.le_refl _))
theorem range_it {pins : List (Addr × Obj)} {σ : St} {H : Hp} {s : Shared} {R : It -> Hp -> Prop} {E : Value -> Shared -> Prop} {lo hi : Int} {t u v : Tok} {tk : Nat} (I : Inv X pins σ H s) (h1 : -(2 ^ 62) <= lo) (h2 : lo < 2 ^ 62) (h3 : -(2 ^ 62) <= hi) (h4 : hi < 2 ^ 62)
    (q : R (Itr lo (hi - lo).toNat) H) : wpAny (model X.prog X.w) X.A (pyIter (.ref s.heap.objs.size)) (PIE X pins σ tg R) E { s with heap := s.heap.push { cls := .type "range", data := .fields #[.int lo t, .int hi u, .int 1 v] }, toks := tk } := by
  refine wpAny_pyIter_range (IsRange.new ..) (small_one h1 h2 h3 h4) ?_
  have I1 : Inv X pins σ H { s with heap := s.heap.push { cls := .type "range", data := .fields #[.int lo t, .int hi u, .int 1 v] }, toks := tk } := I.kept fun b o e => Heap.get?_push_of_some _ e
  refine ⟨(s.heap.push { cls := .type "range", data := .fields #[.int lo t, .int hi u, .int 1 v] }).objs.size, [(s.heap.push { cls := .type "range", data := .fields #[.int lo t, .int hi u, .int 1 v] }).objs.size], _, _, H, rfl,
    I1.kept (t' := tk) fun b o e => Heap.get?_push_of_some _ e, turn_range _ lo (hi - lo).toNat, ?_, fun b hb => ?_, q⟩
  · have e1 : lo + ((0 : Nat) : Int) * 1 = lo := by simp
    have e2 : (((hi - lo).toNat : Nat) : Int) - ((0 : Nat) : Int) = Builtin.Range.rangeSize lo hi 1 := by rw [rangeSize_one]; split <;> omega
    show IsRangeIter _ _ (lo + ((0 : Nat) : Int) * 1) ((((hi - lo).toNat : Nat) : Int) - ((0 : Nat) : Int)) 1
    rw [e1, e2]
    exact Heap.get?_push_size _ rfl
  · have e : b = (s.heap.push { cls := .type "range", data := .fields #[.int lo t, .int hi u, .int 1 v] }).objs.size := by simpa using hb
    subst e
    exact I1.fpOk (Nat.le_refl _) (I1.hok.fresh (Nat.le_refl _))
noncomputable def iRng1 (ta : TA) : TI := fun σ H R => ta σ H fun vs H1 => ∃ j : Int, vs = [.int j] /\ -(2 ^ 62) <= j /\ j < 2 ^ 62 /\ R (Itr 0 j.toNat) H1
theorem pi_range1 {a : Expr} {ta : TA} {p pos : Pos} (hg : Gl X "range") (hm : X.mg "range" = none) (ha : PA X [a] ta) (hs : starEach [a] X.env = [(false, eval a X.env)] := by rfl) : PI X tg (.Call (.Name "range" p) [a] [] pos) (iRng1 ta) := by
  intro pins s σ H R I h
  refine Call_ (ld_blt I hg hm boot_range (PyProof.Rows.callWith_type1 (thn (ha pos pins s σ H _ I h) fun us s1 ⟨vs, H1, I1, r1, q1⟩ => ?_) hs rfl))
  obtain ⟨j, e, q1, q2, q⟩ := q1
  subst e
  cases r1 with
  | cons r rr =>
    cases rr
    obtain ⟨t, rfl⟩ := r
    exact call_range_1 (range_it I1 (by omega) (by omega) q1 q2 (by simpa using q))
noncomputable def tFor (wi : TI) (g : TG) (tb : TS) : TS := fun D σ H => wi σ H fun J H1 => ∃ W : Nat -> Nat -> St -> Hp -> Prop, (∃ m, W 0 m σ H1) /\ ∀ i m σ H, W i m σ H ->
  (J.stop i H /\ D.nx σ H) \/ (J.go i H /\ ∃ N : St -> Hp -> Prop, (∀ σ' H', N σ' H' -> ∃ m', m' < m /\ W (i + 1) m' σ' H') /\ ∀ x H', J.yld i H x H' -> g x σ H' fun σ2 H2 => tb { D with nx := N, ct := N, bk := D.nx } σ2 H2)
noncomputable def pinsAt (fp : List Addr) (h : Heap) : List (Addr × Obj) := fp.filterMap fun b => (h.get? b).map fun o => (b, o)
theorem mem_pinsAt {fp : List Addr} {h : Heap} {b : Addr} {o : Obj} (hb : b ∈ fp) (e : h.get? b = some o) : (b, o) ∈ pinsAt fp h := List.mem_filterMap.mpr ⟨b, hb, by rw [e]; rfl⟩
theorem of_pinsAt {fp : List Addr} {h : Heap} {p : Addr × Obj} (hp : p ∈ pinsAt fp h) : p.1 ∈ fp /\ h.get? p.1 = some p.2 := by
  obtain ⟨b, hb, e⟩ := List.mem_filterMap.mp hp
  cases q : h.get? b with
  | none => rw [q] at e; cases e
  | some o =>
    rw [q] at e
    have e' : (b, o) = p := Option.some.inj e
    subst e'
    exact ⟨hb, q⟩
theorem Inv.pinned {pins : List (Addr × Obj)} {σ : St} {H : Hp} {s : Shared} {fp : List Addr} (I : Inv X pins σ H s) (hf : ∀ b ∈ fp, FpOk X pins H b) (ho : ∀ b ∈ fp, ∃ o, s.heap.get? b = some o /\ ∀ v, o.data ≠ .cell v) : Inv X (pins ++ pinsAt fp s.heap) σ H s :=
  I.pins_of fun p hp => (List.mem_append.mp hp).elim (fun z => I.pin p (List.mem_append_right _ z)) fun z => by
    obtain ⟨hb, e⟩ := of_pinsAt z
    obtain ⟨f0, f1, f2, _⟩ := hf p.1 hb
    obtain ⟨o, e', d⟩ := ho p.1 hb
    rw [e] at e'; cases e'
    exact ⟨e, f0, f1, f2, d⟩
theorem Inv.unpinned {pins pl : List (Addr × Obj)} {σ : St} {H : Hp} {s : Shared} (I : Inv X (pins ++ pl) σ H s) : Inv X pins σ H s := I.pins_of fun p hp => I.pin p (List.mem_append_right _ (List.mem_append_left _ hp))
theorem ps_for {iter : Expr} {body : List Stmt} {wi : TI} {g : TG} {tb : TS} {pos : Pos} (hp : PassesOwn (model X.prog X.w) X.A X.env X.xe) (hc : X.calm = true) (hi : PI X tg iter wi) (hg : PG X tg g) (hb : PSs X body tb)
    (hs : ∀ x, foldedSetIterable iter X.env x = pure x := by intro _; rfl) : PS X (.For tg iter body [] pos) (tFor wi g tb) := by
  intro pins s σ H D I h
  refine wpAny_For (thn (hi pins s σ H _ I h) fun v s1 h1 => thn h1 fun itv s2 h2 => ?_) hs
  obtain ⟨it, fp, tn, J, H2, e, I2, T, st2, f2, W, ⟨m0, w0⟩, turn⟩ := h2
  subst e
  have stat : ∀ {H' : Hp}, (∀ b ∈ fp, H' b = none) -> ∀ b ∈ fp, FpOk X pins H' b := fun hn b hb => ⟨hn b hb, (f2 b hb).2⟩
  refine codeAny_forLoop_any (fun n s' => ∃ i σ' H', Inv X pins σ' H' s' /\ tn i s'.heap /\ (∀ b ∈ fp, H' b = none) /\ W i n σ' H') ?_ m0 ⟨0, σ, H2, I2, st2, fun b hb => (f2 b hb).1, w0⟩
  rintro n s3 ⟨i, σ3, H3, I3, st3, fr3, w3⟩
  rcases turn i n σ3 H3 w3 with ⟨stop, qn⟩ | ⟨go, N, hN, step⟩
  · refine wpAny_passesOwn hp (thn (T.done X rfl rfl rfl hc i pins s3 σ3 H3 X.xe I3 (stat fr3) st3 stop) fun r s4 ⟨hr, I4⟩ => ?_)
    subst hr
    exact wpAny_execs_nil ⟨σ3, H3, I4, qn⟩
  · refine wpAny_passesOwn hp (thn (T.item X rfl rfl rfl hc i pins s3 σ3 H3 X.xe I3 (stat fr3) st3 go) fun r s4 ⟨u, hr, h4⟩ => ?_)
    subst hr
    refine wpAny_passesOwn hp (thn h4 fun _ s5 ⟨x, H5, I5, r5, y5, st5, fr5⟩ => ?_)
    have I5' := I5.pinned (stat fr5) (T.obj _ _ st5)
    refine wpAny_passesOwn hp (thn (hg _ s5 σ3 H5 x u _ I5' r5 (step x H5 y5)) fun _ s6 ⟨σ6, H6, I6, q6⟩ => ?_)
    refine wpAny_passesOwn hp (thn (hb _ s6 σ6 H6 _ I6 q6) fun f s7 q7 => ?_)
    have again : ∀ {σ7 : St} {H7 : Hp}, Inv X (pins ++ pinsAt fp s5.heap) σ7 H7 s7 -> N σ7 H7 -> ∃ m, m < n /\ ∃ i σ' H', Inv X pins σ' H' s7 /\ tn i s7.heap /\ (∀ b ∈ fp, H' b = none) /\ W i m σ' H' := fun {σ7 H7} I7 n7 => by
      obtain ⟨m', hm, w7⟩ := hN σ7 H7 n7
      refine ⟨m', hm, i + 1, σ7, H7, I7.unpinned, T.keep _ _ _ st5 fun b hb o e => (I7.pin (b, o) (List.mem_append_right _ (List.mem_append_right _ (mem_pinsAt hb e)))).1, fun b hb => ?_, w7⟩
      obtain ⟨o, e, d⟩ := T.obj _ _ st5 b hb
      exact (I7.pin (b, o) (List.mem_append_right _ (List.mem_append_right _ (mem_pinsAt hb e)))).2.1
    cases f with
    | next => obtain ⟨σ7, H7, I7, n7⟩ := q7; exact again I7 n7
    | cont => obtain ⟨σ7, H7, I7, n7⟩ := q7; exact again I7 n7
    | brk => obtain ⟨σ7, H7, I7, q7⟩ := q7; exact ⟨σ7, H7, I7.unpinned, q7⟩
    | ret v => obtain ⟨x7, σ7, H7, I7, r7, q7⟩ := q7; exact ⟨x7, σ7, H7, I7.unpinned, r7, q7⟩
end
theorem for_list {K : PySem.W.Frag} {a : Addr} {xs : List V} {g : TG} {tb : TS} {D : Ends} {σ : St} {H : Hp} (Pv : Nat -> St -> Hp -> Prop) (h0 : Pv 0 σ H) (hl : ∀ i σ H, i <= xs.length -> Pv i σ H -> SqL K H a xs)
    (hs : ∀ i x σ H, xs[i]? = some x -> Pv i σ H -> g x σ H fun σ2 H2 => tb { D with nx := Pv (i + 1), ct := Pv (i + 1), bk := D.nx } σ2 H2) (hd : ∀ σ H, Pv xs.length σ H -> D.nx σ H) :
    ∃ W : Nat -> Nat -> St -> Hp -> Prop, (∃ m, W 0 m σ H) /\ ∀ i m σ H, W i m σ H ->
      ((Itl K a).stop i H /\ D.nx σ H) \/ ((Itl K a).go i H /\ ∃ N : St -> Hp -> Prop, (∀ σ' H', N σ' H' -> ∃ m', m' < m /\ W (i + 1) m' σ' H') /\ ∀ x H', (Itl K a).yld i H x H' -> g x σ H' fun σ2 H2 => tb { D with nx := N, ct := N, bk := D.nx } σ2 H2) := by
  refine ⟨fun i m σ H => m = xs.length - i /\ i <= xs.length /\ Pv i σ H, ⟨xs.length, by simp, Nat.zero_le _, h0⟩, ?_⟩
  rintro i m σ H ⟨rfl, hi, p⟩
  have q := hl i σ H hi p
  by_cases hlt : i < xs.length
  · refine .inr ⟨⟨xs, xs[i], q, by simp [hlt]⟩, Pv (i + 1), fun σ' H' p' => ⟨xs.length - (i + 1), by omega, rfl, hlt, p'⟩, fun x H' y => ?_⟩
    obtain ⟨e, y⟩ := y
    subst e
    exact hs i x σ _ (y xs q) p
  · have e : i = xs.length := by omega
    subst e
    exact .inl ⟨⟨xs, q, Nat.le_refl _⟩, hd σ H p⟩
theorem for_range {lo : Int} {n : Nat} {g : TG} {tb : TS} {D : Ends} {σ : St} {H : Hp} (Pv : Nat -> St -> Hp -> Prop) (h0 : Pv 0 σ H)
    (hs : ∀ i σ H, i < n -> Pv i σ H -> g (.int (lo + i)) σ H fun σ2 H2 => tb { D with nx := Pv (i + 1), ct := Pv (i + 1), bk := D.nx } σ2 H2) (hd : ∀ σ H, Pv n σ H -> D.nx σ H) :
    ∃ W : Nat -> Nat -> St -> Hp -> Prop, (∃ m, W 0 m σ H) /\ ∀ i m σ H, W i m σ H ->
      ((Itr lo n).stop i H /\ D.nx σ H) \/ ((Itr lo n).go i H /\ ∃ N : St -> Hp -> Prop, (∀ σ' H', N σ' H' -> ∃ m', m' < m /\ W (i + 1) m' σ' H') /\ ∀ x H', (Itr lo n).yld i H x H' -> g x σ H' fun σ2 H2 => tb { D with nx := N, ct := N, bk := D.nx } σ2 H2) := by
  refine ⟨fun i m σ H => m = n - i /\ i <= n /\ Pv i σ H, ⟨n, by simp, Nat.zero_le _, h0⟩, ?_⟩
  rintro i m σ H ⟨rfl, hi, p⟩
  by_cases hlt : i < n
  · refine .inr ⟨hlt, Pv (i + 1), fun σ' H' p' => ⟨n - (i + 1), by omega, rfl, hlt, p'⟩, fun x H' y => ?_⟩
    obtain ⟨e, y⟩ := y
    subst e y
    exact hs i σ _ hlt p
  · have e : i = n := by omega
    subst e
    exact .inl ⟨Nat.le_refl _, hd σ H p⟩
end L2
namespace L2
open PySem PySem.Spec PyProof.Rows
noncomputable abbrev R2 := V -> V -> Hp -> VK -> Prop
noncomputable def OpR (X : Cx) (f : Value -> Value -> Sem Value) (r : R2) : Prop :=
  ∀ (pins : List (Addr × Obj)) (s : Shared) (σ : St) (H : Hp) (x y : V) (v u : Value) (Q : VK), Inv X pins σ H s -> RelV x v -> RelV y u -> r x y H Q ->
    wpAny (model X.prog X.w) X.A (f v u) (EP X pins σ Q) X.xe s
noncomputable def UnR (X : Cx) (f : Value -> Sem Value) (r : V -> Hp -> VK -> Prop) : Prop :=
  ∀ (pins : List (Addr × Obj)) (s : Shared) (σ : St) (H : Hp) (x : V) (v : Value) (Q : VK), Inv X pins σ H s -> RelV x v -> r x H Q ->
    wpAny (model X.prog X.w) X.A (f v) (EP X pins σ Q) X.xe s
noncomputable def CallR (X : Cx) (f : Value) (r : List V -> Hp -> VK -> Prop) : Prop :=
  ∀ (pins : List (Addr × Obj)) (s : Shared) (σ : St) (H : Hp) (xs : List V) (us : List Value) (Q : VK), Inv X pins σ H s -> Vals xs us -> r xs H Q ->
    wpAny (model X.prog X.w) X.A (call f us) (EP X pins σ Q) X.xe s
noncomputable def tOp (r : R2) (ta tb : TE) : TE := fun σ H Q => ta σ H fun x H1 => tb σ H1 fun y H2 => r x y H2 Q
noncomputable def tUn (r : V -> Hp -> VK -> Prop) (ta : TE) : TE := fun σ H Q => ta σ H fun x H1 => r x H1 Q
noncomputable def rI (C : Int -> Int -> Prop) (g : Int -> Int -> V) : R2 := fun x y H Q => In2 x y fun i j => C i j /\ Q (g i j) H
noncomputable def rI0 (g : Int -> Int -> V) : R2 := fun x y H Q => In2 x y fun i j => Q (g i j) H
noncomputable def rU (g : Int -> V) : V -> Hp -> VK -> Prop := fun x H Q => IsIn x fun i => Q (g i) H
section
variable {X : Cx} {a b c : Expr} {ta tb tc : TE} {pos : Pos}
theorem binT (ha : PE X a ta) (hb : PE X b tb) {pins : List (Addr × Obj)} {s : Shared} {σ : St} {H : Hp} {R : V -> V -> Hp -> Prop} (I : Inv X pins σ H s)
    (h : ta σ H fun x H1 => tb σ H1 fun y H2 => R x y H2) {Q : Value -> Shared -> Prop} {f : Value -> Value -> Sem Value}
    (hf : ∀ v u s2 x y H2, Inv X pins σ H2 s2 -> RelV x v -> RelV y u -> R x y H2 -> wpAny (model X.prog X.w) X.A (f v u) Q X.xe s2) :
    wpAny (model X.prog X.w) X.A (eval a X.env) (fun v s₁ => wpAny (model X.prog X.w) X.A (eval b X.env) (fun u s₂ => wpAny (model X.prog X.w) X.A (f v u) Q X.xe s₂) X.xe s₁) X.xe s := by
  refine thn (ha pins s σ H _ I h) fun v s1 ⟨x, H1, I1, r1, q1⟩ => ?_
  refine thn (hb pins s1 σ H1 _ I1 q1) fun u s2 ⟨y, H2, I2, r2, q2⟩ => ?_
  exact hf v u s2 x y H2 I2 r1 r2 q2
theorem pe_op {op : Operator} {r : R2} (ho : OpR X (binaryOp op) r) (ha : PE X a ta) (hb : PE X b tb) : PE X (.BinOp a op b pos) (tOp r ta tb) := by
  intro pins s σ H Q I h
  exact wpAny_BinOp (binT ha hb I h fun v u s2 x y H2 I2 rx ry q => ho pins s2 σ H2 x y v u Q I2 rx ry q)
theorem pe_un {op : UnaryOp} {r : V -> Hp -> VK -> Prop} (ho : UnR X (unaryOp op) r) (ha : PE X a ta) : PE X (.UnaryOp op a pos) (tUn r ta) := by
  intro pins s σ H Q I h
  exact UnaryOp_ (thn (ha pins s σ H _ I h) fun v s1 ⟨x, H1, I1, r1, q1⟩ => ho pins s1 σ H1 x v Q I1 r1 q1)
theorem opI {f : Value -> Value -> Sem Value} {C : Int -> Int -> Prop} {g : Int -> Int -> Int}
    (rule : ∀ (i j : Int) (t u : Tok) (s : Shared) (Q : Value -> Shared -> Prop) (E : Value -> Shared -> Prop), C i j -> Q (.int (g i j) s.toks) { s with toks := s.toks + 1 } -> wpAny (model X.prog X.w) X.A (f (.int i t) (.int j u)) Q E s) :
    OpR X f (rI C fun i j => .int (g i j)) := by
  intro pins s σ H x y v u Q I rx ry h
  obtain ⟨i, j, rfl, rfl, hc, q⟩ := h
  obtain ⟨t, rfl⟩ := rx
  obtain ⟨t', rfl⟩ := ry
  exact rule i j t t' s _ _ hc ⟨.int (g i j), H, I.tok _, ⟨_, rfl⟩, q⟩
theorem opI0 {f : Value -> Value -> Sem Value} {g : Int -> Int -> Int}
    (rule : ∀ (i j : Int) (t u : Tok) (s : Shared) (Q : Value -> Shared -> Prop) (E : Value -> Shared -> Prop), Q (.int (g i j) s.toks) { s with toks := s.toks + 1 } -> wpAny (model X.prog X.w) X.A (f (.int i t) (.int j u)) Q E s) :
    OpR X f (rI0 fun i j => .int (g i j)) := by
  intro pins s σ H x y v u Q I rx ry h
  obtain ⟨i, j, rfl, rfl, q⟩ := h
  obtain ⟨t, rfl⟩ := rx
  obtain ⟨t', rfl⟩ := ry
  exact rule i j t t' s _ _ ⟨.int (g i j), H, I.tok _, ⟨_, rfl⟩, q⟩
theorem opB0 {f : Value -> Value -> Sem Value} {g : Int -> Int -> Bool}
    (rule : ∀ (i j : Int) (t u : Tok) (s : Shared) (Q : Value -> Shared -> Prop) (E : Value -> Shared -> Prop), Q (.bool (g i j)) s -> wpAny (model X.prog X.w) X.A (f (.int i t) (.int j u)) Q E s) :
    OpR X f (rI0 fun i j => .bl (g i j)) := by
  intro pins s σ H x y v u Q I rx ry h
  obtain ⟨i, j, rfl, rfl, q⟩ := h
  obtain ⟨t, rfl⟩ := rx
  obtain ⟨t', rfl⟩ := ry
  exact rule i j t t' s _ _ ⟨.bl (g i j), H, I, rfl, q⟩
noncomputable def CDiv (i j : Int) : Prop := 0 < j /\ j < 1073741824
noncomputable def CPow (i j : Int) : Prop := 0 <= j /\ j <= 1000000 /\ i.natAbs < 2 ^ 64
noncomputable def CMul (i j : Int) : Prop := (-(2 ^ 64) < i /\ i < 2 ^ 64) \/ (-(2 ^ 64) < j /\ j < 2 ^ 64)
theorem CMul.ok {i j : Int} (h : CMul i j) : IntMulOk i j := by
  rcases h with ⟨h1, h2⟩ | ⟨h1, h2⟩
  · exact .of_left (intBits_le_64 h1 h2)
  · exact .of_right (intBits_le_64 h1 h2)
theorem op_add : OpR X (binaryOp .Add) (rI0 fun i j => .int (i + j)) := opI0 fun _ _ _ _ _ _ _ q => add_int q
theorem op_sub : OpR X (binaryOp .Sub) (rI0 fun i j => .int (i - j)) := opI0 fun _ _ _ _ _ _ _ q => sub_int q
theorem op_mul : OpR X (binaryOp .Mult) (rI CMul fun i j => .int (i * j)) := opI fun _ _ _ _ _ _ _ hc q => mul_int q hc.ok
theorem op_fdiv : OpR X (binaryOp .FloorDiv) (rI CDiv fun i j => .int (i / j)) := opI fun i j _ _ _ _ _ hc q => by
  have h1 : (0 : Int) < j := hc.1
  have h2 : j < 1073741824 := hc.2
  exact floordiv_int (by omega) (by rw [Int.fdiv_eq_ediv_of_nonneg i (by omega)]; exact q) (.inl (PyProof.noPylong_small (by omega)))
theorem op_mod : OpR X (binaryOp .Mod) (rI (fun _ j => 0 < j) fun i j => .int (i % j)) := opI fun i j _ _ _ _ _ hc q => by
  have h1 : (0 : Int) < j := hc
  exact mod_int' (by omega) (by rw [Int.fmod_eq_emod_of_nonneg i (by omega)]; exact q)
theorem op_shl : OpR X (binaryOp .LShift) (rI CPow fun i j => .int (i * 2 ^ j.toNat)) := opI fun _ _ _ _ _ _ _ hc q => lshift_int_small hc.1 hc.2.1 hc.2.2 q
theorem unI {f : Value -> Sem Value} {g : Int -> Int}
    (rule : ∀ (i : Int) (t : Tok) (s : Shared) (Q : Value -> Shared -> Prop) (E : Value -> Shared -> Prop), Q (.int (g i) s.toks) { s with toks := s.toks + 1 } -> wpAny (model X.prog X.w) X.A (f (.int i t)) Q E s) :
    UnR X f (rU fun i => .int (g i)) := by
  intro pins s σ H x v Q I rx h
  obtain ⟨i, rfl, q⟩ := h
  obtain ⟨t, rfl⟩ := rx
  exact rule i t s _ _ ⟨.int (g i), H, I.tok _, ⟨_, rfl⟩, q⟩
theorem un_neg : UnR X (unaryOp .USub) (rU fun i => .int (-i)) := unI fun _ _ _ _ _ q => neg_int q
end
noncomputable def scal : V -> V -> Bool
  | .non, .non => true | .non, .int _ => true | .int _, .non => true | .non, .bl _ => true | .bl _, .non => true | .non, .str _ => true | .str _, .non => true
  | .int _, .int _ => true | .bl _, .bl _ => true | .str _, .str _ => true | .byt _, .byt _ => true
  | .int _, .str _ => true | .str _, .int _ => true | .bl _, .str _ => true | .str _, .bl _ => true
  | _, _ => false
noncomputable def rEq : R2 := fun x y H Q => scal x y = true /\ Q (.bl (decide (x = y))) H
noncomputable def rNe : R2 := fun x y H Q => scal x y = true /\ Q (.bl (!decide (x = y))) H
theorem dec_int {i j : Int} : decide (V.int i = V.int j) = (i == j) := by
  rw [Bool.eq_iff_iff]
  simp
theorem dec_bl {i j : Bool} : decide (V.bl i = V.bl j) = (i == j) := by
  rw [Bool.eq_iff_iff]
  simp
theorem dec_str {i j : Str} : decide (V.str i = V.str j) = (i == j) := by
  rw [Bool.eq_iff_iff]
  simp
theorem dec_byt {i j : Array UInt8} : decide (V.byt i = V.byt j) = (i.toList == j.toList) := by
  rw [Bool.eq_iff_iff]
  cases i
  cases j
  simp
section
variable {X : Cx} {a b c : Expr} {ta tb tc : TE} {pos : Pos}
theorem fin_bl {pins : List (Addr × Obj)} {σ : St} {H : Hp} {s : Shared} {Q : VK} {k k' : Bool} (I : Inv X pins σ H s) (q : Q (.bl k) H) (e : k = k') : EP X pins σ Q (.bool k') s := by
  subst e
  exact ⟨.bl k, H, I, rfl, q⟩
theorem op_eq : OpR X (compareOp .Eq) rEq := by
  intro pins s σ H x y v u Q I rx ry h
  obtain ⟨hs, q⟩ := h
  cases x with
  | non =>
    cases rx
    cases y with
    | non => cases ry; exact PySem.EqNone.eq_none_none (fin_bl I q (by simp))
    | bl j => cases ry; exact PySem.EqNone.eq_none_bool (fin_bl I q (by simp))
    | int j => obtain ⟨t', rfl⟩ := ry; exact PySem.EqNone.eq_none_int (fin_bl I q (by simp))
    | str j => obtain ⟨t', rfl⟩ := ry; exact PySem.EqNone.eq_none_str (fin_bl I q (by simp))
    | _ => exact absurd (show false = true from hs) Bool.false_ne_true
  | bl i =>
    cases rx
    cases y with
    | non => cases ry; exact PySem.EqNone.eq_bool_none (fin_bl I q (by simp))
    | bl j => cases ry; exact eq_bool (fin_bl I q dec_bl)
    | str j => obtain ⟨t', rfl⟩ := ry; exact PySem.EqMixed.eq_bool_str (fin_bl I q (by simp))
    | _ => exact absurd (show false = true from hs) Bool.false_ne_true
  | int i =>
    obtain ⟨t, rfl⟩ := rx
    cases y with
    | non => cases ry; exact PySem.EqNone.eq_int_none (fin_bl I q (by simp))
    | int j => obtain ⟨t', rfl⟩ := ry; exact eq_int (fin_bl I q dec_int)
    | str j => obtain ⟨t', rfl⟩ := ry; exact PySem.EqMixed.eq_int_str (fin_bl I q (by simp))
    | _ => exact absurd (show false = true from hs) Bool.false_ne_true
  | str i =>
    obtain ⟨t, rfl⟩ := rx
    cases y with
    | non => cases ry; exact PySem.EqNone.eq_str_none (fin_bl I q (by simp))
    | bl j => cases ry; exact PySem.EqMixed.eq_str_bool (fin_bl I q (by simp))
    | int j => obtain ⟨t', rfl⟩ := ry; exact PySem.EqMixed.eq_str_int (fin_bl I q (by simp))
    | str j => obtain ⟨t', rfl⟩ := ry; exact eq_str (fin_bl I q dec_str)
    | _ => exact absurd (show false = true from hs) Bool.false_ne_true
  | byt i =>
    obtain ⟨t, rfl⟩ := rx
    cases y with
    | byt j => obtain ⟨t', rfl⟩ := ry; exact PySem.W.eq_bytes (fin_bl I q dec_byt)
    | _ => exact absurd (show false = true from hs) Bool.false_ne_true
  | _ => cases y <;> exact absurd (show false = true from hs) Bool.false_ne_true
theorem op_ne : OpR X (compareOp .NotEq) rNe := by
  intro pins s σ H x y v u Q I rx ry h
  obtain ⟨hs, q⟩ := h
  cases x with
  | non =>
    cases rx
    cases y with
    | non => cases ry; exact PySem.EqNone.ne_none_none (fin_bl I q (by simp))
    | bl j => cases ry; exact PySem.EqNone.ne_none_bool (fin_bl I q (by simp))
    | int j => obtain ⟨t', rfl⟩ := ry; exact PySem.EqNone.ne_none_int (fin_bl I q (by simp))
    | str j => obtain ⟨t', rfl⟩ := ry; exact PySem.EqNone.ne_none_str (fin_bl I q (by simp))
    | _ => exact absurd (show false = true from hs) Bool.false_ne_true
  | bl i =>
    cases rx
    cases y with
    | non => cases ry; exact PySem.EqNone.ne_bool_none (fin_bl I q (by simp))
    | bl j => cases ry; exact ne_bool (fin_bl I q (congrArg not dec_bl))
    | str j => obtain ⟨t', rfl⟩ := ry; exact PySem.EqMixed.ne_bool_str (fin_bl I q (by simp))
    | _ => exact absurd (show false = true from hs) Bool.false_ne_true
  | int i =>
    obtain ⟨t, rfl⟩ := rx
    cases y with
    | non => cases ry; exact PySem.EqNone.ne_int_none (fin_bl I q (by simp))
    | int j => obtain ⟨t', rfl⟩ := ry; exact ne_int (fin_bl I q (congrArg not dec_int))
    | str j => obtain ⟨t', rfl⟩ := ry; exact PySem.EqMixed.ne_int_str (fin_bl I q (by simp))
    | _ => exact absurd (show false = true from hs) Bool.false_ne_true
  | str i =>
    obtain ⟨t, rfl⟩ := rx
    cases y with
    | non => cases ry; exact PySem.EqNone.ne_str_none (fin_bl I q (by simp))
    | bl j => cases ry; exact PySem.EqMixed.ne_str_bool (fin_bl I q (by simp))
    | int j => obtain ⟨t', rfl⟩ := ry; exact PySem.EqMixed.ne_str_int (fin_bl I q (by simp))
    | str j => obtain ⟨t', rfl⟩ := ry; exact ne_str (fin_bl I q (congrArg not dec_str))
    | _ => exact absurd (show false = true from hs) Bool.false_ne_true
  | byt i =>
    obtain ⟨t, rfl⟩ := rx
    cases y with
    | byt j => obtain ⟨t', rfl⟩ := ry; exact PySem.W.ne_bytes (fin_bl I q (congrArg not dec_byt))
    | _ => exact absurd (show false = true from hs) Bool.false_ne_true
  | _ => cases y <;> exact absurd (show false = true from hs) Bool.false_ne_true
theorem op_lt : OpR X (compareOp .Lt) (rI0 fun i j => .bl (decide (i < j))) := opB0 fun _ _ _ _ _ _ _ q => lt_int q
theorem op_le : OpR X (compareOp .LtE) (rI0 fun i j => .bl (decide (i <= j))) := opB0 fun _ _ _ _ _ _ _ q => le_int q
theorem op_gt : OpR X (compareOp .Gt) (rI0 fun i j => .bl (decide (j < i))) := opB0 fun _ _ _ _ _ _ _ q => gt_int q
theorem op_ge : OpR X (compareOp .GtE) (rI0 fun i j => .bl (decide (j <= i))) := opB0 fun _ _ _ _ _ _ _ q => ge_int q
theorem OpR.or {f : Value -> Value -> Sem Value} {r r' : R2} (h : OpR X f r) (h' : OpR X f r') : OpR X f (fun x y H Q => r x y H Q \/ r' x y H Q) := by
  intro pins s σ H x y v u Q I rx ry q
  rcases q with q | q
  · exact h pins s σ H x y v u Q I rx ry q
  · exact h' pins s σ H x y v u Q I rx ry q
theorem nomark (b : Expr) {op : CmpOp} (h : op ≠ .In := by decide) (h2 : op ≠ .NotIn := by decide) : behindInMarks op b = false := by
  have e1 : (op == CmpOp.In) = false := by cases op <;> first | rfl | exact absurd rfl h
  have e2 : (op == CmpOp.NotIn) = false := by cases op <;> first | rfl | exact absurd rfl h2
  cases b <;> simp [behindInMarks, e1, e2]
theorem pe_cmpR {op : CmpOp} {r : R2} (ho : OpR X (compareOp op) r) (ha : PE X a ta) (hb : PE X b tb) (hm : behindInMarks op b = false) : PE X (.Compare a [op] [b] pos) (tOp r ta tb) := by
  intro pins s σ H Q I h
  exact wpAny_Compare1 (binT ha hb I h fun v u s2 x y H2 I2 rx ry q => ho pins s2 σ H2 x y v u Q I2 rx ry q) hm
noncomputable def tTest (t : TE) : TT := fun σ H Q => t σ H fun x H' => IsBl x fun k => Q k H'
theorem pt_cmpR {op : CmpOp} {r : R2} (ho : OpR X (compareOp op) r) (ha : PE X a ta) (hb : PE X b tb) (hm : behindInMarks op b = false) : PT X (.Compare a [op] [b] pos) (tTest (tOp r ta tb)) := by
  intro pins s σ H Q I h
  refine wpAny_isTrue_Compare1 (thn (ha pins s σ H _ I h) fun v s1 ⟨x, H1, I1, r1, q1⟩ => thn (hb pins s1 σ H1 _ I1 q1) fun u s2 ⟨y, H2, I2, r2, q2⟩ =>
    thn (ho pins s2 σ H2 x y v u _ I2 r1 r2 q2) fun c s3 ⟨z, H3, I3, r3, k, e, q3⟩ => ?_) hm
  subst e
  cases r3
  exact wpAny_truthy_bool ⟨H3, I3, q3⟩
noncomputable def tChain (r r' : R2) (ta tb tc : TE) : TE := fun σ H Q => ta σ H fun x H1 => tb σ H1 fun y H2 => r x y H2 fun z H3 => ∃ k, z = .bl k /\
  (if k = true then tc σ H3 fun w' H4 => r' y w' H4 Q else Q (.bl false) H3)
theorem pe_chain {op op' : CmpOp} {r r' : R2} (ho : OpR X (compareOp op) r) (ho' : OpR X (compareOp op') r') (ha : PE X a ta) (hb : PE X b tb) (hc : PE X c tc)
    (hm : lastMarks [op, op'] [b, c] = false := by with_unfolding_all rfl) : PE X (.Compare a [op, op'] [b, c] pos) (tChain r r' ta tb tc) := by
  intro pins s σ H Q I h
  refine Compare_chain (thn (ha pins s σ H _ I h) fun v s1 ⟨x, H1, I1, r1, q1⟩ => chain_link (thn (hb pins s1 σ H1 _ I1 q1) fun u s2 ⟨y, H2, I2, r2, q2⟩ =>
    thn (ho pins s2 σ H2 x y v u _ I2 r1 r2 q2) fun d s3 ⟨z, H3, I3, r3, k, e, q3⟩ => ?_)) hm
  subst e
  cases r3
  refine wpAny_truthy_bool ?_
  cases k with
  | false => exact ite_ff ⟨.bl false, H3, I3, rfl, q3⟩
  | true => exact ite_tt (chain_last (thn (hc pins s3 σ H3 _ I3 q3) fun w' s4 ⟨z', H4, I4, r4, q4⟩ => ho' pins s4 σ H4 y z' u w' Q I4 r2 r4 q4))
theorem pt_chain {op op' : CmpOp} {r r' : R2} (ho : OpR X (compareOp op) r) (ho' : OpR X (compareOp op') r') (ha : PE X a ta) (hb : PE X b tb) (hc : PE X c tc)
    (hm : lastMarks [op, op'] [b, c] = false := by with_unfolding_all rfl) : PT X (.Compare a [op, op'] [b, c] pos) (tTest (tChain r r' ta tb tc)) := by
  intro pins s σ H Q I h
  refine isTrue_chain (thn (ha pins s σ H _ I h) fun v s1 ⟨x, H1, I1, r1, q1⟩ => test_link (thn (hb pins s1 σ H1 _ I1 q1) fun u s2 ⟨y, H2, I2, r2, q2⟩ =>
    thn (ho pins s2 σ H2 x y v u _ I2 r1 r2 q2) fun d s3 ⟨z, H3, I3, r3, k, e, q3⟩ => ?_)) hm
  subst e
  cases r3
  refine wpAny_truthy_bool ?_
  cases k with
  | false =>
    obtain ⟨k', e', q'⟩ := q3
    cases e'
    exact ite_ff ⟨H3, I3, q'⟩
  | true =>
    refine ite_tt (test_last (thn (hc pins s3 σ H3 _ I3 q3) fun w' s4 ⟨z', H4, I4, r4, q4⟩ => thn (ho' pins s4 σ H4 y z' u w' _ I4 r2 r4 q4) fun d' s5 ⟨z2, H5, I5, r5, k2, e2, q5⟩ => ?_))
    subst e2
    cases r5
    exact wpAny_truthy_bool ⟨H5, I5, q5⟩
theorem line63 : (sizeLine : Nat) < 2 ^ 63 := by rw [sizeLine_eq]; decide
theorem op_add_str : OpR X (binaryOp .Add) (fun x y H Q => Ex2 fun i j => x = .str i /\ y = .str j /\ i.length + j.length <= sizeLine /\ Q (.str (i ++ j)) H) := by
  intro pins s σ H x y v u Q I rx ry h
  obtain ⟨i, j, rfl, rfl, hz, q⟩ := h
  obtain ⟨t, rfl⟩ := rx
  obtain ⟨t', rfl⟩ := ry
  exact add_str (fun t' tk => ⟨.str (i ++ j), H, I.tok _, ⟨_, rfl⟩, q⟩) hz
theorem vals1 {x : V} {us : List Value} (r : Vals [x] us) : ∃ u, us = [u] /\ RelV x u := by
  cases r with
  | cons r1 r2 => cases r2; exact ⟨_, rfl, r1⟩
theorem vals2 {x y : V} {us : List Value} (r : Vals [x, y] us) : ∃ u w', us = [u, w'] /\ RelV x u /\ RelV y w' := by
  cases r with
  | cons r1 r2 =>
    cases r2 with
    | cons r3 r4 => cases r4; exact ⟨_, _, rfl, r1, r3⟩
end
end L2
namespace L2
open PySem PySem.Spec PyProof.Rows
structure ObjM (h : Heap) (x dx C : Addr) (mA : Str -> Option Value) : Prop where
  obj : h.get? x = some (PySem.W.instObj C dx)
  ns : h.Ns1 dx mA
  ne : dx ≠ x
theorem lookIn_ns {h : Heap} {dx : Addr} {mA : Str -> Option Value} (n : h.Ns1 dx mA) : ∃ od, h.get? dx = some od /\ ∀ name, PySem.W.lookIn name od = some (mA name) := by
  obtain ⟨o, es, ep, ho, hd, hk, _, hm⟩ := n
  refine ⟨o, ho, fun name => ?_⟩
  have e := hm name
  unfold nsFind findBy at e
  rw [<- Array.find?_toList] at e
  unfold PySem.W.lookIn
  rw [hd]
  dsimp only
  split
  · rename_i y q
    rw [q] at e
    exact congrArg some e
  · rename_i q
    rw [q] at e
    have a : es.toList.any (·.refKey) = false := by
      rw [List.any_eq_false]
      intro y hy
      obtain ⟨z, t, hkey⟩ := hk y (Array.mem_toList_iff.mp hy)
      simp [DictEntry.refKey, hkey]
    have a' : ¬ es.toList.any (·.refKey) = true := by rw [a]; exact Bool.false_ne_true
    rw [if_neg a']
    exact congrArg some e
theorem ObjM.look {h : Heap} {x dx C : Addr} {mA : Str -> Option Value} (I : ObjM h x dx C mA) : ∃ od, PySem.W.InstAt h x (PySem.W.instObj C dx) C (some od) /\ ∀ name, PySem.W.lookIn name od = some (mA name) :=
  let ⟨od, ho, hl⟩ := lookIn_ns I.ns
  ⟨od, ⟨I.obj, rfl, rfl, ho⟩, hl⟩
section
variable {prog : Program} {w : World} {A : Around} {E : Value -> Shared -> Prop} {s : Shared} {K : PySem.W.Frag} {x dx C f : Addr} {mA : Str -> Option Value} {name : Str} {v : Value}
theorem get_map {expr : Bool} {Q : Value -> Shared -> Prop} (X : K.In s.heap) (I : ObjM s.heap x dx C mA) (hg : PySem.W.plainGet K C name = true) (hh : PySem.W.hasDictIn K C = true)
    (ha : PySem.W.findIn K (.ref C) name = some none) (hv : mA name = some v) (hv' : PySem.W.handedIn v = true) (h : Q v { s with toks := s.toks + 1 }) :
    wpAny (model prog w) A (getAttr (.ref x) name expr) Q E s := by
  obtain ⟨od, J, hl⟩ := I.look
  exact PySem.W.get_value X J (PySem.W.plainGet_of hg).1 (PySem.W.findObj_own hh ha rfl (by rw [hl, hv])) hv' h
theorem get_meth {pl : Sem Bool} {Q : Value × List Value -> Shared -> Prop} (X : K.In s.heap) (I : ObjM s.heap x dx C mA) (hg : PySem.W.plainGet K C name = true)
    (hf : PySem.W.findIn K (.ref C) name = some (some (.ref f))) (ht : PySem.W.isFn K (.ref f) = true) (hv : mA name = none) (h : Q (.ref f, [.ref x]) s) :
    wpAny (model prog w) A (getMethod (.ref x) name pl) Q E s := by
  obtain ⟨od, J, hl⟩ := I.look
  exact PySem.W.method_fn X J (PySem.W.plainGet_of hg).1 (PySem.W.plainGet_of hg).2 hf (beq_iff_eq.mp ht) (by show (PySem.W.lookIn name od).map (·.isSome) = some false; rw [hl, hv]; rfl) h
theorem set_map {ns : List Str} {Q : Unit -> Shared -> Prop} (X : K.In s.heap) (I : ObjM s.heap x dx C mA)
    (hs : PySem.W.findIn K (.ref C) "__setattr__" = some (some (.builtin "object.__setattr__"))) (hp : PySem.W.plainOver K C = true) (ht : PySem.W.takerIn K C name = some none) (hh : PySem.W.hasDictIn K C = true)
    (hw : PySem.Within mA ns) (hsz : ns.length <= sizeLine)
    (h : ∀ h', ObjM h' x dx C (fun y => if y = name then some v else mA y) -> Heap.SameBut dx s.heap h' -> Q () { s with heap := h', toks := s.toks + 2 }) :
    wpAny (model prog w) A (setAttr (.ref x) name v) Q E s := by
  obtain ⟨od, J, hl⟩ := I.look
  refine PySem.W.set_plain X J hs (PySem.W.osa_open (s := { s with toks := s.toks + 1 }) (r := none) X J hp ht fun b => ?_)
  obtain ⟨cd, hc, hd'⟩ := PySem.W.any_some hh
  have hx : s.heap.get? x = some ⟨.ref C, some dx, .plain, #[]⟩ := I.obj
  refine wpAny_bind (wpAny_pure (wpAny_bind (wpAny_bind (wpAny_loadPart hx (wpAny_bind (PySem.W.Looks.here (s := { s with toks := s.toks + 1 }) (PySem.W.looks_clsIn X hc) ?_))))))
  rw [hd']
  refine wpAny_pure (a := some dx) (wpAny_bind (wpAny_pure (wpAny_bind ?_)))
  refine wpAny_nsSet1 (s := { s with toks := s.toks + 1 }) I.ns fun h' hn2 hs2 => ?_
  obtain ⟨oD, esD, epD, hoD, hdD, hcD⟩ := hn2.count (PySem.Within.cons name v hw)
  refine wpAny_bind (wpAny_lookBehind hoD (by rw [hdD]; exact pastItsLine_dict (Nat.le_trans hcD (by rw [List.length_cons]; omega))) ?_)
  exact wpAny_pure (h _ ⟨(hs2.2 _ (Ne.symm I.ne)).trans I.obj, hn2, I.ne⟩ hs2)
theorem make_map {R : Result -> Shared -> Prop} {vs : List Value} {kw : List (Str × Value)} (X : K.In s.heap) (hm : PySem.W.makesIn K C = true)
    (hi : PySem.W.findIn K (.ref C) "__init__" = some (some (.ref f))) (hf : PySem.W.typeIn K (.ref f) = some (.type "function"))
    (h : codeAny (model prog w) (A.under (.builtin "type.__call__" ⟨.ref C :: vs, kw⟩)) (.call (.ref f) ⟨.ref (s.heap.objs.size + 1) :: vs, kw⟩) (PySem.W.InitBack (s.heap.objs.size + 1) R)
      { s with heap := (s.heap.push PySem.W.emptyDict).push (PySem.W.instObj C s.heap.objs.size) }) :
    codeAny (model prog w) A (.call (.ref C) ⟨vs, kw⟩) R s := by
  obtain ⟨hh, g, d, t, os⟩ := s
  exact PySem.W.make_core (PySem.W.makes_of X hm) (PySem.W.looks_findIn X hi) (fun self => PySem.W.bind_fn X self hf) (.inl rfl) h
end
noncomputable def putF (f : Str) (v : V) : List (Str × V) -> List (Str × V)
  | [] => [(f, v)]
  | (g, x) :: r => if g = f then (g, v) :: r else (g, x) :: putF f v r
theorem lookup_putF (f g : Str) (v : V) : ∀ fs : List (Str × V), (putF f v fs).lookup g = if g = f then some v else fs.lookup g
  | [] => by
    show List.lookup g [(f, v)] = _
    by_cases h : g = f
    · have hb : (g == f) = true := beq_iff_eq.mpr h
      simp only [List.lookup, hb, if_pos h]
    · have hb : (g == f) = false := beq_eq_false_iff_ne.mpr h
      simp only [List.lookup, hb, if_neg h]
  | (k, x) :: r => by
    have ih := lookup_putF f g v r
    rw [show putF f v ((k, x) :: r) = (if k = f then (k, v) :: r else (k, x) :: putF f v r) from rfl]
    by_cases hk : k = f
    · rw [if_pos hk]
      by_cases h : g = k
      · have hb : (g == k) = true := beq_iff_eq.mpr h
        simp only [List.lookup, hb, if_pos (h.trans hk)]
      · have hb : (g == k) = false := beq_eq_false_iff_ne.mpr h
        simp only [List.lookup, hb, if_neg (fun e : g = f => h (e.trans hk.symm))]
    · rw [if_neg hk]
      by_cases h : g = k
      · have hb : (g == k) = true := beq_iff_eq.mpr h
        simp only [List.lookup, hb, if_neg (fun e : g = f => hk (h.symm.trans e))]
      · have hb : (g == k) = false := beq_eq_false_iff_ne.mpr h
        simp only [List.lookup, hb]
        exact ih
theorem keys_putF (f : Str) (v : V) : ∀ fs : List (Str × V), f ∈ (putF f v fs).map (·.1) /\ ∀ g, g ∈ fs.map (·.1) -> g ∈ (putF f v fs).map (·.1)
  | [] => ⟨by simp [putF], fun g h => by simp at h⟩
  | (k, x) :: r => by
    obtain ⟨i1, i2⟩ := keys_putF f v r
    rw [show putF f v ((k, x) :: r) = (if k = f then (k, v) :: r else (k, x) :: putF f v r) from rfl]
    by_cases hk : k = f
    · rw [if_pos hk]
      subst hk
      exact ⟨by simp, fun g h => by simpa using h⟩
    · rw [if_neg hk]
      refine ⟨?_, fun g h => ?_⟩
      · rw [List.map_cons]
        exact List.mem_cons_of_mem _ i1
      · rw [List.map_cons] at h ⊢
        rcases List.mem_cons.mp h with e | e
        · exact List.mem_cons.mpr (.inl e)
        · exact List.mem_cons_of_mem _ (i2 g e)
theorem length_putF (f : Str) (v : V) : ∀ fs : List (Str × V), (putF f v fs).length <= fs.length + 1
  | [] => by simp [putF]
  | (k, x) :: r => by
    have ih := length_putF f v r
    rw [show putF f v ((k, x) :: r) = (if k = f then (k, v) :: r else (k, x) :: putF f v r) from rfl]
    by_cases hk : k = f
    · rw [if_pos hk, List.length_cons, List.length_cons]; omega
    · rw [if_neg hk, List.length_cons, List.length_cons]; omega
theorem RelO.some_of {v : V} {o : Option Value} (r : RelO (some v) o) : ∃ u, o = some u /\ RelV v u := by
  cases o with
  | none => exact (show False from r).elim
  | some u => exact ⟨u, rfl, r⟩
theorem RelO.none_of {o : Option Value} (r : RelO none o) : o = none := by
  cases o with
  | none => rfl
  | some u => exact (show False from r).elim
theorem handed_of {v : V} {u : Value} (r : RelV v u) : PySem.W.handedIn u = true := by
  cases v with
  | non => cases (show u = Value.none from r); rfl
  | bl b => cases (show u = Value.bool b from r); rfl
  | int i => obtain ⟨t, e⟩ := (show ∃ t, u = Value.int i t from r); cases e; rfl
  | str x => obtain ⟨t, e⟩ := (show ∃ t, u = Value.str x t from r); cases e; rfl
  | byt b => obtain ⟨t, e⟩ := (show ∃ t, u = Value.bytes b t from r); cases e; rfl
  | flt b => obtain ⟨t, e⟩ := (show ∃ t, u = Value.float b t from r); cases e; rfl
  | ref a => cases (show u = Value.ref a from r); rfl
  | ty n => cases (show u = Value.type n from r); rfl
section
variable {P : Program} {w : World} {H H' : Hp} {h h' : Heap} {a C dx : Addr} {fs fs' : List (Str × V)}
theorem ins_get (hok : HOk P w H h) (e : H a = some (.ins C dx fs)) : ∃ mA, ObjM h a dx C mA /\ (∀ f, RelO (fs.lookup f) (mA f)) /\ PySem.Within mA (fs.map (·.1)) /\ fs.length <= 1000 /\ H dx = some (.own a) := by
  obtain ⟨d, z, ne, ob, mA, n, r, q⟩ := (show ObjOk P w H h a (.ins C dx fs) from hok a _ e)
  exact ⟨mA, ⟨ob, n, ne⟩, r, q, z, d⟩
end
structure Cls (K : PySem.W.Frag) (C : Addr) : Prop where
  pg : PySem.W.plainGet K C Str.empty = true
  hd : PySem.W.hasDictIn K C = true
  po : PySem.W.plainOver K C = true
  sa : PySem.W.findIn K (.ref C) "__setattr__" = some (some (.builtin "object.__setattr__"))
theorem Cls.get {K : PySem.W.Frag} {C : Addr} (c : Cls K C) (f : Str) : PySem.W.plainGet K C f = true := c.pg
noncomputable def NoAttr (K : PySem.W.Frag) (C : Addr) (f : Str) : Prop := PySem.W.findIn K (.ref C) f = some none
theorem NoAttr.taker {K : PySem.W.Frag} {C : Addr} {f : Str} (n : NoAttr K C f) : PySem.W.takerIn K C f = some none := by
  unfold PySem.W.takerIn
  rw [show PySem.W.findIn K (.ref C) f = some none from n]
  rfl
structure Meth (K : PySem.W.Frag) (C : Addr) (m : Str) (f : Addr) : Prop where
  at_ : PySem.W.findIn K (.ref C) m = some (some (.ref f))
  fn : PySem.W.isFn K (.ref f) = true
  kp : PySem.W.keepIn K (.ref f) = true
section
variable {X : Cx} {pins : List (Addr × Obj)} {σ : St} {H : Hp} {s : Shared} {a C dx : Addr} {fs : List (Str × V)} {f : Str} {v : V} {A : Around} {E : Value -> Shared -> Prop}
theorem getattr_ok {b : Bool} {Q : Value -> Shared -> Prop} (I : Inv X pins σ H s) (e : H a = some (.ins C dx fs)) (c : Cls X.K C) (n : NoAttr X.K C f) (l : fs.lookup f = some v)
    (h : ∀ u s', Inv X pins σ H s' -> RelV v u -> Q u s') : wpAny (model X.prog X.w) A (getAttr (.ref a) f b) Q E s := by
  obtain ⟨mA, O, r, _, _, _⟩ := ins_get I.hok e
  obtain ⟨u, hu, ru⟩ := RelO.some_of (v := v) (o := mA f) (by rw [<- l]; exact r f)
  exact get_map I.kIn O (c.get f) c.hd n hu (handed_of ru) (h u _ (I.tok _) ru)
theorem getmeth_ok {m : Str} {g : Addr} {pl : Sem Bool} {Q : Value × List Value -> Shared -> Prop} (I : Inv X pins σ H s) (e : H a = some (.ins C dx fs)) (c : Cls X.K C) (k : Meth X.K C m g) (l : fs.lookup m = none)
    (h : Q (.ref g, [.ref a]) s) : wpAny (model X.prog X.w) A (getMethod (.ref a) m pl) Q E s := by
  obtain ⟨mA, O, r, _, _, _⟩ := ins_get I.hok e
  have hn : mA m = none := RelO.none_of (by rw [<- l]; exact r m)
  exact get_meth I.kIn O (c.get m) k.at_ k.fn hn h
theorem setattr_ok {y : V} {u : Value} {Q : Unit -> Shared -> Prop} (I : Inv X pins σ H s) (e : H a = some (.ins C dx fs)) (c : Cls X.K C) (n : NoAttr X.K C f) (hl : fs.length < 1000) (ry : RelV y u)
    (h : ∀ s', Inv X pins σ (upd H a (.ins C dx (putF f y fs))) s' -> Q () s') : wpAny (model X.prog X.w) A (setAttr (.ref a) f u) Q E s := by
  obtain ⟨mA, O, r, wi, _, ho⟩ := ins_get I.hok e
  have hz : (fs.map (·.1)).length <= sizeLine := by rw [List.length_map, sizeLine_eq]; omega
  refine set_map I.kIn O c.sa c.po n.taker c.hd wi hz fun h' O' sb => h _ ?_
  have hd : ∃ o, h'.get? dx = some o := let ⟨o, _, _, e', _⟩ := O'.ns; ⟨o, e'⟩
  refine I.write (x := a) (e := dx) (by rw [e]; exact True.intro) (.inr ho) (fun b q hb z => (sb.2 b hb).trans z) hd ?_
  refine ⟨by rw [upd_ne O.ne]; exact ho, ?_, O.ne, O'.obj, _, O'.ns, fun g => ?_, fun g hg => ?_⟩
  · have := length_putF f y fs; omega
  · show RelO ((putF f y fs).lookup g) (if g = f then some u else mA g)
    rw [lookup_putF]
    by_cases q : g = f
    · rw [if_pos q, if_pos q]; exact ry
    · rw [if_neg q, if_neg q]; exact r g
  · by_cases q : g = f
    · rw [q]; exact (keys_putF f y fs).1
    · refine (keys_putF f y fs).2 g (wi g fun z => hg ?_)
      show (if g = f then some u else mA g) = none
      rw [if_neg q]; exact z
theorem Inv.made (I : Inv X pins σ H s) : Inv X pins σ (upd (upd H s.heap.objs.size (.own (s.heap.objs.size + 1))) (s.heap.objs.size + 1) (.ins C s.heap.objs.size []))
    { s with heap := (s.heap.push PySem.W.emptyDict).push (PySem.W.instObj C s.heap.objs.size) } := by
  have e1 : (s.heap.push PySem.W.emptyDict).get? s.heap.objs.size = some PySem.W.emptyDict := Heap.get?_push_size s.heap rfl
  have e2 : ((s.heap.push PySem.W.emptyDict).push (PySem.W.instObj C s.heap.objs.size)).get? (s.heap.objs.size + 1) = some (PySem.W.instObj C s.heap.objs.size) := by
    have := Heap.get?_push_size (s.heap.push PySem.W.emptyDict) (o := PySem.W.instObj C s.heap.objs.size) rfl
    rwa [Heap.size_push] at this
  have e3 : (s.heap.push PySem.W.emptyDict).Ns s.heap.objs.size (fun _ => none) := ⟨PySem.W.emptyDict, #[], _, e1, rfl, (fun e he => absurd he (by simp)), fun _ => rfl⟩
  have I1 := I.laid (a := s.heap.objs.size) (o := .own (s.heap.objs.size + 1)) (h' := s.heap.push PySem.W.emptyDict) (t' := s.toks) (fun b u q => Heap.get?_push_of_some _ q) (Nat.le_refl _) ⟨_, e1⟩
  refine I1.laid (a := s.heap.objs.size + 1) (o := .ins C s.heap.objs.size []) (t' := s.toks) (fun b u q => Heap.get?_push_of_some _ q) (Nat.le_of_eq (Heap.size_push _ _)) ?_
  have ne : s.heap.objs.size ≠ s.heap.objs.size + 1 := Nat.ne_of_lt (Nat.lt_succ_self _)
  refine ⟨by rw [upd_ne ne, upd_same], Nat.zero_le _, ne, e2, fun _ => none, (Heap.Ns1.of_empty e3).at fun o q => Heap.get?_push_of_some _ q, fun _ => True.intro, fun y hy => absurd rfl hy⟩
theorem attr_of {prog : Program} {w : World} {env : Env} {e : Expr} {f : Str} {pos : Pos} {s : Shared} {Q : Value -> Shared -> Prop} (hb : attributeBase e f env (eval e env) = eval e env)
    (h : wpAny (model prog w) A (eval e env) (fun o s₁ => wpAny (model prog w) A (getAttr o f true) Q E s₁) E s) : wpAny (model prog w) A (eval (.Attribute e f pos) env) Q E s :=
  Attribute_any_ h (by rw [arm_eval_Attribute, hb])
end
noncomputable def sFld (K : PySem.W.Frag) (ta tv : TE) (f : Str) : TS := fun D σ H => tv σ H fun y H1 => ta σ H1 fun x H2 => ∃ a C dx fs, x = .ref a /\ H2 a = some (.ins C dx fs) /\ Cls K C /\ NoAttr K C f /\ fs.length < 1000 /\
  D.nx σ (upd H2 a (.ins C dx (putF f y fs)))
section
variable {X : Cx} {o e value : Expr} {f : Str} {pos pos' tpos : Pos} {ta tv : TE}
theorem ps_fld (ha : PE X o ta) (hv : PE X value tv) (hs : swapsWith value (some (.Attribute o f pos')) pos.line X.env = pure false) : PS X (.Assign [.Attribute o f pos'] value pos) (sFld X.K ta tv f) := by
  intro pins s σ H D I h
  refine plainObj_wpAny_Assign_Attribute (thn (hv pins s σ H _ I h) fun u s1 ⟨y, H1, I1, ry, q⟩ => thn (ha pins s1 σ H1 _ I1 q) fun ov s2 ⟨x, H2, I2, rx, a, C, dx, fs, ex, ea, c, n, l, q2⟩ => ?_) hs
  subst ex
  obtain rfl : ov = Value.ref a := rx
  exact setattr_ok I2 ea c n l ry fun s3 I3 => ⟨σ, _, I3, q2⟩
end
section
variable {X : Cx} {pins : List (Addr × Obj)} {σ : St} {H : Hp} {s : Shared} {A : Around} {E : Value -> Shared -> Prop} {Q : Value -> Shared -> Prop} {c : Value} {b : Bool}
inductive TyOf (K : PySem.W.Frag) (H : Hp) : V -> Value -> Prop where
  | non : TyOf K H .non (.type "NoneType")
  | bl (x : Bool) : TyOf K H (.bl x) (.type "bool")
  | int (i : Int) : TyOf K H (.int i) (.type "int")
  | str (x : Str) : TyOf K H (.str x) (.type "str")
  | flt (x : UInt64) : TyOf K H (.flt x) (.type "float")
  | lst {a : Addr} {xs : List V} (e : H a = some (.lst xs)) : TyOf K H (.ref a) (.type "list")
  | frz {a : Addr} {o : Obj} {xs : List V} (e : H a = some (.frz o (.lst xs))) : TyOf K H (.ref a) (.type "list")
  | tup {a : Addr} {xs : List V} (e : H a = some (.tup xs)) : TyOf K H (.ref a) (.type "tuple")
  | dK {a : Addr} {kvs : List (Key × V)} (e : H a = some (.dK kvs)) : TyOf K H (.ref a) (.type "dict")
  | dT {a : Addr} {kvs : List (List Key × V)} (e : H a = some (.dT kvs)) : TyOf K H (.ref a) (.type "dict")
  | ins {a C dx : Addr} {fs : List (Str × V)} (e : H a = some (.ins C dx fs)) (cl : Cls K C) (ha : PySem.W.findIn K (.ref C) "__class__" = some (some (.builtin "object.__class__")))
      (hn : PySem.W.specialIn K (.builtin "object.__class__") "__get__" = some (some (.builtin "getset_descriptor.__get__"))) (htk : PySem.W.takesIn K (.builtin "object.__class__") = some true)
      (hm : PySem.W.mroIn K C (.type "object") = some true) : TyOf K H (.ref a) (.ref C)
theorem isinst_ok {x : V} {u t : Value} (I : Inv X pins σ H s) (rx : RelV x u) (ty : TyOf X.K H x t) (e : PySem.W.kitOne X.K t c = some b) (h : ∀ tk, Q (.bool b) { s with toks := tk }) :
    wpAny (model X.prog X.w) A (call (.builtin "isinstance") [u, c]) Q E s := by
  cases ty with
  | non => cases (show u = Value.none from rx); exact PySem.W.kia_one PySem.W.kitx_none I.kIn True.intro e (fun z => nomatch z) h
  | bl y => cases (show u = Value.bool y from rx); exact PySem.W.kia_one PySem.W.kitx_bool I.kIn True.intro e (fun z => nomatch z) h
  | int i => obtain ⟨t, q⟩ := (show ∃ t, u = Value.int i t from rx); cases q; exact PySem.W.kia_one PySem.W.kitx_int I.kIn True.intro e (fun z => nomatch z) h
  | str y => obtain ⟨t, q⟩ := (show ∃ t, u = Value.str y t from rx); cases q; exact PySem.W.kia_one PySem.W.kitx_str I.kIn True.intro e (fun z => nomatch z) h
  | flt y => obtain ⟨t, q⟩ := (show ∃ t, u = Value.float y t from rx); cases q; exact PySem.W.kia_one PySem.W.kitx_float I.kIn True.intro e (fun z => nomatch z) h
  | @lst a xs ea =>
    cases (show u = Value.ref a from rx)
    obtain ⟨_, _, n, _, h1⟩ := (show ObjOk X.prog X.w H s.heap a (.lst xs) from I.hok a _ ea)
    exact PySem.W.kia_one PySem.W.kitx_list I.kIn ⟨_, h1, rfl⟩ e (fun z => nomatch z) h
  | @frz a ob xs ea =>
    cases (show u = Value.ref a from rx)
    obtain ⟨_, _, _, n, _, h1⟩ := (show ObjOk X.prog X.w H s.heap a (.frz ob (.lst xs)) from I.hok a _ ea)
    exact PySem.W.kia_one PySem.W.kitx_list I.kIn ⟨_, h1, rfl⟩ e (fun z => nomatch z) h
  | @tup a xs ea =>
    cases (show u = Value.ref a from rx)
    obtain ⟨_, _, _, p⟩ := (show ObjOk X.prog X.w H s.heap a (.tup xs) from I.hok a _ ea)
    obtain ⟨o, h1, h2, _⟩ := p
    exact PySem.W.kia_one PySem.W.kitx_tuple I.kIn ⟨o, h1, h2⟩ e (fun z => nomatch z) h
  | @dK a kvs ea =>
    cases (show u = Value.ref a from rx)
    obtain ⟨_, _, vs, _, p⟩ := (show ObjOk X.prog X.w H s.heap a (.dK kvs) from I.hok a _ ea)
    obtain ⟨o, es, ep, h1, h2, _⟩ := p
    exact PySem.W.kia_one PySem.W.kitx_dict I.kIn ⟨o, h1, h2.1⟩ e (fun z => nomatch z) h
  | @dT a kvs ea =>
    cases (show u = Value.ref a from rx)
    obtain ⟨_, _, xs, _, o, es, ep, h1, h2, _⟩ := (show ObjOk X.prog X.w H s.heap a (.dT kvs) from I.hok a _ ea)
    exact PySem.W.kia_one PySem.W.kitx_dict I.kIn ⟨o, h1, h2.1⟩ e (fun z => nomatch z) h
  | @ins a C dx fs ea cl ha hn htk hm =>
    cases (show u = Value.ref a from rx)
    obtain ⟨mA, O, _⟩ := ins_get I.hok ea
    obtain ⟨od, J, _⟩ := O.look
    exact PySem.W.kia_one (PySem.W.kitx_own (cl.get _) cl.hd ha hn htk hm) I.kIn J e (fun z => nomatch z) h
end
end L2
namespace L2
open PySem PySem.Spec PyProof.Rows
structure Room (k : Nat) (A : Around) : Prop where
  hd : A.handled = none
  dp : A.depth + 3 * k + 5 < recursionLimit
  un : A.units + 16 * k + 200 < cLine
theorem Room.mono {j k : Nat} {A : Around} (r : Room k A) (h : j <= k) : Room j A := ⟨r.hd, by have := r.dp; omega, by have := r.un; omega⟩
theorem Room.deeper {k : Nat} {A : Around} (r : Room (k + 1) A) (env : Env) : Room k (A.deeper env) :=
  ⟨r.hd, by have := r.dp; show A.depth + 1 + 3 * k + 5 < _; omega, by have := r.un; show A.units + 3 + 16 * k + 200 < _; omega⟩
theorem Room.in1 {k : Nat} {A : Around} (r : Room (k + 1) A) : Room k A.in1 :=
  ⟨r.hd, by have := r.dp; show A.depth + 3 * k + 5 < _; omega, by have := r.un; show A.units + 1 + 16 * k + 200 < _; omega⟩
theorem make_depth {A : Around} {C : Addr} {us : List Value} {kw : List (Str × Value)} : (A.under (.builtin "type.__call__" ⟨.ref C :: us, kw⟩)).depth = A.depth + 1 := by
  first | rfl | simp [Around.under, Code.weight, Code.isCreation, Code.isGuard, Code.isCaller, Code.frames, Code.isFrame, guardIds]
theorem make_units {A : Around} {C : Addr} {us : List Value} {kw : List (Str × Value)} : (A.under (.builtin "type.__call__" ⟨.ref C :: us, kw⟩)).units = A.units + 1 := by
  first | rfl | simp [Around.under, Code.cUnits, Code.frames, Code.isFrame]
theorem Room.make {k : Nat} {A : Around} (r : Room (k + 1) A) (C : Addr) (us : List Value) (kw : List (Str × Value)) : Room k (A.under (.builtin "type.__call__" ⟨.ref C :: us, kw⟩)) :=
  ⟨r.hd, by have := r.dp; rw [make_depth]; omega, by have := r.un; rw [make_units]; omega⟩
theorem Room.depth {k : Nat} {A : Around} (r : Room k A) : A.depth < recursionLimit := by have := r.dp; omega
theorem Room.units {k : Nat} {A : Around} (r : Room k A) : A.units + 64 < cLine := by have := r.un; omega
noncomputable def tNil : TA := fun _ H Q => Q [] H
noncomputable def tCons (ta : TE) (tr : TA) : TA := fun σ H Q => ta σ H fun x H1 => tr σ H1 fun xs H2 => Q (x :: xs) H2
section
variable {X : Cx} {e : Expr} {es : List Expr} {te : TE} {t : TA} {pos : Pos}
theorem pa_nil : PA X [] tNil := fun _ _ _ _ H Q I h => Calls.spliced_nil ⟨[], H, I, .nil, h⟩
theorem pa_cons (ha : PE X e te) (hr : PA X es t) (hs : starEach (e :: es) X.env = (false, eval e X.env) :: starEach es X.env := by rfl) : PA X (e :: es) (tCons te t) := by
  intro pos pins s σ H Q I h
  rw [hs]
  show wpAny _ _ (spliced ((false, eval e X.env) :: backTo pos (starEach es X.env))) _ _ s
  refine Calls.spliced_cons (thn (ha pins s σ H _ I h) fun u s1 ⟨x, H1, I1, r1, q1⟩ => ?_)
  exact thn (hr pos pins s1 σ H1 _ I1 q1) fun us s2 ⟨xs, H2, I2, r2, q2⟩ => ⟨x :: xs, H2, I2, .cons r1 r2, q2⟩
noncomputable def tTup (t : TA) : TE := fun σ H Q => t σ H fun xs H1 => xs.length <= sizeLine /\ ∀ p, H1 p = none -> Q (.ref p) (upd H1 p (.tup xs))
noncomputable def tLst (t : TA) : TE := fun σ H Q => t σ H fun xs H1 => xs.length <= sizeLine /\ ∀ p, H1 p = none -> Q (.ref p) (upd H1 p (.lst xs))
theorem pe_tup {x1} (h : PA X es t) : PE X (.Tuple es x1 pos) (tTup t) := by
  intro pins s σ H Q I hq
  refine wpAny_Tuple_spliced (thn (h pos pins s σ H _ I hq) fun us s1 ⟨xs, H1, I1, r, z, q⟩ => ⟨by rw [<- r.length]; exact z, ?_⟩)
  have hf : H1 s1.heap.objs.size = none := I1.hok.fresh (Nat.le_refl _)
  refine ⟨.ref s1.heap.objs.size, upd H1 s1.heap.objs.size (.tup xs), I1.laid (t' := s1.toks) (fun b u e => Heap.get?_push_of_some _ e) (Nat.le_refl _) ?_, rfl, q _ hf⟩
  exact ⟨z, us, r, ⟨_, Heap.get?_push_size _ rfl, rfl, _, rfl⟩⟩
theorem pe_lst (h : PA X es t) : PE X (.List es pos) (tLst t) := by
  intro pins s σ H Q I hq
  refine wpAny_List_spliced (thn (h pos pins s σ H _ I hq) fun us s1 ⟨xs, H1, I1, r, z, q⟩ => ⟨by rw [<- r.length]; exact z, ?_⟩)
  have hf : H1 s1.heap.objs.size = none := I1.hok.fresh (Nat.le_refl _)
  refine ⟨.ref s1.heap.objs.size, upd H1 s1.heap.objs.size (.lst xs), I1.laid (t' := s1.toks) (fun b u e => Heap.get?_push_of_some _ e) (Nat.le_refl _) ?_, rfl, q _ hf⟩
  exact ⟨z, us, 0, r, Heap.get?_push_size _ rfl⟩
end
noncomputable abbrev Sp := List V -> Hp -> VK -> XK -> Prop
noncomputable abbrev CXT := List Env -> Hp -> Shared -> XK -> Value -> Shared -> Prop
structure Env0 (P : Program) (w : World) (K : PySem.W.Frag) (mg : Str -> Option Value) (base : Heap) (A : Around) (outer : List Env) (s : Shared) (H : Hp) : Prop where
  frames : A.frames = some outer
  mod : Mod K mg base
  bs : ∀ b o, base.get? b = some o -> s.heap.get? b = some o /\ H b = none
  bsz : base.objs.size <= s.heap.objs.size
  funs : s.heap.FunFrames base outer
  frf : ∀ b ∈ frs outer, H b = none
  hok : HOk P w H s.heap
  bare : AllBare s.gens
noncomputable def CE (outer : List Env) (P : Program) (w : World) (H : Hp) (s : Shared) (Q : VK) (u : Value) (s' : Shared) : Prop :=
  ∃ v H', s'.os = s.os /\ AllBare s'.gens /\ Un (frs outer) [] H H' s.heap s'.heap /\ HOk P w H' s'.heap /\ RelV v u /\ Q v H'
noncomputable def CR (CX : CXT) (outer : List Env) (P : Program) (w : World) (H : Hp) (s : Shared) (Q : VK) (E : XK) (r : Result) (s' : Shared) : Prop :=
  match r with
  | .ok (.ret u) => CE outer P w H s Q u s'
  | .ok _ => False
  | .error e => CX outer H s E e s'
structure FnOk (P : Program) (w : World) (K : PySem.W.Frag) (mg : Str -> Option Value) (base : Heap) (CX : CXT) (k : Nat) (f : Addr) (fd : FuncData) (ps : List Str) (sp : Sp) : Prop where
  len : ∀ vs H Q E, sp vs H Q E -> vs.length = ps.length
  run : ∀ (A : Around) (outer : List Env) (s : Shared) (H : Hp) (args : Args) (us : List Value) (vs : List V) (Q : VK) (E : XK), Room k A -> Env0 P w K mg base A outer s H -> BindsTo s fd args (ps.zip us) -> Vals vs us -> sp vs H Q E ->
    codeAny (model P w) A (.call (.ref f) args) (CR CX outer P w H s Q E) s
theorem FnOk.mono {P : Program} {w : World} {K : PySem.W.Frag} {mg : Str -> Option Value} {base : Heap} {CX : CXT} {j k : Nat} {f : Addr} {fd : FuncData} {ps : List Str} {sp : Sp} (F : FnOk P w K mg base CX j f fd ps sp) (h : j <= k) :
    FnOk P w K mg base CX k f fd ps sp := ⟨F.len, fun A outer s H args us vs Q E hr => F.run A outer s H args us vs Q E (hr.mono h)⟩
theorem FnOk.imp {P : Program} {w : World} {K : PySem.W.Frag} {mg : Str -> Option Value} {base : Heap} {CX : CXT} {k : Nat} {f : Addr} {fd : FuncData} {ps : List Str} {sp sp' : Sp} (F : FnOk P w K mg base CX k f fd ps sp)
    (h : ∀ vs H Q E, sp' vs H Q E -> sp vs H Q E) : FnOk P w K mg base CX k f fd ps sp' :=
  ⟨fun vs H Q E q => F.len vs H Q E (h _ _ _ _ q), fun A outer s H args us vs Q E hr he hb hv hs => F.run A outer s H args us vs Q E hr he hb hv (h _ _ _ _ hs)⟩
theorem Env0.make {P : Program} {w : World} {K : PySem.W.Frag} {mg : Str -> Option Value} {base : Heap} {A : Around} {outer : List Env} {s : Shared} {H : Hp} (e : Env0 P w K mg base A outer s H) (C : Addr) (us : List Value) (kw : List (Str × Value)) :
    Env0 P w K mg base (A.under (.builtin "type.__call__" ⟨.ref C :: us, kw⟩)) outer s H := ⟨by first | exact e.frames | (simpa [Around.under, Code.envs, Code.isFrame, pushEnvs] using e.frames), e.mod, e.bs, e.bsz, e.funs, e.frf, e.hok, e.bare⟩
theorem Env0.in1 {P : Program} {w : World} {K : PySem.W.Frag} {mg : Str -> Option Value} {base : Heap} {A : Around} {outer : List Env} {s : Shared} {H : Hp} (e : Env0 P w K mg base A outer s H) :
    Env0 P w K mg base A.in1 outer s H := ⟨e.frames, e.mod, e.bs, e.bsz, e.funs, e.frf, e.hok, e.bare⟩
section
variable {X : Cx} {pins : List (Addr × Obj)} {σ : St} {H : Hp} {s s' : Shared}
theorem Inv.env0 (I : Inv X pins σ H s) : Env0 X.prog X.w X.K X.mg X.base X.A X.stack s H :=
  ⟨I.ok.frames, I.ok.mod, I.bs, Nat.le_trans I.ok.bsz I.sz, I.stack, I.stkFree, I.hok, I.bare⟩
theorem Inv.after {Q : VK} {u : Value} (I : Inv X pins σ H s) (h : CE X.stack X.prog X.w H s Q u s') : EP X pins σ Q u s' := by
  obtain ⟨v, H', os, bare, un, hok, r, q⟩ := h
  obtain ⟨hh, g, d, t, os'⟩ := s'
  obtain rfl : os' = s.os := os
  exact ⟨v, H', I.call (h' := hh) (g' := g) (d' := d) (t' := t) (ch := []) un hok bare (fun b z => absurd z (by simp)), r, q⟩
end
noncomputable def tCall (sp : Sp) (dvs : List V) (E : XK) (t : TA) : TE := fun σ H Q => t σ H fun vs H1 => sp (vs ++ dvs) H1 Q E
noncomputable def tMeth (C : Addr) (m : Str) (sp : Sp) (dvs : List V) (E : XK) (ta : TE) (t : TA) : TE := fun σ H Q => ta σ H fun x H1 => Ex3 fun a dx fs => x = .ref a /\ H1 a = some (.ins C dx fs) /\ fs.lookup m = none /\
  t σ H1 fun vs H2 => sp (x :: (vs ++ dvs)) H2 Q E
noncomputable def tMake (C : Addr) (sp : Sp) (dvs : List V) (E : XK) (t : TA) : TE := fun σ H Q => t σ H fun vs H1 => ∀ x dx, H1 x = none -> H1 dx = none -> dx ≠ x ->
  sp (.ref x :: (vs ++ dvs)) (upd (upd H1 dx (.own x)) x (.ins C dx [])) (fun v H2 => v = .non /\ Q (.ref x) H2) E
noncomputable def Binds (K : PySem.W.Frag) (fd : FuncData) (ps : List Str) (ds : List Value) : Prop :=
  ∀ (s : Shared) (us : List Value), K.In s.heap -> (us ++ ds).length = ps.length -> BindsTo s fd ⟨us, []⟩ (ps.zip (us ++ ds))
theorem Binds.all {K : PySem.W.Frag} {fd : FuncData} {ps : List Str} (h : ∀ us : List Value, us.length = ps.length -> bindArgs fd ⟨us, []⟩ = pure (ps.zip us)) : Binds K fd ps [] := fun s us _ hl => by
  rw [List.append_nil] at hl ⊢
  exact .of_eq (h us hl)
noncomputable def Passes (CX : CXT) (X : Cx) (E : XK) : Prop := ∀ (pins : List (Addr × Obj)) (σ : St) (H : Hp) (s : Shared) (e : Value) (s' : Shared), Inv X pins σ H s -> CX X.stack H s E e s' -> X.xe e s'
section
variable {X : Cx} {CX : CXT} {k : Nat} {f C : Addr} {fd : FuncData} {ps : List Str} {sp : Sp} {dvs : List V} {ds : List Value} {E : XK} {x m : Str} {p pos apos : Pos} {e o : Expr} {es : List Expr} {ta : TE} {t : TA}
theorem run_fn {pins : List (Addr × Obj)} {σ : St} {H : Hp} {s : Shared} {Q : VK} {us : List Value} {vs : List V} (F : FnOk X.prog X.w X.K X.mg X.base CX k f fd ps sp) (hr : Room k X.A) (hb : Binds X.K fd ps ds) (hd : Vals dvs ds) (hx : Passes CX X E)
    (I : Inv X pins σ H s) (r : Vals vs us) (h : sp (vs ++ dvs) H Q E) : wpAny (model X.prog X.w) X.A (call (.ref f) us) (EP X pins σ Q) X.xe s := by
  have r2 : Vals (vs ++ dvs) (us ++ ds) := r.append hd
  have hl : (us ++ ds).length = ps.length := by rw [<- r2.length]; exact F.len _ _ _ _ h
  refine wpAny_call (codeAny_mono (F.run X.A X.stack s H ⟨us, []⟩ (us ++ ds) (vs ++ dvs) Q E hr I.env0 (hb s us I.kIn hl) r2 h) fun r s' hq => ?_)
  cases r with
  | error e => exact hx pins σ H s e s' I hq
  | ok fl =>
    cases fl with
    | ret u => exact I.after hq
    | next => exact False.elim hq
    | brk => exact False.elim hq
    | cont => exact False.elim hq
theorem pe_call (F : FnOk X.prog X.w X.K X.mg X.base CX k f fd ps sp) (hr : Room k X.A) (hg : Gl X x) (hm : X.mg x = some (.ref f)) (hk : PySem.W.keepIn X.K (.ref f) = true) (hb : Binds X.K fd ps ds) (hd : Vals dvs ds) (hx : Passes CX X E)
    (ha : PA X (e :: es) t) (hdb : (x == ("__debug__" : Str)) = false := by decide) (he : starEach (e :: es) X.env = (false, eval e X.env) :: starEach es X.env := by rfl) (hpl : (backTo pos (starEach es X.env)).any (·.1) = false := by rfl) :
    PE X (.Call (.Name x p) (e :: es) [] pos) (tCall sp dvs E t) := by
  intro pins s σ H Q I h
  refine wpAny_Call_Name_kw (ld_glob I hg hm ?_ hdb)
  refine PySem.W.callWith_K (h₀ := X.base) I.ok.mod.kin hk (thn (ha pos pins s σ H _ I h) fun us s1 ⟨vs, H1, I1, r, q⟩ => ⟨I1.kIn, ?_⟩) he hpl
  exact run_fn F hr hb hd hx I1 r q
theorem pe_meth {pl : Sem Bool} (he : PE X o ta) (c : Cls X.K C) (hm : Meth X.K C m f) (F : FnOk X.prog X.w X.K X.mg X.base CX k f fd ps sp) (hr : Room k X.A) (hb : Binds X.K fd ps ds) (hd : Vals dvs ds) (hx : Passes CX X E) (ha : PA X (e :: es) t)
    (hst : starEach (e :: es) X.env = (false, eval e X.env) :: starEach es X.env := by rfl) (hpl : (backTo pos (starEach es X.env)).any (·.1) = false := by rfl)
    (ht : eval (.Call (.Attribute o m apos) (e :: es) [] pos) X.env = (do
      let ov <- eval o X.env
      standAt apos.atName
      let (f, first) <- holding [ov] (getMethod ov m pl)
      callWith pos f first (backTo pos (starEach (e :: es) X.env)) (backToKw pos (keywordEach [] X.env))) := by rfl) :
    PE X (.Call (.Attribute o m apos) (e :: es) [] pos) (tMeth C m sp dvs E ta t) := by
  intro pins s σ H Q I h
  refine PySem.W.methodCall_KW (pl := pl) (thn (he pins s σ H _ I h) fun u s1 ⟨x, H1, I1, rx, a, dx, fs, ex, ea, l, q⟩ => ?_) ht
  subst ex
  obtain rfl : u = Value.ref a := rx
  refine getmeth_ok I1 ea c hm l ?_
  refine PySem.W.callWith_K (first := [.ref a]) (h₀ := X.base) I.ok.mod.kin hm.kp (thn (ha pos pins s1 σ H1 _ I1 q) fun us s2 ⟨vs, H2, I2, r, q2⟩ => ⟨I2.kIn, ?_⟩) hst hpl
  exact run_fn (us := .ref a :: us) (vs := .ref a :: vs) F hr hb hd hx I2 (.cons rfl r) q2
structure Mk (K : PySem.W.Frag) (C f : Addr) : Prop where
  makes : PySem.W.makesIn K C = true
  init : PySem.W.findIn K (.ref C) "__init__" = some (some (.ref f))
  fn : PySem.W.isFn K (.ref f) = true
  kp : PySem.W.keepIn K (.ref C) = true
theorem run_make {pins : List (Addr × Obj)} {σ : St} {H : Hp} {s : Shared} {Q : VK} {us : List Value} {vs : List V} (M : Mk X.K C f) (F : FnOk X.prog X.w X.K X.mg X.base CX k f fd ps sp) (hr : Room (k + 1) X.A) (hb : Binds X.K fd ps ds) (hd : Vals dvs ds)
    (hx : Passes CX X E) (I : Inv X pins σ H s) (r : Vals vs us)
    (h : ∀ x dx, H x = none -> H dx = none -> dx ≠ x -> sp (.ref x :: (vs ++ dvs)) (upd (upd H dx (.own x)) x (.ins C dx [])) (fun v H2 => v = .non /\ Q (.ref x) H2) E) :
    wpAny (model X.prog X.w) X.A (call (.ref C) us) (EP X pins σ Q) X.xe s := by
  have hq := h (s.heap.objs.size + 1) s.heap.objs.size (I.hok.fresh (Nat.le_succ _)) (I.hok.fresh (Nat.le_refl _)) (Nat.ne_of_lt (Nat.lt_succ_self _))
  have I2 := Inv.made (C := C) I
  have r2 : Vals (V.ref (s.heap.objs.size + 1) :: (vs ++ dvs)) (Value.ref (s.heap.objs.size + 1) :: (us ++ ds)) := .cons rfl (r.append hd)
  have hl : (Value.ref (s.heap.objs.size + 1) :: us ++ ds).length = ps.length := by
    have e := r2.length
    rw [F.len _ _ _ _ hq] at e
    exact e.symm
  refine wpAny_call (make_map (f := f) I.kIn M.makes M.init (beq_iff_eq.mp M.fn) (codeAny_mono (F.run _ X.stack _ _ ⟨Value.ref (s.heap.objs.size + 1) :: us, []⟩ (Value.ref (s.heap.objs.size + 1) :: (us ++ ds)) _ _ E (hr.make C us [])
    (I2.env0.make C us []) (hb _ (Value.ref (s.heap.objs.size + 1) :: us) I2.kIn hl) r2 hq) fun r s' hq' => ?_))
  cases r with
  | error e => exact hx pins σ _ _ e s' I2 hq'
  | ok fl =>
    cases fl with
    | ret u =>
      obtain ⟨v, H', I3, rv, ev, q3⟩ := I2.after hq'
      subst ev
      exact ⟨rv, ⟨V.ref (s.heap.objs.size + 1), H', I3, rfl, q3⟩⟩
    | next => exact False.elim hq'
    | brk => exact False.elim hq'
    | cont => exact False.elim hq'
theorem pe_make (M : Mk X.K C f) (F : FnOk X.prog X.w X.K X.mg X.base CX k f fd ps sp) (hr : Room (k + 1) X.A) (hg : Gl X x) (hm : X.mg x = some (.ref C)) (hb : Binds X.K fd ps ds) (hd : Vals dvs ds) (hx : Passes CX X E)
    (ha : PA X (e :: es) t) (hdb : (x == ("__debug__" : Str)) = false := by decide) (he : starEach (e :: es) X.env = (false, eval e X.env) :: starEach es X.env := by rfl) (hpl : (backTo pos (starEach es X.env)).any (·.1) = false := by rfl) :
    PE X (.Call (.Name x p) (e :: es) [] pos) (tMake C sp dvs E t) := by
  intro pins s σ H Q I h
  refine wpAny_Call_Name_kw (ld_glob I hg hm ?_ hdb)
  refine PySem.W.callWith_K (h₀ := X.base) I.ok.mod.kin M.kp (thn (ha pos pins s σ H _ I h) fun us s1 ⟨vs, H1, I1, r, q⟩ => ⟨I1.kIn, ?_⟩) he hpl
  exact run_make M F hr hb hd hx I1 r q
end
structure FnScope (N P : List Str) (sc : Scope) : Prop where
  kind : sc.kind = .function
  co : sc.isCoroutine = false
  gen : sc.isGenerator = false
  nd : N.Nodup
  pre : N.take P.length = P
  par : ∀ x ∈ P, sc.names.lookup x = some .local \/ sc.names.lookup x = some .cell
  nofree : ∀ y ∈ sc.names, y.2 ≠ .free
theorem bindL_out {kindOf : Str -> Option NameKind} {x : Str} : ∀ {binds : List (Str × Value)} {m : Str -> Option Value}, (∀ v, (x, v) ∉ binds) -> bindL kindOf binds m x = m x
  | [], _, _ => rfl
  | (n, v) :: r, m, h => by
    unfold bindL
    rw [bindL_out fun w hw => h w (List.mem_cons_of_mem _ hw)]
    split
    · have : x ≠ n := by rintro rfl; exact h v List.mem_cons_self
      simp [this]
    · rfl
theorem bindC_out {kindOf : Str -> Option NameKind} {x : Str} : ∀ {binds : List (Str × Value)} {m : Str -> Option Value}, (∀ v, (x, v) ∉ binds) -> bindC kindOf binds m x = m x
  | [], _, _ => rfl
  | (n, v) :: r, m, h => by
    unfold bindC
    rw [bindC_out fun w hw => h w (List.mem_cons_of_mem _ hw)]
    split
    · rfl
    · have : x ≠ n := by rintro rfl; exact h v List.mem_cons_self
      simp [this]
theorem bindL_get {kindOf : Str -> Option NameKind} {x : Str} {v : Value} : ∀ {P : List Str} {vs : List Value} {i : Nat} {m : Str -> Option Value}, P.Nodup -> P[i]? = some x -> vs[i]? = some v -> kindOf x = some .local ->
    bindL kindOf (P.zip vs) m x = some v
  | [], _, _, _, _, h, _, _ => by simp at h
  | _ :: _, [], _, _, _, _, h, _ => by simp at h
  | p :: P, w :: vs, 0, m, nd, h1, h2, hk => by
    simp at h1 h2; subst h1; subst h2
    show bindL kindOf ((p, w) :: P.zip vs) m p = _
    unfold bindL
    rw [bindL_out fun v hv => (List.nodup_cons.mp nd).1 (List.of_mem_zip hv).1, if_pos hk]
    simp
  | p :: P, w :: vs, i + 1, m, nd, h1, h2, hk => by
    show bindL kindOf ((p, w) :: P.zip vs) m x = _
    unfold bindL
    exact bindL_get (i := i) (List.nodup_cons.mp nd).2 (by simpa using h1) (by simpa using h2) hk
theorem bindC_get {kindOf : Str -> Option NameKind} {x : Str} {v : Value} : ∀ {P : List Str} {vs : List Value} {i : Nat} {m : Str -> Option Value}, P.Nodup -> P[i]? = some x -> vs[i]? = some v -> kindOf x ≠ some .local ->
    bindC kindOf (P.zip vs) m x = some v
  | [], _, _, _, _, h, _, _ => by simp at h
  | _ :: _, [], _, _, _, _, h, _ => by simp at h
  | p :: P, w :: vs, 0, m, nd, h1, h2, hk => by
    simp at h1 h2; subst h1; subst h2
    show bindC kindOf ((p, w) :: P.zip vs) m p = _
    unfold bindC
    rw [bindC_out fun v hv => (List.nodup_cons.mp nd).1 (List.of_mem_zip hv).1, if_neg hk]
    simp
  | p :: P, w :: vs, i + 1, m, nd, h1, h2, hk => by
    show bindC kindOf ((p, w) :: P.zip vs) m x = _
    unfold bindC
    exact bindC_get (i := i) (List.nodup_cons.mp nd).2 (by simpa using h1) (by simpa using h2) hk
noncomputable def start (N : List Str) (vs : List V) : St := vs.map some ++ List.replicate (N.length - vs.length) none
noncomputable def cxOf (CX : CXT) (P : Program) (w : World) (K : PySem.W.Frag) (mg : Str -> Option Value) (base : Heap) (N : List Str) (qual : Str) (scope : Scope) (f : Addr) (cd : Value) (A : Around) (outer : List Env) (s : Shared) (H : Hp) (E : XK) : Cx where
  prog := P
  w := w
  K := K
  mg := mg
  base := base
  A := A.deeper (envOfC qual scope s.heap.objs.size f cd)
  N := N
  s₀ := s
  H₀ := H
  env := envOfC qual scope s.heap.objs.size f cd
  outer := outer
  stack := envOfC qual scope s.heap.objs.size f cd :: outer
  ex := []
  calm := true
  fn := fun _ => true
  pn := []
  xe := fun e s' => wpAny (model P w) (A.deeper (envOfC qual scope s.heap.objs.size f cd)) (leaving (envOfC qual scope s.heap.objs.size f cd) e) (fun _ s'' => CX outer H s E e s'') (fun e' s'' => CX outer H s E e' s'') s'
theorem cell_has {sc : Scope} {n : Nat} {x : Str} (h : sc.names.lookup x = some .cell) : ∃ c, (cellsFrom n sc.names []).lookup x = some c := by
  have q := PySem.W.cellsFrom_some sc.names n [] (.inl h)
  exact Option.isSome_iff_exists.mp q
theorem inv_start {CX : CXT} {P : Program} {w : World} {K : PySem.W.Frag} {mg : Str -> Option Value} {base : Heap} {N ps : List Str} {qual : Str} {scope : Scope} {f : Addr} {cd : Value} {A : Around} {outer : List Env} {s s1 : Shared} {H : Hp} {E : XK} {us : List Value} {vs : List V}
    (S : FnScope N ps scope) (hd : A.handled = none) (e0 : Env0 P w K mg base A outer s H) (hl : vs.length = ps.length) (r : Vals vs us)
    (x : InCallC s s.heap.objs.size (bindL (envOfC qual scope s.heap.objs.size f cd).kindOf (ps.zip us) fun _ => none) (cellsFrom (s.heap.objs.size + 1) scope.names []) (bindC (envOfC qual scope s.heap.objs.size f cd).kindOf (ps.zip us) fun _ => none) s1) :
    Inv (cxOf CX P w K mg base N qual scope f cd A outer s H E) [] (start N vs) H s1 := by
  have hpl : ps.length <= N.length := by have := congrArg List.length S.pre; rw [List.length_take] at this; omega
  obtain ⟨h1, tk, rfl, hk⟩ := x.done
  have noA : ∀ b : Addr, b ∉ (cxOf CX P w K mg base N qual scope f cd A outer s H E).ex := fun b z => absurd (show b ∈ ([] : List Addr) from z) (by simp)
  refine ⟨⟨e0.mod, S.kind, rfl, rfl, Nat.le_refl _, fun y z c h1 h2 => ?_, fun y hy => ?_, fun y c _ h => ?_, fun _ => hd, Around.frames_deeper e0.frames, .inr ⟨rfl, rfl⟩, fun b z => absurd z (noA b), e0.bs, e0.bsz, fun b _ _ => noA b, fun b z => absurd z (noA b), e0.funs, e0.frf⟩,
    rfl, e0.bare, Un.kept hk, ⟨_, x.toInCall.ns, fun i y v h1 h2 h3 => ?_⟩, fun y c h => ⟨_, x.cell y c h⟩, e0.hok.fresh (Nat.le_refl _), fun y c h => ?_, fun p hp => absurd (show p ∈ ([] : List (Addr × Obj)) from hp) (by simp), e0.hok.kept hk, ?_⟩
  · exact name_of_addr x.apart (PySem.mem_of_lookup h1) (PySem.mem_of_lookup h2)
  · have hy : scope.names.lookup y = some .cell \/ scope.names.lookup y = some .free := hy
    rcases hy with hy | hy
    · exact cell_has hy
    · exact absurd rfl (S.nofree _ (PySem.mem_of_lookup hy))
  · exact Nat.le_of_lt (x.above y c (PySem.mem_of_lookup h))
  · have hi : i < vs.length := by
      unfold start at h2
      by_cases hi : i < vs.length
      · exact hi
      · rw [List.getElem?_append_right (by simpa using hi)] at h2
        rw [List.getElem?_replicate] at h2
        split at h2 <;> cases h2
    have ha : vs[i]? = some v := by
      unfold start at h2
      rw [List.getElem?_append_left (by simpa using hi), List.getElem?_map] at h2
      cases e : vs[i]? with
      | none => rw [e] at h2; cases h2
      | some a => rw [e] at h2; cases h2; rfl
    obtain ⟨u, hu, rv⟩ := r.get ha
    have hp : ps[i]? = some y := by
      rw [<- S.pre, List.getElem?_take_of_lt (by omega)]; exact h1
    have ndP : ps.Nodup := by rw [<- S.pre]; exact S.nd.sublist (List.take_sublist _ _)
    refine ⟨u, ⟨rv, fun h => by cases h⟩, ?_⟩
    rcases S.par y (List.mem_of_getElem? hp) with k | k
    · exact .inl ⟨k, bindL_get ndP hp hu k⟩
    · obtain ⟨c, e⟩ := cell_has (n := s.heap.objs.size + 1) k
      refine .inr ⟨.inl k, c, e, ?_⟩
      have q := x.cell y c e
      rw [bindC_get ndP hp hu (by show scope.names.lookup y ≠ _; rw [k]; decide)] at q
      exact q
  · exact e0.hok.fresh (Nat.le_of_lt (x.above y c (PySem.mem_of_lookup h)))
  · unfold start
    show _ = N.length
    rw [List.length_append, List.length_map, List.length_replicate]
    omega
theorem fn_of {CX : CXT} {P : Program} {w : World} {K : PySem.W.Frag} {mg : Str -> Option Value} {base : Heap} {k : Nat} {f : Addr} {name qual : Str} {params : Arguments} {body : List Stmt} {scope : Scope} {dV kV doc pm cdv ct oc : Value} {an od : Option Addr}
    {osl : Array (Option Value)} {N ps : List Str} {sp : Sp} (lk : K.lookup f = some ⟨oc, od, .func (PySem.W.fnOf name qual params body scope dV kV doc pm an cdv ct), osl⟩) (hcd : PySem.W.codeIn K cdv qual = true) (S : FnScope N ps scope)
    (len : ∀ vs H Q E, sp vs H Q E -> vs.length = ps.length)
    (hbody : ∀ (A : Around) (outer : List Env) (s : Shared) (H : Hp) (vs : List V) (Q : VK) (E : XK), Room k (A.deeper (envOfC qual scope s.heap.objs.size f cdv)) -> sp vs H Q E ->
      ∃ t, PSs (cxOf CX P w K mg base N qual scope f cdv A outer s H E) body t /\ t { nx := fun _ H' => Q .non H', rt := Q } (start N vs) H) :
    FnOk P w K mg base CX (k + 1) f (PySem.W.fnOf name qual params body scope dV kV doc pm an cdv ct) ps sp := by
  refine ⟨len, fun A outer s H args us vs Q E hr e0 hb r hsp => ?_⟩
  have hl := len _ _ _ _ hsp
  have KX : K.In s.heap := e0.mod.kin.keeps fun b o e => (e0.bs b o e).1
  have lim : s.heap.NoLimit := e0.mod.nolimit.keeps fun b o e => (e0.bs b o e).1
  have hkind : ∀ y ∈ ps.zip us, scope.names.lookup y.1 = some .local \/ (scope.names.lookup y.1 = some .cell /\ ((cellsFrom (s.heap.objs.size + 1) scope.names []).lookup y.1).isSome = true) := fun ⟨n, v⟩ hy => by
    rcases S.par n (List.of_mem_zip hy).1 with q | q
    · exact .inl q
    · exact .inr ⟨q, PySem.W.cellsFrom_some _ _ _ (.inl q)⟩
  refine codeAny_call_function hr.depth (KX _ _ lk) rfl S.co S.gen rfl (PySem.W.codeRec_of KX hcd) (hb _ _ _ _ ?_)
  refine wpAny_newFunctionEnv_cells S.kind hkind fun env he s1 x => ?_
  subst he
  refine ⟨lim.keeps x.toInCall.keep, codeAny_func ?_⟩
  obtain ⟨t, ht, hq⟩ := hbody A outer s H vs Q E (hr.deeper _) hsp
  have I : Inv (cxOf CX P w K mg base N qual scope f cdv A outer s H E) [] (start N vs) H s1 := inv_start S hr.hd e0 hl r x
  refine wpAny_mono (ht [] s1 (start N vs) H _ I hq) (fun fl s' hs => ?_) fun e s' hs => hs
  have fin : ∀ {σ' : St} {H' : Hp} {v : V} {u : Value}, Inv (cxOf CX P w K mg base N qual scope f cdv A outer s H E) [] σ' H' s' -> RelV v u -> Q v H' -> CE outer P w H s Q u s' :=
    fun {σ' H' v u} J rv q => ⟨v, H', J.os, J.bare, J.base, J.hok, rv, q⟩
  cases fl with
  | ret u =>
    obtain ⟨v, σ', H', J, rv, q⟩ := hs
    exact fin J rv q
  | next =>
    obtain ⟨σ', H', J, q⟩ := hs
    exact fin (v := V.non) (u := Value.none) J rfl q
  | brk =>
    obtain ⟨_, _, _, q⟩ := hs
    exact False.elim q
  | cont =>
    obtain ⟨_, _, _, q⟩ := hs
    exact False.elim q
end L2
namespace L2
open PySem PySem.Spec PyProof.Rows
section
variable {X : Cx} {x : Str} {p pos : Pos} {e : Expr} {es : List Expr} {t : TA} {id T : String} {r : List V -> Hp -> VK -> Prop}
noncomputable def tCB (r : List V -> Hp -> VK -> Prop) (t : TA) : TE := fun σ H Q => t σ H fun vs H1 => r vs H1 Q
theorem pe_callB (hc : CallR X (.builtin id) r) (hg : Gl X x) (hm : X.mg x = none) (hv : bootBuiltins x = some (.builtin id)) (ha : PA X (e :: es) t) (hn : x ≠ "__name__" := by decide) (hdb : (x == ("__debug__" : Str)) = false := by decide)
    (he : starEach (e :: es) X.env = (false, eval e X.env) :: starEach es X.env := by rfl) (hpl : (backTo pos (starEach es X.env)).any (·.1) = false := by rfl) : PE X (.Call (.Name x p) (e :: es) [] pos) (tCB r t) := by
  intro pins s σ H Q I h
  refine wpAny_Call_Name_kw (ld_blt I hg hm hv ?_ hn hdb)
  exact PyProof.Rows.callWith_builtin1 (thn (ha pos pins s σ H _ I h) fun us s1 ⟨vs, H1, I1, r1, q1⟩ => hc pins s1 σ H1 vs us Q I1 r1 q1) he hpl
theorem pe_callTy (hc : CallR X (.type T) r) (hg : Gl X x) (hm : X.mg x = none) (hv : bootBuiltins x = some (.type T)) (ha : PA X (e :: es) t) (hn : x ≠ "__name__" := by decide) (hdb : (x == ("__debug__" : Str)) = false := by decide)
    (he : starEach (e :: es) X.env = (false, eval e X.env) :: starEach es X.env := by rfl) (hpl : (backTo pos (starEach es X.env)).any (·.1) = false := by rfl) : PE X (.Call (.Name x p) (e :: es) [] pos) (tCB r t) := by
  intro pins s σ H Q I h
  refine wpAny_Call_Name_kw (ld_blt I hg hm hv ?_ hn hdb)
  exact PyProof.Rows.callWith_type1 (thn (ha pos pins s σ H _ I h) fun us s1 ⟨vs, H1, I1, r1, q1⟩ => hc pins s1 σ H1 vs us Q I1 r1 q1) he hpl
end
end L2
namespace L2
open PySem PySem.Spec PyProof.Rows
noncomputable abbrev TO := St -> Hp -> (Option Int -> Hp -> Prop) -> Prop
noncomputable def PO (X : Cx) (e : Option Expr) (t : TO) : Prop :=
  ∀ (pins : List (Addr × Obj)) (s : Shared) (σ : St) (H : Hp) (Q : Option Int -> Hp -> Prop), Inv X pins σ H s -> t σ H Q ->
    wpAny (model X.prog X.w) X.A (evalPart e X.env) (fun u s' => ∃ o H', Inv X pins σ H' s' /\ IsPart u o /\ Q o H') X.xe s
noncomputable def tNoPart : TO := fun _ H Q => Q none H
noncomputable def tPart (t : TE) : TO := fun σ H Q => t σ H fun x H1 => IsIn x fun i => Q (some i) H1
section
variable {X : Cx} {e : Expr} {te : TE} {lo hi : Option Expr} {tl th : TO} {pos p2 : Pos}
theorem po_none : PO X none tNoPart := by
  intro pins s σ H Q I h
  rw [evalPart_none]
  exact wpAny_pure ⟨none, H, I, .none, h⟩
theorem po_some (h : PE X e te) : PO X (some e) (tPart te) := by
  intro pins s σ H Q I hw
  rw [evalPart_some]
  refine thn (h pins s σ H _ I hw) fun u s1 ⟨x, H1, I1, r1, q1⟩ => ?_
  obtain ⟨i, rfl, q⟩ := q1
  obtain ⟨t, rfl⟩ := r1
  exact ⟨some i, H1, I1, .int i t, q⟩
noncomputable def SlR (X : Cx) (r : V -> Option Int -> Option Int -> Hp -> VK -> Prop) : Prop :=
  ∀ (pins : List (Addr × Obj)) (s : Shared) (σ : St) (H : Hp) (x : V) (v vl vu : Value) (lo hi : Option Int) (sl : Addr) (Q : VK), Inv X pins σ H s -> RelV x v -> s.heap.IsSliceOf sl vl vu .none -> IsPart vl lo -> IsPart vu hi -> r x lo hi H Q ->
    ∃ T id, typeLookup (.type T) "__getitem__" = pure (some (.builtin id)) /\ s.TypeIs v T /\ wpAny (model X.prog X.w) X.A (getItem v (.ref sl)) (EP X pins σ Q) X.xe s
theorem SlR.or {r r' : V -> Option Int -> Option Int -> Hp -> VK -> Prop} (h : SlR X r) (h' : SlR X r') : SlR X (fun x lo hi H Q => r x lo hi H Q \/ r' x lo hi H Q) := by
  intro pins s σ H x v vl vu lo hi sl Q I rx hs pl pu q
  rcases q with q | q
  · exact h pins s σ H x v vl vu lo hi sl Q I rx hs pl pu q
  · exact h' pins s σ H x v vl vu lo hi sl Q I rx hs pl pu q
noncomputable def tSl (r : V -> Option Int -> Option Int -> Hp -> VK -> Prop) (te : TE) (tl th : TO) : TE := fun σ H Q => te σ H fun x H1 => tl σ H1 fun l H2 => th σ H2 fun u H3 => r x l u H3 Q
theorem pe_slice {r : V -> Option Int -> Option Int -> Hp -> VK -> Prop} (hr : SlR X r) (he : PE X e te) (hl : PO X lo tl) (hu : PO X hi th) : PE X (.Subscript e (.Slice lo hi none p2) pos) (tSl r te tl th) := by
  intro pins s σ H Q I h
  refine Subscript_ (thn (he pins s σ H _ I h) fun v s1 ⟨x, H1, I1, r1, q1⟩ => ?_)
  refine wpAny_Slice (thn (hl pins s1 σ H1 _ I1 q1) fun vl s2 ⟨l, H2, I2, pl, q2⟩ => thn (hu pins s2 σ H2 _ I2 q2) fun vu s3 ⟨u, H3, I3, pu, q3⟩ => ?_)
  rw [evalPart_none]
  refine wpAny_pure ?_
  have I4 : Inv X pins σ H3 { s3 with heap := s3.heap.push { cls := .type "slice", data := .fields #[vl, vu, .none] } } := I3.kept (t' := s3.toks) fun b ob q => Heap.get?_push_of_some _ q
  obtain ⟨T, id, hT, ht, hg⟩ := hr pins { s3 with heap := s3.heap.push { cls := .type "slice", data := .fields #[vl, vu, .none] } } σ H3 x v vl vu l u s3.heap.objs.size Q I4 r1 (Heap.IsSliceOf.new ..) pl pu q3
  show wpAny (model X.prog X.w) X.A (subscriptTail e (.Slice lo hi none p2) v (.ref s3.heap.objs.size)) (EP X pins σ Q) X.xe { s3 with heap := s3.heap.push { cls := .type "slice", data := .fields #[vl, vu, .none] } }
  exact tail_any (ops := [.ref s3.heap.objs.size, v]) ht hT hg (by with_unfolding_all rfl)
end
end L2
namespace L2
open PySem PySem.Spec PyProof.Rows
noncomputable def ixN (n : Nat) (i : Int) : Option Nat := if 0 <= i then (if i < n then some i.toNat else none) else if -(n : Int) <= i then some (i + n).toNat else none
noncomputable def atI {α : Type} (xs : List α) (i : Int) : Option α := (ixN xs.length i).bind fun j => xs[j]?
theorem ixN_seq {n : Nat} {i : Int} {j : Nat} (h : ixN n i = some j) : seqIndex? i n = some j /\ j < n /\ -(n : Int) <= i /\ i < n := by
  unfold ixN at h
  by_cases h0 : 0 <= i
  · rw [if_pos h0] at h
    by_cases h1 : i < n
    · rw [if_pos h1] at h
      have e : i.toNat = j := Option.some.inj h
      exact ⟨by rw [seqIndex_of h0 h1, e], by omega, by omega, h1⟩
    · rw [if_neg h1] at h; cases h
  · rw [if_neg h0] at h
    by_cases h1 : -(n : Int) <= i
    · rw [if_pos h1] at h
      have e : (i + n).toNat = j := Option.some.inj h
      exact ⟨by rw [seqIndex_neg (by omega) h1, e], by omega, h1, by omega⟩
    · rw [if_neg h1] at h; cases h
theorem atI_get {α : Type} {xs : List α} {i : Int} {v : α} (h : atI xs i = some v) : ∃ j, seqIndex? i xs.length = some j /\ xs[j]? = some v /\ j < xs.length /\ -(xs.length : Int) <= i /\ i < xs.length := by
  unfold atI at h
  cases e : ixN xs.length i with
  | none => rw [e] at h; cases h
  | some j =>
    rw [e] at h
    obtain ⟨h1, h2, h3, h4⟩ := ixN_seq e
    exact ⟨j, h1, h, h2, h3, h4⟩
theorem atI_nat {α : Type} {xs : List α} {j : Nat} {v : α} (h : xs[j]? = some v) : atI xs (j : Int) = some v := by
  have hj : j < xs.length := (List.getElem?_eq_some_iff.mp h).1
  have e : ixN xs.length (j : Int) = some j := by
    unfold ixN
    rw [if_pos (by omega), if_pos (by omega)]; simp
  unfold atI; rw [e]; exact h
theorem atI_last {α : Type} (xs : List α) (v : α) : atI (xs ++ [v]) (-1) = some v := by
  have hl : (xs ++ [v]).length = xs.length + 1 := by simp
  have e : ixN (xs ++ [v]).length (-1) = some xs.length := by
    unfold ixN
    rw [hl, if_neg (by decide), if_pos (by omega)]
    congr 1
    omega
  unfold atI
  rw [e]
  show (xs ++ [v])[xs.length]? = some v
  simp
noncomputable def PlainIx (b : Expr) : Prop := ∀ o i, subscripted b false o i = operate [o, i] (getItem o i)
noncomputable def IxR (X : Cx) (r : R2) : Prop :=
  ∀ (value slice : Expr) (pins : List (Addr × Obj)) (s : Shared) (σ : St) (H : Hp) (x y : V) (v u : Value) (Q : VK), Inv X pins σ H s -> RelV x v -> RelV y u -> r x y H Q ->
    subscripted slice false v u = operate [v, u] (getItem v u) -> wpAny (model X.prog X.w) X.A (subscriptTail value slice v u) (EP X pins σ Q) X.xe s
noncomputable def MtR (X : Cx) (id : String) (r : V -> List V -> Hp -> VK -> Prop) : Prop :=
  ∀ (pins : List (Addr × Obj)) (s : Shared) (σ : St) (H : Hp) (x : V) (xs : List V) (v : Value) (us : List Value) (Q : VK), Inv X pins σ H s -> RelV x v -> Vals xs us -> r x xs H Q ->
    wpAny (model X.prog X.w) X.A (call (.builtin id) (v :: us)) (EP X pins σ Q) X.xe s
section
variable {X : Cx} {a b : Expr} {ta tb : TE} {pos : Pos}
theorem IxR.or {r r' : R2} (h : IxR X r) (h' : IxR X r') : IxR X (fun x y H Q => r x y H Q \/ r' x y H Q) := by
  intro value slice pins s σ H x y v u Q I rx ry q hs
  rcases q with q | q
  · exact h value slice pins s σ H x y v u Q I rx ry q hs
  · exact h' value slice pins s σ H x y v u Q I rx ry q hs
theorem MtR.or {id : String} {r r' : V -> List V -> Hp -> VK -> Prop} (h : MtR X id r) (h' : MtR X id r') : MtR X id (fun x xs H Q => r x xs H Q \/ r' x xs H Q) := by
  intro pins s σ H x xs v us Q I rx rs q
  rcases q with q | q
  · exact h pins s σ H x xs v us Q I rx rs q
  · exact h' pins s σ H x xs v us Q I rx rs q
theorem pe_ix {r : R2} (hr : IxR X r) (ha : PE X a ta) (hb : PE X b tb) (hs : PlainIx b) : PE X (.Subscript a b pos) (tOp r ta tb) := by
  intro pins s σ H Q I h
  exact Subscript_ (binT ha hb I h fun v u s2 x y H2 I2 rx ry q => hr a b pins s2 σ H2 x y v u Q I2 rx ry q (hs _ _))
noncomputable def rIxL (K : PySem.W.Frag) : R2 := fun x y H Q => Ex4 fun p xs i v => x = .ref p /\ y = .int i /\ SqL K H p xs /\ atI xs i = some v /\ Q v H
noncomputable def rIxT (K : PySem.W.Frag) : R2 := fun x y H Q => Ex4 fun p xs i v => x = .ref p /\ y = .int i /\ SqT K H p xs /\ atI xs i = some v /\ Q v H
noncomputable def rIxS : R2 := fun x y H Q => Ex3 fun z i c => x = .str z /\ y = .int i /\ z.length <= sizeLine /\ atI z.cps.toList i = some c /\ Q (.str ⟨#[c]⟩) H
theorem ix_list : IxR X (rIxL X.K) := by
  intro value slice pins s σ H x y v u Q I rx ry h hs
  obtain ⟨p, xs, i, z, rfl, rfl, hq, he, q⟩ := h
  cases rx
  obtain ⟨t, rfl⟩ := ry
  obtain ⟨its, r, pl, hz⟩ := I.list hq
  obtain ⟨j, h1, h2, h3, h4, h5⟩ := atI_get he
  obtain ⟨w, ew, rw'⟩ := r.get h2
  have hl := r.length
  have hn := line63
  have fin : EP X pins σ Q w s := ⟨z, H, I, rw', q⟩
  by_cases h0 : 0 <= i
  · have hj : i.toNat = j := by
      rw [seqIndex_of h0 h5] at h1
      exact Option.some.inj h1
    exact item_listR pl.isList h0 (by omega) (by rw [hj]; simpa using ew) fin hs
  · have hj : (i + (its.toArray.size : Int)).toNat = j := by
      rw [seqIndex_neg (by omega) h4] at h1
      rw [List.size_toArray, <- hl]
      exact Option.some.inj h1
    exact subscriptTail_builtinR (x := w) pl.isList.typeIs slot_list_getitem.lookup
      (wpAny_getItem_list_neg (Q := fun r s' => r = w /\ EP X pins σ Q r s') pl.isList (by omega) (by rw [List.size_toArray] <;> omega) (by omega) (by rw [hj]; simpa using ew) ⟨rfl, fin⟩) hs
theorem ix_tup : IxR X (rIxT X.K) := by
  intro value slice pins s σ H x y v u Q I rx ry h hs
  obtain ⟨p, xs, i, z, rfl, rfl, hq, he, q⟩ := h
  cases rx
  obtain ⟨t, rfl⟩ := ry
  obtain ⟨its, r, pl, hz⟩ := I.tuple hq
  obtain ⟨j, h1, h2, h3, h4, h5⟩ := atI_get he
  obtain ⟨w, ew, rw'⟩ := r.get h2
  have hl := r.length
  have hn := line63
  have fin : EP X pins σ Q w s := ⟨z, H, I, rw', q⟩
  exact subscriptTail_builtinR (x := w) pl.typeIs slot_tuple_getitem.lookup
    (getItem_tuple (j := j) (Q := fun r s' => r = w /\ EP X pins σ Q r s') pl (by omega) (by omega) (by rw [List.size_toArray, <- hl]; exact h1) (by simpa using ew) ⟨rfl, fin⟩) hs
theorem ix_str : IxR X rIxS := by
  intro value slice pins s σ H x y v u Q I rx ry h hs
  obtain ⟨z, i, c, rfl, rfl, hz, he, q⟩ := h
  obtain ⟨t, rfl⟩ := rx
  obtain ⟨t', rfl⟩ := ry
  obtain ⟨j, h1, h2, h3, h4, h5⟩ := atI_get he
  have hl : z.cps.toList.length = z.length := by simp [Str.length]
  rw [hl] at h1 h4 h5
  have hn := line63
  exact tail_any (typeIs_str s z t) slot_str_getitem.lookup (getItem_str (c := c) (by
    have e1 : decide (i < -(2 ^ 63 : Int)) = false := decide_eq_false (by omega)
    have e2 : decide (i ≥ 2 ^ 63) = false := decide_eq_false (by omega)
    rw [e1, e2, Bool.or_false]) (by rw [h1]; simpa using h2) ⟨.str ⟨#[c]⟩, H, I.tok _, ⟨_, rfl⟩, q⟩) hs
theorem Inv.lst {pins : List (Addr × Obj)} {σ : St} {H : Hp} {s : Shared} {p : Addr} {xs : List V} (I : Inv X pins σ H s) (h : H p = some (.lst xs)) :
    ∃ (its : List Value) (n : Nat), Vals xs its /\ s.heap.get? p = some { cls := .type "list", data := .seq its.toArray n } /\ xs.length <= sizeLine := by
  obtain ⟨z, its, n, r, e⟩ := I.hok p _ h
  exact ⟨its, n, r, e, z⟩
noncomputable def flatV : V -> Bool
  | .non => true
  | .bl _ => true
  | .int _ => true
  | .str _ => true
  | _ => false
noncomputable def eqV : V -> V -> Bool
  | .non, .non => true
  | .bl a, .bl b => a == b
  | .bl a, .int b => (if a then 1 else 0) == b
  | .int a, .bl b => a == (if b then 1 else 0)
  | .int a, .int b => a == b
  | .str a, .str b => a == b
  | _, _ => false
theorem eqAt_V {A : Around} {s : Shared} {y x : V} {u v : Value} (ry : RelV y u) (rx : RelV x v) (fy : flatV y = true) (fx : flatV x = true) : SeqAt.EqAt A s u v (eqV y x) := by
  cases y with
  | non =>
    cases ry
    cases x with
    | non => cases rx; exact SeqAt.EqAt.same _
    | bl b => cases rx; exact SeqAt.EqAt.none_bool b
    | int b => obtain ⟨t, rfl⟩ := rx; exact SeqAt.EqAt.none_int b t
    | str b => obtain ⟨t, rfl⟩ := rx; exact SeqAt.EqAt.none_str b t
    | _ => exact absurd (show false = true from fx) Bool.false_ne_true
  | bl a =>
    cases ry
    cases x with
    | non => cases rx; exact SeqAt.EqAt.bool_none a
    | bl b => cases rx; exact SeqAt.EqAt.bool_bool a b
    | int b => obtain ⟨t, rfl⟩ := rx; exact SeqAt.EqAt.bool_int a b t
    | str b => obtain ⟨t, rfl⟩ := rx; exact SeqAt.EqAt.bool_str a b t
    | _ => exact absurd (show false = true from fx) Bool.false_ne_true
  | int a =>
    obtain ⟨t', rfl⟩ := ry
    cases x with
    | non => cases rx; exact SeqAt.EqAt.int_none a t'
    | bl b => cases rx; exact SeqAt.EqAt.int_bool a t' b
    | int b => obtain ⟨t, rfl⟩ := rx; exact SeqAt.EqAt.int_int a t' b t
    | str b => obtain ⟨t, rfl⟩ := rx; exact SeqAt.EqAt.int_str a t' b t
    | _ => exact absurd (show false = true from fx) Bool.false_ne_true
  | str a =>
    obtain ⟨t', rfl⟩ := ry
    cases x with
    | non => cases rx; exact SeqAt.EqAt.str_none a t'
    | bl b => cases rx; exact SeqAt.EqAt.str_bool a t' b
    | int b => obtain ⟨t, rfl⟩ := rx; exact SeqAt.EqAt.str_int a t' b t
    | str b => obtain ⟨t, rfl⟩ := rx; exact SeqAt.EqAt.str_str a t' b t
    | _ => exact absurd (show false = true from fx) Bool.false_ne_true
  | _ => exact absurd (show false = true from fy) Bool.false_ne_true
theorem call_len_seq : CallR X (.builtin "len") (fun xs H Q => Ex2 fun p ys => xs = [.ref p] /\ (SqL X.K H p ys \/ SqT X.K H p ys) /\ Q (.int ys.length) H) := by
  intro pins s σ H xs us Q I r h
  obtain ⟨p, ys, rfl, hq, q⟩ := h
  obtain ⟨u, rfl, rx⟩ := vals1 r
  cases rx
  have hn := line63
  rcases hq with hq | hq
  · obtain ⟨its, r', pl, hz⟩ := I.list hq
    have hlen := r'.length
    exact Calls.call_len_list pl.isList (by simp only [List.size_toArray] <;> omega) ⟨.int ys.length, H, I.tok _, ⟨s.toks + 1, by rw [List.size_toArray, hlen]⟩, q⟩
  · obtain ⟨its, r', pl, hz⟩ := I.tuple hq
    have hlen := r'.length
    exact len_tuple pl (by simp only [List.size_toArray] <;> omega) ⟨.int ys.length, H, I.tok _, ⟨s.toks + 1, by rw [List.size_toArray, hlen]⟩, q⟩
theorem call_len_str : CallR X (.builtin "len") (fun xs H Q => ∃ z, xs = [.str z] /\ z.length <= sizeLine /\ Q (.int z.length) H) := by
  intro pins s σ H xs us Q I r h
  obtain ⟨z, rfl, hz, q⟩ := h
  obtain ⟨u, rfl, t, rfl⟩ := vals1 r
  have hn := line63
  exact len_str (by omega) ⟨.int z.length, H, I.tok _, ⟨_, rfl⟩, q⟩
theorem CallR.or {f : Value} {r r' : List V -> Hp -> VK -> Prop} (h : CallR X f r) (h' : CallR X f r') : CallR X f (fun xs H Q => r xs H Q \/ r' xs H Q) := by
  intro pins s σ H xs us Q I rs q
  rcases q with q | q
  · exact h pins s σ H xs us Q I rs q
  · exact h' pins s σ H xs us Q I rs q
noncomputable def tyV (K : PySem.W.Frag) (T : String) (x : V) (H : Hp) : Prop := match x with
  | .str _ => T = "str"
  | .int _ => T = "int"
  | .ref p => (T = "list" /\ ∃ xs, SqL K H p xs) \/ (T = "tuple" /\ ∃ o, K.lookup p = some o /\ o.cls = .type "tuple" /\ o.dict = none) \/
      (T = "dict" /\ ((∃ kvs, H p = some (.dK kvs)) \/ ∃ kvs, H p = some (.dT kvs))) \/ (T = "set" /\ ∃ S n, H p = some (.set S n))
  | _ => False
theorem tyV_is {pins : List (Addr × Obj)} {σ : St} {H : Hp} {s : Shared} {T : String} {x : V} {v : Value} (I : Inv X pins σ H s) (r : RelV x v) (ty : tyV X.K T x H) :
    s.TypeIs v T /\ ∀ a, v = .ref a -> ∃ ob, s.heap.get? a = some ob /\ ob.dict = none := by
  cases x with
  | str z =>
    obtain ⟨t, rfl⟩ := r
    cases (show T = "str" from ty)
    exact ⟨typeIs_str s z t, fun _ e => nomatch e⟩
  | int i =>
    obtain ⟨t, rfl⟩ := r
    cases (show T = "int" from ty)
    exact ⟨typeIs_int s i t, fun _ e => nomatch e⟩
  | ref p =>
    cases r
    rcases ty with ⟨rfl, xs, hq⟩ | ⟨rfl, o, hk, hc, hd⟩ | ⟨rfl, hk⟩ | ⟨rfl, S, n, hk⟩
    · obtain ⟨its, _, pl, _⟩ := I.list hq
      refine ⟨pl.isList.typeIs, fun a e => ?_⟩
      cases e
      obtain ⟨o, n, e, c, hd, _⟩ := pl
      exact ⟨o, e, hd⟩
    · refine ⟨⟨o, I.kIn p o hk, hc⟩, fun a e => ?_⟩
      cases e
      exact ⟨o, I.kIn _ o hk, hd⟩
    · have z : ∃ o, s.heap.get? p = some o /\ o.ExactDict := by
        rcases hk with ⟨kvs, hk⟩ | ⟨kvs, hk⟩
        · obtain ⟨_, _, _, _, o, _, _, e, ex, _⟩ := I.hok p _ hk
          exact ⟨o, e, ex⟩
        · obtain ⟨_, _, _, _, o, _, _, e, ex, _⟩ := I.hok p _ hk
          exact ⟨o, e, ex⟩
      obtain ⟨o, e, ex⟩ := z
      refine ⟨⟨o, e, ex.1⟩, fun a e2 => ?_⟩
      cases e2
      exact ⟨o, e, ex.2.1⟩
    · obtain ⟨o, _, _, _, e, ex, _⟩ := I.hok p _ hk
      refine ⟨⟨o, e, ex.1⟩, fun a e2 => ?_⟩
      cases e2
      exact ⟨o, e, ex.2.1⟩
  | _ => exact False.elim ty
noncomputable def tBM (K : PySem.W.Frag) (T : String) (r : V -> List V -> Hp -> VK -> Prop) (to : TE) (t : TA) : TE := fun σ H Q => to σ H fun x H1 => tyV K T x H1 /\ t σ H1 fun xs H2 => r x xs H2 Q
variable {o e : Expr} {es : List Expr} {to : TE} {t : TA} {name : Str} {apos cpos : Pos} {T id : String} {r : V -> List V -> Hp -> VK -> Prop}
theorem pe_bm (pa : PlainAttrs T) (slot : Slot T name id) (hty : typeOf (.builtin id) = pure (.type "method_descriptor")) (hm : MtR X id r) (ho : PE X o to) (ha : PA X (e :: es) t)
    (hbase : attributeBase o name X.env (eval o X.env) = eval o X.env := by rfl)
    (hfew : ((backTo cpos (starEach (e :: es) X.env)).all (fun x => !x.1) && (backToKw cpos (keywordEach [] X.env)).all (fun x => x.1.isSome)
      && decide ((e :: es).length + ([] : List Keyword).length + (if ([] : List Keyword).isEmpty then 0 else 1) < 30)) = true := by rfl)
    (hline : (apos.endLine == cpos.line) = true := by rfl) (hs : starEach (e :: es) X.env = (false, eval e X.env) :: starEach es X.env := by rfl) (hplain : (backTo cpos (starEach es X.env)).any (·.1) = false := by rfl) :
    PE X (.Call (.Attribute o name apos) (e :: es) [] cpos) (tBM X.K T r to t) := by
  intro pins s σ H Q I h
  refine wpAny_Call_method_late hbase hfew hline rfl (thn (ho pins s σ H _ I h) fun v s1 ⟨x, H1, I1, r1, ty, q1⟩ => ?_)
  obtain ⟨h1, h2⟩ := tyV_is I1 r1 ty
  refine ⟨T, id, pa, slot, hty, h1, h2, ?_⟩
  have hA := ha cpos pins s1 σ H1 _ I1 q1
  rw [hs] at hA ⊢
  refine Calls.callWith_builtin (by show (false || (backTo cpos (starEach es X.env)).any (·.1)) = false; rw [hplain] <;> rfl) (Calls.evalArgs_plain ?_)
  exact thn hA fun us s2 ⟨vs, H2, I2, r2, q2⟩ => hm pins s2 σ H2 x vs v us Q I2 r1 r2 q2
/- xs.append(e), list.index on a module's tuple .. are MtR facts of 06m -/
end
end L2
namespace L2
open PySem PySem.Spec PyProof.Rows
noncomputable def MtM (X : Cx) (id : String) (r : V -> List V -> Hp -> VK -> Prop) : Prop :=
  ∀ (pins : List (Addr × Obj)) (s : Shared) (σ : St) (H : Hp) (x : V) (xs : List V) (v : Value) (us : List Value) (Q : VK), Inv X pins σ H s -> RelV x v -> Vals xs us -> r x xs H Q ->
    wpAny (model X.prog X.w) X.A (call (.builtin id) (v :: us)) (EP X pins σ Q) X.xe s
theorem Vals.one : ∀ {x : V} {us : List Value}, Vals [x] us -> ∃ u, us = [u] /\ RelV x u
  | _, _, .cons r .nil => ⟨_, rfl, r⟩
theorem Vals.two : ∀ {x y : V} {us : List Value}, Vals [x, y] us -> ∃ u v, us = [u, v] /\ RelV x u /\ RelV y v
  | _, _, _, .cons r (.cons q .nil) => ⟨_, _, rfl, r, q⟩
theorem Vals.zero : ∀ {us : List Value}, Vals [] us -> us = []
  | _, .nil => rfl
theorem Vals.dropLast {xs : List V} {us : List Value} (h : Vals xs us) : Vals xs.dropLast us.dropLast := by
  induction h with
  | nil => exact .nil
  | cons r t ih =>
    cases t with
    | nil => exact .nil
    | cons q t' => exact .cons r ih
theorem Vals.eraseIdx : ∀ {xs : List V} {us : List Value} (i : Nat), Vals xs us -> Vals (xs.eraseIdx i) (us.eraseIdx i)
  | _, _, _, .nil => .nil
  | _, _, 0, .cons _ t => t
  | _, _, i + 1, .cons r t => .cons r (Vals.eraseIdx i t)
theorem Vals.rep {xs : List V} {us : List Value} (h : Vals xs us) : ∀ k : Nat, Vals (List.replicate k xs).flatten (List.replicate k us).flatten
  | 0 => .nil
  | k + 1 => by
    rw [List.replicate_succ, List.replicate_succ, List.flatten_cons, List.flatten_cons]
    exact Vals.append h (Vals.rep h k)
theorem foldl_rep (its : List Value) : ∀ (k : Nat) (acc : List Value),
    List.foldl (fun x1 x2 => x1 ++ x2) acc.toArray (List.replicate k its.toArray) = (acc ++ (List.replicate k its).flatten).toArray
  | 0, acc => by simp
  | k + 1, acc => by
    have e : acc.toArray ++ its.toArray = (acc ++ its).toArray := by simp
    have e2 : (acc ++ its) ++ (List.replicate k its).flatten = acc ++ (List.replicate (k + 1) its).flatten := by
      rw [List.replicate_succ, List.flatten_cons, List.append_assoc]
    rw [<- e2, <- foldl_rep its k (acc ++ its), <- e, List.replicate_succ, List.foldl_cons]
section
variable {X : Cx} {pins : List (Addr × Obj)} {σ : St} {H : Hp} {s : Shared} {l b : Addr} {xs ys zs : List V}
theorem Inv.lset {its its' : List Value} {n : Nat} {f : Array Value -> Array Value} {t' : Nat} (I : Inv X pins σ H s) (hH : H l = some (.lst xs))
    (e : s.heap.get? l = some { cls := .type "list", data := .seq its.toArray n }) (hf : f its.toArray = its'.toArray) (hv : Vals ys its') (hz : ys.length <= sizeLine) :
    Inv X pins σ (upd H l (.lst ys)) { s with heap := s.heap.update l (Obj.mapSeq f), toks := t' } := by
  have q := PySem.IsL.update e f
  rw [hf] at q
  refine I.write (x := l) (e := l) (by rw [hH]; exact trivial) (.inl rfl) (fun b' u hb hu => (Heap.get?_update_other s.heap (Obj.mapSeq f) (Ne.symm hb)).trans hu) ⟨_, q⟩ ?_
  exact ⟨hz, its', _, hv, q⟩
theorem Inv.lnew {its : List Value} {t' : Nat} (I : Inv X pins σ H s) (hv : Vals ys its) (hz : ys.length <= sizeLine) :
    Inv X pins σ (upd H s.heap.objs.size (.lst ys)) { s with heap := s.heap.push { cls := .type "list", data := .seq its.toArray }, toks := t' } :=
  I.laid (fun _ _ q => Heap.get?_push_of_some _ q) (Nat.le_refl _) ⟨hz, its, 0, hv, Heap.get?_push_size _ rfl⟩
theorem Inv.fresh (I : Inv X pins σ H s) : H s.heap.objs.size = none := I.hok.fresh (Nat.le_refl _)
theorem Inv.lstM (I : Inv X pins σ H s) (hH : H l = some (.lst xs)) : xs.length <= sizeLine /\ ∃ (its : List Value) (n : Nat), Vals xs its /\ xs.length = its.length /\ s.heap.get? l = some { cls := .type "list", data := .seq its.toArray n } := by
  obtain ⟨z, its, n, r, e⟩ := I.hok l _ hH
  exact ⟨z, its, n, r, r.length, e⟩
theorem notLongL {n : Nat} (h : n <= sizeLine) : Builtin.List.listTooLong n = false := by
  unfold Builtin.List.listTooLong
  exact decide_eq_false (by omega)
end
section
variable {X : Cx}
noncomputable def rAppend : V -> List V -> Hp -> VK -> Prop := fun x vs H Q => Ex3 fun l xs y => x = .ref l /\ vs = [y] /\ H l = some (.lst xs) /\ xs.length < sizeLine /\ Q .non (upd H l (.lst (xs ++ [y])))
theorem mt_append : MtM X "list.append" rAppend := by
  intro pins s σ H x vs v us Q I rx rv h
  obtain ⟨l, xs, y, rfl, rfl, hH, hz, q⟩ := h
  cases rx
  obtain ⟨u, rfl, ru⟩ := rv.one
  obtain ⟨z, its, n, r, hl, e⟩ := I.lstM hH
  refine call_meets F.slot_list_append ⟨_, e, rfl⟩ F.entry_list_append (F.args_list_append_2 _ _) (PySem.list_append l its.toArray n u (by rw [List.size_toArray]; omega)) ⟨e, ?_⟩
  refine ⟨.non, _, I.lset (its' := its ++ [u]) hH e (by simp) (r.append (.cons ru .nil)) ?_, rfl, q⟩
  rw [List.length_append, List.length_singleton]
  omega
noncomputable def rCat : R2 := fun x y H Q => Ex4 fun l b xs zs => x = .ref l /\ y = .ref b /\ H l = some (.lst xs) /\ H b = some (.lst zs) /\ xs.length + zs.length <= sizeLine /\ ∀ p, H p = none -> Q (.ref p) (upd H p (.lst (xs ++ zs)))
theorem op_cat : OpR X (binaryOp .Add) rCat := by
  intro pins s σ H x y v u Q I rx ry h
  obtain ⟨l, b, xs, zs, rfl, rfl, hH, hB, hz, q⟩ := h
  cases rx
  cases ry
  obtain ⟨z, its, n, r, hl, e⟩ := I.lstM hH
  obtain ⟨z2, its2, n2, r2, hl2, e2⟩ := I.lstM hB
  refine PySem.P.add_list e e2 ?_ (by rw [List.size_toArray, List.size_toArray]; omega)
  have ea : its.toArray ++ its2.toArray = (its ++ its2).toArray := by simp
  rw [ea]
  exact ⟨.ref _, _, I.lnew (t' := s.toks) (r.append r2) (by rw [List.length_append]; omega), rfl, q _ I.fresh⟩
noncomputable def rRep : R2 := fun x y H Q => Ex3 fun l k xs => x = .ref l /\ y = .int k /\ H l = some (.lst xs) /\ -(2 ^ 63) <= k /\ k < 2 ^ 63 /\ xs.length * k.toNat <= sizeLine /\
  ∀ p, H p = none -> Q (.ref p) (upd H p (.lst (List.replicate k.toNat xs).flatten))
theorem len_rep {α : Type} (xs : List α) (k : Nat) : (List.replicate k xs).flatten.length = k * xs.length := by
  induction k with
  | zero => simp
  | succ k ih => rw [List.replicate_succ, List.flatten_cons, List.length_append, ih, Nat.succ_mul, Nat.add_comm]
theorem op_rep : OpR X (binaryOp .Mult) rRep := by
  intro pins s σ H x y v u Q I rx ry h
  obtain ⟨l, k, xs, rfl, rfl, hH, h1, h2, hz, q⟩ := h
  cases rx
  obtain ⟨t, rfl⟩ := ry
  obtain ⟨z, its, n, r, hl, e⟩ := I.lstM hH
  have hlen : its.toArray.size * k.toNat <= sizeLine := by rw [List.size_toArray, <- hl]; exact hz
  have hcap : ¬ its.toArray.size * k.toNat > (2 ^ 63 - 1) / 8 := by
    have : (sizeLine : Nat) <= (2 ^ 63 - 1) / 8 := by decide
    omega
  have hfit : ¬ (!Builtin.List.listFitsIndex k) = true := by
    rw [fitsIndex_both h1 h2]
    exact Bool.false_ne_true
  have hlong : ¬ Builtin.List.listTooLong (its.toArray.size * k.toNat) = true := by
    rw [notLongL hlen]
    exact Bool.false_ne_true
  have hnew : List.foldl (fun x1 x2 => x1 ++ x2) #[] (List.replicate (if its.toArray.isEmpty = true then 0 else k.toNat) its.toArray) = (List.replicate k.toNat its).flatten.toArray := by
    have f0 : ∀ m : Nat, List.foldl (fun x1 x2 => x1 ++ x2) #[] (List.replicate m its.toArray) = (List.replicate m its).flatten.toArray := fun m => by
      have := foldl_rep its m []
      rw [List.nil_append] at this
      exact this
    rw [f0]
    cases its with
    | nil => simp
    | cons a r' => rw [if_neg (by simp)]
  refine wpAny_binaryOp_repeat_ref (T := "list") (U := "int") (by decide) ⟨_, e, rfl⟩ (fun s' => typeIs_int s' k t) noFill_list_mul F.fills_int_mul F.slot_int_rmul repeat_list F.slot_int_index.lookup
    (call_meets F.slot_int_rmul (typeIs_int s k t) F.entry_int_rmul (F.args_int_rmul_2 _ _) (int___rmul___int_list k t l its.toArray n)
      ⟨e, rfl, ⟨_, e, rfl⟩, call_meets F.slot_list_mul ⟨_, e, rfl⟩ F.entry_list_mul (F.args_list_mul_2 _ _) (AutoListH.list___mul___list_int_3 l its.toArray n k t hfit hcap hlong) ⟨e, ?_⟩⟩)
  rw [hnew]
  exact ⟨.ref _, _, I.lnew (t' := s.toks) (r.rep k.toNat) (by rw [len_rep, Nat.mul_comm]; exact hz), rfl, q _ I.fresh⟩
end
end L2
namespace L2
open PySem PySem.Spec PyProof.Rows
section
variable {κ : Type} [DecidableEq κ]
noncomputable def valV (kvs : List (κ × V)) (k : κ) : Option V := (kvs.find? fun kv => decide (kv.1 = k)).map (·.2)
noncomputable def putK (kvs : List (κ × V)) (k : κ) (v : V) : List (κ × V) :=
  if (kvs.any fun kv => decide (kv.1 = k)) = true then kvs.map (fun kv => if kv.1 = k then (kv.1, v) else kv) else kvs ++ [(k, v)]
noncomputable def dropK (kvs : List (κ × V)) (k : κ) : List (κ × V) := kvs.filter fun kv => decide (kv.1 ≠ k)
theorem valV_pos {p : κ × V} {r : List (κ × V)} {k : κ} (e : p.1 = k) : valV (p :: r) k = some p.2 := by simp [valV, List.find?_cons, e]
theorem valV_neg {p : κ × V} {r : List (κ × V)} {k : κ} (e : ¬ p.1 = k) : valV (p :: r) k = valV r k := by simp [valV, List.find?_cons, e]
theorem valV_any (k : κ) : ∀ kvs : List (κ × V), (kvs.any fun kv => decide (kv.1 = k)) = (valV kvs k).isSome
  | [] => rfl
  | p :: r => by
    rw [List.any_cons]
    by_cases e : p.1 = k
    · simp only [valV_pos e, decide_eq_true e, Bool.true_or, Option.isSome_some]
    · rw [valV_neg e, decide_eq_false e, Bool.false_or]; exact valV_any k r
theorem length_putK (kvs : List (κ × V)) (k : κ) (v : V) : (putK kvs k v).length <= kvs.length + 1 := by
  unfold putK
  split
  · rw [List.length_map]; omega
  · rw [List.length_append, List.length_cons, List.length_nil]; omega
theorem RelO.isSome_eq {o : Option V} {u : Option Value} (r : RelO o u) : o.isSome = u.isSome := by
  cases o with
  | none => cases u with
    | none => rfl
    | some _ => exact (show False from r).elim
  | some _ => cases u with
    | none => exact (show False from r).elim
    | some _ => rfl
theorem RelO.getD {o : Option V} {u : Option Value} {d : V} {d' : Value} (r : RelO o u) (rd : RelV d d') : RelV (o.getD d) (u.getD d') := by
  cases o with
  | none => cases u with
    | none => exact rd
    | some _ => exact (show False from r).elim
  | some _ => cases u with
    | none => exact (show False from r).elim
    | some _ => exact r
theorem KV.val {kvs : List (κ × V)} {vs : List (κ × Value)} (r : KV kvs vs) (k : κ) : RelO (valV kvs k) (valueAt vs k) := by
  unfold KV at r
  induction r with
  | nil => exact True.intro
  | @cons p q ps qs h t ih =>
    obtain ⟨h1, h2⟩ := h
    by_cases e : p.1 = k
    · have e' : q.1 = k := h1.symm.trans e
      have b : valueAt (q :: qs) k = some q.2 := by simp [valueAt, List.find?_cons, e']
      rw [valV_pos e, b]; exact h2
    · have e' : ¬ q.1 = k := fun z => e (h1.trans z)
      have b : valueAt (q :: qs) k = valueAt qs k := by simp [valueAt, List.find?_cons, e']
      rw [valV_neg e, b]; exact ih
theorem KV.any {kvs : List (κ × V)} {vs : List (κ × Value)} (r : KV kvs vs) (k : κ) : (kvs.any fun kv => decide (kv.1 = k)) = vs.any fun kv => decide (kv.1 = k) := by
  unfold KV at r
  induction r with
  | nil => rfl
  | cons h t ih => rw [List.any_cons, List.any_cons, ih, h.1]
theorem KV.repl {kvs : List (κ × V)} {vs : List (κ × Value)} (r : KV kvs vs) (k : κ) {y : V} {u : Value} (ry : RelV y u) :
    KV (kvs.map fun kv => if kv.1 = k then (kv.1, y) else kv) (vs.map fun kv => if kv.1 = k then (kv.1, u) else kv) := by
  unfold KV at r ⊢
  induction r with
  | nil => exact .nil
  | @cons p q ps qs h t ih =>
    rw [List.map_cons, List.map_cons]
    refine .cons ?_ ih
    obtain ⟨h1, h2⟩ := h
    by_cases e : p.1 = k
    · rw [if_pos e, if_pos (h1.symm.trans e)]; exact ⟨h1, ry⟩
    · rw [if_neg e, if_neg (fun z => e (h1.trans z))]; exact ⟨h1, h2⟩
theorem KV.put {kvs : List (κ × V)} {vs : List (κ × Value)} (r : KV kvs vs) (k : κ) {y : V} {u : Value} (ry : RelV y u) : KV (putK kvs k y) (stored vs k u) := by
  unfold putK stored
  rw [r.any k]
  by_cases e : (vs.any fun kv => decide (kv.1 = k)) = true
  · rw [if_pos e, if_pos e]; exact r.repl k ry
  · rw [if_neg e, if_neg e]; exact Paired.snoc r ⟨rfl, ry⟩
theorem KV.drop {kvs : List (κ × V)} {vs : List (κ × Value)} (r : KV kvs vs) (k : κ) : KV (dropK kvs k) (without vs k) := by
  unfold KV at r ⊢
  unfold dropK without
  induction r with
  | nil => exact .nil
  | @cons p q ps qs h t ih =>
    obtain ⟨h1, h2⟩ := h
    rw [List.filter_cons, List.filter_cons]
    by_cases e : p.1 = k
    · have a : ¬ decide (p.1 ≠ k) = true := by simp [e]
      have b : ¬ decide (q.1 ≠ k) = true := by simp [h1.symm.trans e]
      rw [if_neg a, if_neg b]; exact ih
    · have e' : ¬ q.1 = k := fun z => e (h1.trans z)
      have a : decide (p.1 ≠ k) = true := by simp [e]
      have b : decide (q.1 ≠ k) = true := by simp [e']
      rw [if_pos a, if_pos b]; exact .cons ⟨h1, h2⟩ ih
theorem KV.keys {kvs : List (κ × V)} {vs : List (κ × Value)} (r : KV kvs vs) : kvs.map (·.1) = vs.map (·.1) := by
  unfold KV at r
  induction r with
  | nil => rfl
  | cons h t ih => rw [List.map_cons, List.map_cons, ih, h.1]
theorem KV.length {kvs : List (κ × V)} {vs : List (κ × Value)} (r : KV kvs vs) : kvs.length = vs.length := Paired.length r
end
theorem kV_is {P : Program} {w : World} {k : Key} {u : Value} (r : RelV (kV k) u) : (mixKind P w).is k u = true := by
  cases k with
  | inl i => obtain ⟨t, e⟩ := (show ∃ t, u = Value.int i t from r); subst e; exact mixKind_int P w i t
  | inr x => obtain ⟨t, e⟩ := (show ∃ t, u = Value.str x t from r); subst e; exact mixKind_str P w x t
theorem items_are {P : Program} {w : World} : ∀ {ks : List Key} {us : List Value}, Vals (ks.map kV) us -> ItemsAre (mixKind P w) ks us
  | [], _, r => by rw [List.map_nil] at r; cases r; exact .nil
  | k :: ks, _, r => by
    rw [List.map_cons] at r
    cases r with
    | cons h t => exact .cons (kV_is h) (items_are t)
noncomputable abbrev KT (H : Hp) : List (List Key × V) -> List (List Key × Addr × Value) -> Prop := Paired fun p q => p.1 = q.1 /\ H q.2.1 = some (.tup (p.1.map kV)) /\ RelV p.2 q.2.2
theorem KT.val {H : Hp} {kvs : List (List Key × V)} {xs : List (List Key × Addr × Value)} (r : KT H kvs xs) (k : List Key) : RelO (valV kvs k) ((atKey xs k).map (·.2)) := by
  induction r with
  | nil => exact True.intro
  | @cons p q ps qs h t ih =>
    obtain ⟨h1, _, h2⟩ := h
    by_cases e : p.1 = k
    · have e' : q.1 = k := h1.symm.trans e
      have b : atKey (q :: qs) k = some q.2 := by simp [atKey, List.find?_cons, e']
      rw [valV_pos e, b]; exact h2
    · have e' : ¬ q.1 = k := fun z => e (h1.trans z)
      have b : atKey (q :: qs) k = atKey qs k := by simp [atKey, List.find?_cons, e']
      rw [valV_neg e, b]; exact ih
theorem KT.repl {H : Hp} {kvs : List (List Key × V)} {xs : List (List Key × Addr × Value)} (r : KT H kvs xs) (k : List Key) {y : V} {u : Value} (ry : RelV y u) :
    KT H (kvs.map fun kv => if kv.1 = k then (kv.1, y) else kv) (xs.map (putAt k u)) := by
  induction r with
  | nil => exact .nil
  | @cons p q ps qs h t ih =>
    rw [List.map_cons, List.map_cons]
    refine .cons ?_ ih
    obtain ⟨h1, h2, h3⟩ := h
    unfold putAt
    by_cases e : p.1 = k
    · rw [if_pos e, if_pos (h1.symm.trans e)]; exact ⟨h1, h2, ry⟩
    · rw [if_neg e, if_neg (fun z => e (h1.trans z))]; exact ⟨h1, h2, h3⟩
theorem KT.put {H : Hp} {kvs : List (List Key × V)} {xs : List (List Key × Addr × Value)} (r : KT H kvs xs) (k : List Key) {b : Addr} {y : V} {u : Value} (hb : H b = some (.tup (k.map kV))) (ry : RelV y u) :
    KT H (putK kvs k y) (storedH xs k b u) := by
  have e : (kvs.any fun kv => decide (kv.1 = k)) = (atKey xs k).isSome := by
    rw [valV_any, (r.val k).isSome_eq, Option.isSome_map]
  unfold putK storedH
  rw [e]
  by_cases q : (atKey xs k).isSome = true
  · rw [if_pos q, if_pos q]; exact r.repl k ry
  · rw [if_neg q, if_neg q]; exact Paired.snoc r ⟨rfl, hb, ry⟩
theorem KT.keeps {H H' : Hp} {kvs : List (List Key × V)} {xs : List (List Key × Addr × Value)} (r : KT H kvs xs) (ht : ∀ b ys, H b = some (.tup ys) -> H' b = some (.tup ys)) : KT H' kvs xs :=
  Paired.mapP r fun _ _ z => ⟨z.1, ht _ _ z.2.1, z.2.2⟩
section
variable {P : Program} {w : World} {H : Hp} {h : Heap} {a : Addr}
theorem rd_of {u : HO} (ok : HOk P w H h) (e : Rd H a u) : ObjOk P w H h a u := e.ok ok
theorem dk_rd {kvs : List (Key × V)} (ok : HOk P w H h) (e : Rd H a (.dK kvs)) : kvs.length <= sizeLine /\ (a == sysModules) = false /\ ∃ vs, KV kvs vs /\ h.DictOf (mixKind P w) a vs :=
  show ObjOk P w H h a (.dK kvs) from rd_of ok e
theorem dk_of {kvs : List (Key × V)} (ok : HOk P w H h) (e : H a = some (.dK kvs)) : kvs.length <= sizeLine /\ (a == sysModules) = false /\ ∃ vs, KV kvs vs /\ h.DictOf (mixKind P w) a vs := dk_rd ok (.inl e)
theorem key_of {ks : List Key} (ok : HOk P w H h) (e : H a = some (.tup (ks.map kV))) : (tupleKind (mixKind P w)).is h ks a := by
  obtain ⟨_, its, r, o, h1, h2, n, h3⟩ := (show ObjOk P w H h a (.tup (ks.map kV)) from ok a _ e)
  exact ⟨o, its.toArray, n, h1, h2, h3, by simpa using items_are r⟩
theorem dt_rd {kvs : List (List Key × V)} (ok : HOk P w H h) (e : Rd H a (.dT kvs)) : kvs.length <= sizeLine /\ (a == sysModules) = false /\
    ∃ xs, KT H kvs xs /\ h.DictOfH (tupleKind (mixKind P w)) a xs := by
  obtain ⟨z, y, xs, r, o, es, ep, h1, h2, h3, h4, h5⟩ := (show ObjOk P w H h a (.dT kvs) from rd_of ok e)
  refine ⟨z, y, xs, r, o, es, ep, h1, h2, h3, h4, fun x hx => ?_, h5⟩
  have all : ∀ {l : List (List Key × V)} {m : List (List Key × Addr × Value)}, KT H l m -> ∀ x ∈ m, (tupleKind (mixKind P w)).is h x.1 x.2.1 := by
    intro l m q
    induction q with
    | nil => intro x hx; exact nomatch hx
    | @cons p q ps qs hq t ih =>
      intro x hx
      rcases List.mem_cons.mp hx with e | hx
      · subst e
        exact key_of ok (by rw [<- hq.1]; exact hq.2.1)
      · exact ih x hx
  exact all r x hx
theorem dt_of {kvs : List (List Key × V)} (ok : HOk P w H h) (e : H a = some (.dT kvs)) : kvs.length <= sizeLine /\ (a == sysModules) = false /\
    ∃ xs, KT H kvs xs /\ h.DictOfH (tupleKind (mixKind P w)) a xs := dt_rd ok (.inl e)
end
noncomputable def DGet (H : Hp) (a : Addr) (y : V) (r : Option V) : Prop :=
  (∃ kvs k, Rd H a (.dK kvs) /\ y = kV k /\ r = valV kvs k) \/ ∃ kvs k b, Rd H a (.dT kvs) /\ y = .ref b /\ H b = some (.tup (k.map kV)) /\ r = valV kvs k
noncomputable def DPut (H : Hp) (a : Addr) (y v : V) (H' : Hp) : Prop :=
  (∃ kvs k, H a = some (.dK kvs) /\ y = kV k /\ kvs.length < sizeLine /\ H' = upd H a (.dK (putK kvs k v))) \/
  ∃ kvs k b, H a = some (.dT kvs) /\ y = .ref b /\ H b = some (.tup (k.map kV)) /\ kvs.length < sizeLine /\ H' = upd H a (.dT (putK kvs k v))
theorem DGet.k {H : Hp} {a : Addr} {kvs : List (Key × V)} {k : Key} (e : H a = some (.dK kvs)) : DGet H a (kV k) (valV kvs k) := .inl ⟨kvs, k, .inl e, rfl, rfl⟩
theorem DGet.t {H : Hp} {a b : Addr} {kvs : List (List Key × V)} {k : List Key} (e : H a = some (.dT kvs)) (eb : H b = some (.tup (k.map kV))) : DGet H a (.ref b) (valV kvs k) := .inr ⟨kvs, k, b, .inl e, rfl, eb, rfl⟩
theorem DPut.k {H : Hp} {a : Addr} {kvs : List (Key × V)} {k : Key} {v : V} (e : H a = some (.dK kvs)) (hl : kvs.length < sizeLine) : DPut H a (kV k) v (upd H a (.dK (putK kvs k v))) := .inl ⟨kvs, k, e, rfl, hl, rfl⟩
theorem DPut.t {H : Hp} {a b : Addr} {kvs : List (List Key × V)} {k : List Key} {v : V} (e : H a = some (.dT kvs)) (eb : H b = some (.tup (k.map kV))) (hl : kvs.length < sizeLine) :
    DPut H a (.ref b) v (upd H a (.dT (putK kvs k v))) := .inr ⟨kvs, k, b, e, rfl, eb, hl, rfl⟩
section
variable {X : Cx} {pins : List (Addr × Obj)} {σ : St} {H : Hp} {s : Shared} {a : Addr} {y v : V} {u r : Value} {o : Option V} {A : Around} {E : Value -> Shared -> Prop}
theorem Inv.big (I : Inv X pins σ H s) : sysModules < s.heap.objs.size := by
  have h : mainGlobals < s.heap.objs.size := (I.mod.glob.keeps I.bk).lt
  exact Nat.lt_trans (by decide) h
theorem d_getItem {Q : Value -> Shared -> Prop} (hu : A.units + 1 < cLine) (I : Inv X pins σ H s) (g : DGet H a y (some v)) (ry : RelV y u) (h : ∀ w' s', Inv X pins σ H s' -> RelV v w' -> Q w' s') :
    wpAny (model X.prog X.w) A (getItem (.ref a) u) Q E s := by
  rcases g with ⟨kvs, k, e, ey, l⟩ | ⟨kvs, k, b, e, ey, eb, l⟩
  · subst ey
    obtain ⟨z, hd, vs, rel, dd⟩ := dk_rd I.hok e
    obtain ⟨w', hw, rw'⟩ := RelO.some_of (v := v) (o := valueAt vs k) (by rw [l]; exact rel.val k)
    exact wpAny_getItem_of (kV_is ry) dd.mapOf hw (h w' _ (I.tok _) rw')
  · subst ey
    cases (show u = Value.ref b from ry)
    obtain ⟨z, hd, xs, rel, dd⟩ := dt_rd I.hok e
    obtain ⟨w', hw, rw'⟩ := RelO.some_of (v := v) (o := (atKey xs k).map (·.2)) (by rw [l]; exact rel.val k)
    obtain ⟨p, hp, hp2⟩ := Option.map_eq_some_iff.mp hw
    refine wpAny_getItem_heap (tupleKind_room_in1 hu) (key_of I.hok eb) dd hp ?_
    rw [hp2]
    exact h w' _ (I.tok _) rw'
theorem d_in {Q : Value -> Shared -> Prop} (hu : A.units + 1 < cLine) (I : Inv X pins σ H s) (g : DGet H a y o) (ry : RelV y u) (h : ∀ s', Inv X pins σ H s' -> Q (.bool o.isSome) s') :
    wpAny (model X.prog X.w) A (compareOp .In u (.ref a)) Q E s := by
  rcases g with ⟨kvs, k, e, ey, l⟩ | ⟨kvs, k, b, e, ey, eb, l⟩
  · subst ey
    obtain ⟨z, hd, vs, rel, dd⟩ := dk_rd I.hok e
    refine wpAny_in_of (kV_is ry) hd dd.mapOf ?_
    rw [<- (rel.val k).isSome_eq, <- l]
    exact h _ (I.tok _)
  · subst ey
    cases (show u = Value.ref b from ry)
    obtain ⟨z, hd, xs, rel, dd⟩ := dt_rd I.hok e
    refine wpAny_in_heap (tupleKind_room_in1 hu) (key_of I.hok eb) hd dd ?_
    have q := (rel.val k).isSome_eq
    rw [Option.isSome_map] at q
    rw [<- q, <- l]
    exact h _ (I.tok _)
theorem d_write {h' : Heap} {t' : Nat} {ob : HO} (I : Inv X pins σ H s) (mu : Mut (H a)) (hs : Heap.SameBut a s.heap h') (he : ∃ q, h'.get? a = some q) (new : ObjOk X.prog X.w (upd H a ob) h' a ob) :
    Inv X pins σ (upd H a ob) { s with heap := h', toks := t' } :=
  I.write (x := a) (e := a) mu (.inl rfl) (fun b q hb z => (hs.2 b hb).trans z) he new
theorem dk_new {P : Program} {w : World} {H' : Hp} {h' : Heap} {kvs : List (Key × V)} {vs : List (Key × Value)} (z : kvs.length <= sizeLine) (hd : (a == sysModules) = false) (rel : KV kvs vs) (dd : h'.DictOf (mixKind P w) a vs) :
    ObjOk P w H' h' a (.dK kvs) := ⟨z, hd, vs, rel, dd⟩
theorem d_setItem {H' : Hp} {Q : Unit -> Shared -> Prop} (hu : A.units + 1 < cLine) (I : Inv X pins σ H s) (g : DPut H a y v H') (ry : RelV y u) (rv : RelV v r) (h : ∀ s', Inv X pins σ H' s' -> Q () s') :
    wpAny (model X.prog X.w) A (setItem (.ref a) u r) Q E s := by
  rcases g with ⟨kvs, k, e, ey, l, eH⟩ | ⟨kvs, k, b, e, ey, eb, l, eH⟩
  · subst ey eH
    obtain ⟨z, hd, vs, rel, dd⟩ := dk_of I.hok e
    have hz : vs.length <= sizeLine := by rw [<- rel.length]; exact z
    have hl : (putK kvs k v).length <= sizeLine := by have := length_putK kvs k v; omega
    refine wpAny_setItem_pairs (hsz := hz) (kV_is ry) dd fun h' dd' hs => h _ ?_
    have he : ∃ q, h'.get? a = some q := let ⟨q, _, _, hq, _⟩ := dd'; ⟨q, hq⟩
    exact d_write I (by rw [e]; exact True.intro) hs he (dk_new hl hd (rel.put k rv) dd')
  · subst ey eH
    cases (show u = Value.ref b from ry)
    obtain ⟨z, hd, xs, rel, dd⟩ := dt_of I.hok e
    have hz : xs.length <= sizeLine := by rw [<- Paired.length rel]; exact z
    have hl : (putK kvs k v).length <= sizeLine := by have := length_putK kvs k v; omega
    refine wpAny_setItem_heap (hsz := hz) (tupleKind_room_in1 hu) (key_of I.hok eb) dd fun h' dd' hs => h _ ?_
    obtain ⟨q, es, ep, hq, h2, h3, h4, _, h5⟩ := dd'
    refine d_write I (by rw [e]; exact True.intro) hs ⟨q, hq⟩ ⟨hl, hd, _, (rel.put k eb rv).keeps fun c ys ec => ?_, q, es, ep, hq, h2, h3, h4, h5⟩
    rw [upd_ne (ne_of ec e (fun z => nomatch z))]
    exact ec
end
noncomputable def NoSl (i : Expr) : Prop := ∀ ov iv, subscripted i false ov iv = operate [ov, iv] (getItem ov iv)
theorem subD_of {prog : Program} {w : World} {A : Around} {E : Value -> Shared -> Prop} {s : Shared} {env : Env} {value slice : Expr} {pos : Pos} {T id : String} {Q : Value -> Shared -> Prop}
    (hl : typeLookup (.type T) "__getitem__" = pure (some (.builtin id))) (hs : NoSl slice)
    (h : wpAny (model prog w) A (eval value env) (fun o s₁ => wpAny (model prog w) A (eval slice env) (fun i s₂ => s₂.TypeIs o T /\ wpAny (model prog w) A (getItem o i) Q E s₂) E s₁) E s) :
    wpAny (model prog w) A (eval (.Subscript value slice pos) env) Q E s := by
  refine Subscript_ (wpAny_mono h (fun o s₁ h₁ => wpAny_mono h₁ (fun i s₂ h₂ => ?_) fun _ _ x => x) fun _ _ x => x)
  obtain ⟨hT, h₂⟩ := h₂
  unfold subscriptTail
  refine wpAny_bind ?_
  rw [getitemInPython_of_ne hT.not_modules]
  refine wpAny_bind (wpAny_specialOf hT hl ?_)
  have fin : wpAny (model prog w) A (subscripted slice false o i) (fun r s₃ => wpAny (model prog w) A (letTemporaryGo value o r >>= fun _ => pure r) Q E s₃) E s₂ := by
    rw [hs o i]
    exact wpAny_operating (wpAny_mono h₂ (fun r s₃ h₃ => wpAny_bind (wpAny_letTemporaryGo (wpAny_pure h₃))) fun _ _ x => x)
  first
    | exact wpAny_pure (wpAny_bind fin)
    | exact wpAny_bind (wpAny_pure (wpAny_bind fin))
    | exact wpAny_bind fin
theorem dict_typeIs {X : Cx} {pins : List (Addr × Obj)} {σ : St} {H : Hp} {s : Shared} {a : Addr} {y : V} {o : Option V} (I : Inv X pins σ H s) (g : DGet H a y o) : s.TypeIs (.ref a) "dict" := by
  rcases g with ⟨kvs, k, e, _, _⟩ | ⟨kvs, k, b, e, _, _, _⟩
  · obtain ⟨_, _, vs, _, dd⟩ := dk_rd I.hok e
    exact dd.typeIs
  · obtain ⟨_, _, xs, _, dd⟩ := dt_rd I.hok e
    exact dd.typeIs
noncomputable def tDGet (td ty : TE) : TE := fun σ H Q => td σ H fun x H1 => ty σ H1 fun y H2 => Ex2 fun a v => x = .ref a /\ DGet H2 a y (some v) /\ Q v H2
noncomputable def tDIn (ty td : TE) : TE := fun σ H Q => ty σ H fun y H1 => td σ H1 fun x H2 => Ex2 fun a o => x = .ref a /\ DGet H2 a y o /\ Q (.bl o.isSome) H2
noncomputable def sDPut (td ty tv : TE) : TS := fun D σ H => tv σ H fun v H1 => td σ H1 fun x H2 => ty σ H2 fun y H3 => ∃ a H4, x = .ref a /\ DPut H3 a y v H4 /\ D.nx σ H4
section
variable {X : Cx} {o i e value : Expr} {pos pos' tpos : Pos} {td ty tv : TE}
theorem pe_dget (hu : X.A.units + 1 < cLine) (ho : PE X o td) (hi : PE X i ty) (hs : NoSl i) : PE X (.Subscript o i pos) (tDGet td ty) := by
  intro pins s σ H Q I h
  refine subD_of PySem.F.slot_dict_getitem.lookup hs (thn (ho pins s σ H _ I h) fun u s1 ⟨x, H1, I1, rx, q1⟩ => thn (hi pins s1 σ H1 _ I1 q1) fun iv s2 ⟨y, H2, I2, ry, a, v, ex, g, q2⟩ => ?_)
  subst ex
  obtain rfl : u = Value.ref a := rx
  exact ⟨dict_typeIs I2 g, d_getItem hu I2 g ry fun w' s3 I3 rw' => ⟨v, H2, I3, rw', q2⟩⟩
theorem pc_din (hu : X.A.units + 1 < cLine) (hi : PE X i ty) (ho : PE X o td) : PC X .In i o (tDIn ty td) := by
  intro pins s σ H Q I h
  refine thn (hi pins s σ H _ I h) fun iv s1 ⟨y, H1, I1, ry, q1⟩ => thn (ho pins s1 σ H1 _ I1 q1) fun u s2 ⟨x, H2, I2, rx, a, ov, ex, g, q2⟩ => ?_
  subst ex
  obtain rfl : u = Value.ref a := rx
  exact d_in hu I2 g ry fun s3 I3 => ⟨.bl ov.isSome, H2, I3, rfl, q2⟩
theorem ps_dput (hu : X.A.units + 1 < cLine) (ho : PE X o td) (hi : PE X i ty) (hv : PE X value tv) (hs : swapsWith value (some (.Subscript o i pos')) pos.line X.env = pure false) :
    PS X (.Assign [.Subscript o i pos'] value pos) (sDPut td ty tv) := by
  intro pins s σ H D I h
  refine wpAny_Assign_Subscript (thn (hv pins s σ H _ I h) fun r s1 ⟨v, H1, I1, rv, q1⟩ => thn (ho pins s1 σ H1 _ I1 q1) fun u s2 ⟨x, H2, I2, rx, q2⟩ => thn (hi pins s2 σ H2 _ I2 q2) fun iv s3 ⟨y, H3, I3, ry, a, H4, ex, g, q3⟩ => ?_) hs
  subst ex
  obtain rfl : u = Value.ref a := rx
  exact d_setItem hu I3 g ry rv fun s4 I4 => ⟨σ, H4, I4, q3⟩
end
theorem dk_empty {P : Program} {w : World} {H : Hp} (h : Heap) (hb : sysModules < h.objs.size) : ObjOk P w H (h.push { cls := .type "dict", data := .dict #[] }) h.objs.size (.dK []) :=
  ⟨Nat.zero_le _, beq_eq_false_iff_ne.mpr (Ne.symm (Nat.ne_of_lt hb)), [], .nil, Heap.DictOf.new h⟩
noncomputable def tDNewK : TE := fun _ H Q => ∀ p, H p = none -> Q (.ref p) (upd H p (.dK []))
section
variable {X : Cx} {pos : Pos}
theorem pe_dnewK : PE X (.Dict [] [] pos) tDNewK := fun pins s σ H Q I h =>
  wpAny_Dict_empty ⟨.ref s.heap.objs.size, _, I.laid (a := s.heap.objs.size) (o := .dK []) (t' := s.toks) (fun _ _ q => Heap.get?_push_of_some _ q) (Nat.le_refl _) (dk_empty s.heap I.big), rfl, h _ (I.hok.fresh (Nat.le_refl _))⟩
end
end L2
namespace Att
open PySem PySem.W PySem.Calls PyProof.Rows
theorem ints_of_wellAll {P : Params} {h : Heap} : ∀ (ns : List Int) (vs : List Value), WellAll P h vs (ns.map WData.int) -> IntsAre vs ns := by
  intro ns
  induction ns with
  | nil =>
    intro vs w
    rw [List.map_nil] at w
    cases w
    exact .nil
  | cons n ns ih =>
    intro vs w
    rw [List.map_cons] at w
    cases w with
    | cons a b =>
      cases a
      exact .cons _ _ (ih _ b)
theorem script_of {l : OpenLaw} {n : Nat} (hn : l.most = some n) {P : Params} {h : Heap} {args : List WData} {vals : List Value}
    (hpre : l.row.toRowW.claim.pre args = true) (hwl : WellAll P h vals args) :
    ∃ a vs ns, vals = [Value.ref a] /\ args = [WData.list (ns.map WData.int)] /\ h.get? a = some { cls := .type "list", data := .seq vs.toArray } /\ IntsAre vs ns /\ ns.length <= n := by
  have hsh : WShape.hasAll [] args [.list .int] = true := (pre_splitW hpre).1
  have hc : l.pre.holds [] { args := args } = true := (pre_splitW hpre).2
  obtain ⟨d, r, rfl, h1, h2⟩ := hasAllW_cons hsh
  obtain rfl := hasAllW_nil h2
  obtain ⟨xs, rfl, h3⟩ := hasW_list h1
  obtain ⟨ns, rfl⟩ := items_int h3
  have hlen : ns.length <= n := by
    unfold OpenLaw.pre at hc
    have h4 : (WTm.not (.lt (.lit (.int (n : Int))) (.len (.arg 0)))).holds [] { args := [.list (ns.map .int)] } = true := by
      have h4 := (holds_andW hc).1
      rw [hn] at h4
      exact h4
    have h5 := condW_of h4 (w_not (w_lt w_lit (w_len_list (w_arg rfl))))
    rw [List.length_map] at h5
    refine Nat.le_of_not_lt fun q => ?_
    have q' : (n : Int) < ((ns.length : Nat) : Int) := by omega
    first
      | (rw [decide_eq_true q'] at h5; exact absurd h5 (by decide))
      | (simp at h5; omega)
  cases hwl with
  | cons w1 w2 =>
    cases w2
    cases w1 with
    | list ho hall => exact ⟨_, _, ns, rfl, rfl, ho, ints_of_wellAll ns _ hall, hlen⟩
theorem post_true (l : OpenLaw) (args : List WData) : l.row.toRowW.claim.post args (.bool true) args = true :=
  postW_of (r := l.row.toRowW) (X := (true == true))
    (show WShape.has [] (.bool true) .bool = true by first | rfl | decide | simp [WShape.has, WShape.arms, WShape.armsAll])
    (show (WTm.eq .res (.lit (.bool true))).value [] { args := args, res := some (.bool true), after := args } = some (.bool (true == true)) from w_eq_bool (w_res rfl) w_lit) rfl
theorem attach_call {l : OpenLaw} {n : Nat} {q : Program} {loose : List Str} {XP : (Str -> Option Value) -> Heap -> Prop} {YP : World -> Heap -> Prop} {d : DefRec}
    (hn : l.most = some n) (hdf : d.params.defaults = [])
    (call : ∀ (w : World) (s₀ s₁ : Shared) (mg mb : Str -> Option Value) (fa : Addr) (o : Obj) (pm cd doc : Value) (a : Addr) (vs : List Value) (ns : List Int),
      Ground q loose [] XP w s₀ mg mb s₁.heap -> YP w s₁.heap ->
      s₁.heap.get? fa = some o -> o.data = .func (docDef d.name d.params d.body d.scope pm cd doc) -> s₁.heap.CodeRec cd d.name -> mg d.name = some (.ref fa) ->
      s₁.heap.get? a = some { cls := .type "list", data := .seq vs.toArray } -> IntsAre vs ns -> ns.length <= n -> s₁.gens = #[] ->
      codeAny (model l.prog w) callerA (.call (.ref fa) ⟨[.ref a], []⟩) (fun r s' => r = .ok (.ret (.bool true)) /\ OldK s₁.heap s'.heap /\ s'.os = s₁.os /\ AllBare s'.gens) s₁) :
    WalkO q loose XP YP l.row.toRowW d [] (fun f vs => PySem.call f vs) := by
  intro w s₀ s₁ mg mb G Y fa o pm cd doc dV kV ho hd hcd hD hmg hg args vals as hpre hlay hrd hwl hlo
  obtain rfl : dV = .none := Dflts.none hD hdf
  obtain rfl : kV = .none := Dflts.noKw hD
  obtain ⟨a, vs, ns, rfl, rfl, hobj, hints, hlen⟩ := script_of hn hpre hwl
  refine enter_call (codeAny_mono (call w s₀ s₁ mg mb fa o pm cd doc a vs ns G Y ho (fd_plain hd) hcd hmg hobj hints hlen hg) fun r s' hq => ?_)
  obtain ⟨rfl, h2, h3, h4⟩ := hq
  exact ⟨.inl ⟨.bool true, .bool true, [], rfl, fun _ => rfl, .bool true, post_true l _, fun _ => ⟨List.Pairwise.nil, fun _ hm => (nomatch hm)⟩⟩, h2, h3, h4⟩
section
variable {prog : Program} {w : World} {A : Around} {E : Value -> Shared -> Prop} {s : Shared} {K : Frag}
noncomputable def ledger (h : Heap) (L d : Addr) : List (Addr × Obj) := (List.range h.objs.size).filterMap fun a => if a = L \/ a = d then none else (h.get? a).map fun o => (a, o)
end
end Att
namespace L2
open PySem PySem.Spec PyProof.Rows
theorem vals_ints : ∀ {vs : List Value} {ns : List Int}, IntsAre vs ns -> Vals (ns.map V.int) vs
  | _, _, .nil => .nil
  | _, _, .cons n t h => .cons ⟨t, rfl⟩ (vals_ints h)
noncomputable def Only (H : Hp) : Prop := ∀ b, H b = none \/ ∃ o xs, H b = some (.frz o (.lst xs))
theorem law_call {P : Program} {w : World} {K : PySem.W.Frag} {mg mb : Str -> Option Value} {CX : CXT} {k : Nat} {fa a : Addr} {fd : FuncData} {x : Str} {sp : Sp} {s₁ : Shared} {vs : List Value} {ns : List Int}
    (KX : K.In s₁.heap) (hns : s₁.heap.Ns mainGlobals mg) (hb : s₁.heap.Ns builtinsNs mb) (hbb : ∀ x : Str, x ≠ "__name__" -> mb x = bootBuiltins x) (hlim : s₁.heap.NoLimit) (hg : s₁.gens = #[])
    (ha : s₁.heap.get? a = some { cls := .type "list", data := .seq vs.toArray }) (hi : IntsAre vs ns) (hl : ns.length <= sizeLine) (hr : Room k callerA)
    (F : ∀ base : Heap, K.In base -> base.Ns mainGlobals mg -> FnOk P w K mg base CX k fa fd [x] sp) (hbind : ∀ (s : Shared) (u : Value), BindsTo s fd ⟨[u], []⟩ [(x, u)])
    (hsp : ∀ H : Hp, Only H -> SqL K H a (ns.map V.int) -> sp [.ref a] H (fun v _ => v = .bl true) fun _ _ _ => False)
    (hCX : ∀ H e s', CX [] H s₁ (fun _ _ _ => False) e s' -> False) :
    codeAny (model P w) callerA (.call (.ref fa) ⟨[.ref a], []⟩) (fun r s' => r = .ok (.ret (.bool true)) /\ OldK s₁.heap s'.heap /\ s'.os = s₁.os /\ AllBare s'.gens) s₁ := by
  have rv := vals_ints hi
  have lenV := hi.length
  have core : ∀ H : Hp, Only H -> SqL K H a (ns.map V.int) -> HOk P w H s₁.heap -> (∀ b, H b ≠ none -> b = a) -> (H a ≠ none -> K.lookup a = none) ->
      codeAny (model P w) callerA (.call (.ref fa) ⟨[.ref a], []⟩) (fun r s' => r = .ok (.ret (.bool true)) /\ OldK s₁.heap s'.heap /\ s'.os = s₁.os /\ AllBare s'.gens) s₁ := by
    intro H hO hS hok hA hK
    have base_of : ∀ {b : Addr} {o : Obj}, s₁.heap.get? b = some o -> H b = none -> (hidT s₁.heap H).get? b = some o := fun e n => hidT_get e n
    have noA : ∀ {b : Addr} {o : Obj} {es : Array DictEntry} {ep : Nat}, s₁.heap.get? b = some o -> o.data = .dict es ep -> H b = none := fun {b o es ep} e d => by
      cases q : H b with
      | none => rfl
      | some u =>
        have e' : b = a := hA b (by rw [q]; simp)
        subst e'
        rw [ha] at e; cases e
        have d' : Data.seq vs.toArray _ = Data.dict es ep := d
        cases d'
    have nsK : ∀ {b : Addr} {m : Str -> Option Value}, s₁.heap.Ns b m -> (hidT s₁.heap H).Ns b m := fun {b m} ⟨o, es, ep, e, d, r⟩ => ⟨o, es, ep, base_of e (noA e d), d, r⟩
    have hKb : K.In (hidT s₁.heap H) := fun b o e => base_of (KX b o e) (by
      cases q : H b with
      | none => rfl
      | some u =>
        have e' : b = a := hA b (by rw [q]; simp)
        subst e'
        rw [hK (by rw [q]; simp)] at e; cases e)
    have hM : Mod K mg (hidT s₁.heap H) := ⟨hKb, nsK hns, ⟨mb, nsK hb, hbb⟩, let ⟨mc, h1, h2⟩ := hlim; ⟨mc, nsK h1, h2⟩⟩
    have e0 : Env0 P w K mg (hidT s₁.heap H) callerA [] s₁ H := ⟨rfl, hM, fun b o e => of_hidT e, Nat.le_of_eq (hidT_size _ _), trivial, fun b hb => absurd (show b ∈ ([] : List Addr) from hb) (by simp), hok, .of_eq hg⟩
    refine codeAny_mono ((F _ hKb (nsK hns)).run callerA [] s₁ H ⟨[.ref a], []⟩ [.ref a] [.ref a] _ _ hr e0 (hbind s₁ (.ref a)) (.cons rfl .nil) (hsp H hO hS)) fun r s' h => ?_
    cases r with
    | error e => exact (hCX H e s' h).elim
    | ok fl =>
      cases fl with
      | next => exact False.elim h
      | brk => exact False.elim h
      | cont => exact False.elim h
      | ret u =>
        obtain ⟨v, H', os, bare, un, hok', r', q⟩ := h
        have q' : v = .bl true := q
        subst q'
        obtain rfl : u = Value.bool true := r'
        refine ⟨rfl, OldK.of_keep fun b o e => ?_, os, bare⟩
        cases q : H b with
        | none => exact un.keep b o e q (by intro z; exact absurd (show b ∈ ([] : List Addr) from z) (by simp)) (by simp)
        | some u =>
          rcases hO b with z | ⟨ob, xs, z⟩
          · rw [q] at z; cases z
          · have z2 := un.frzs b ob _ z
            obtain ⟨e1, _⟩ := hok b _ z
            obtain ⟨e2, _⟩ := hok' b _ z2
            rw [e] at e1; cases e1
            exact e2
  cases hk : K.lookup a with
  | some o =>
    have e := KX a o hk
    rw [ha] at e
    cases e
    refine core (fun _ => none) (fun _ => .inl rfl) (.inr ⟨_, vs.toArray, _, hk, rfl, rfl, rfl, by rw [List.size_toArray, lenV]; exact hl, by simpa using rv⟩) (fun b u z => by have z' : (none : Option HO) = some u := z; cases z') (fun b z => absurd rfl z) fun z => absurd rfl z
  | none =>
    refine core (fun b => if b = a then some (.frz { cls := .type "list", data := .seq vs.toArray } (.lst (ns.map V.int))) else none) (fun b => ?_) (.inl (.inr ⟨{ cls := .type "list", data := .seq vs.toArray }, if_pos rfl⟩)) (fun b u z => ?_) (fun b z => ?_) fun _ => hk
    · by_cases hb : b = a
      · exact .inr ⟨_, _, if_pos hb⟩
      · exact .inl (if_neg hb)
    · by_cases hb : b = a
      · have z' := (if_pos hb).symm.trans z
        cases z'
        subst hb
        exact ⟨ha, by rw [List.length_map]; exact hl, vs, _, rv, ha⟩
      · have z' := (if_neg hb).symm.trans z
        cases z'
    · by_cases hb : b = a
      · exact hb
      · exact absurd (if_neg hb) z
end L2
namespace L2
open PySem PySem.Spec PyProof.Rows
theorem walk_of {l : PySem.W.OpenLaw} {n k : Nat} {q : Program} {loose : List Str} {XP : (Str -> Option Value) -> Heap -> Prop} {YP : World -> Heap -> Prop} {d : DefRec} {K : Params -> PySem.W.Frag} {CX : World -> CXT} {sp : World -> Sp} {x : Str}
    (hn : l.most = some n) (hn2 : n <= sizeLine) (hdf : d.params.defaults = []) (hr : Room k callerA)
    (hY : ∀ (w : World) (h : Heap), YP w h -> (K w.params).In h)
    (F : ∀ (w : World) (mg : Str -> Option Value) (fa : Addr) (h : Heap), (K w.params).In h -> h.Ns mainGlobals mg -> mg d.name = some (.ref fa) ->
      ∃ fd : FuncData, (∀ (s : Shared) (u : Value), BindsTo s fd ⟨[u], []⟩ [(x, u)]) /\
        ∀ base : Heap, (K w.params).In base -> base.Ns mainGlobals mg -> FnOk l.prog w (K w.params) mg base (CX w) k fa fd [x] (sp w))
    (hsp : ∀ (w : World) (H : Hp) (a : Addr) (ns : List Int), ns.length <= n -> Only H -> SqL (K w.params) H a (ns.map V.int) -> sp w [.ref a] H (fun v _ => v = .bl true) fun _ _ _ => False)
    (hCX : ∀ (w : World) (H : Hp) (s : Shared) (e : Value) (s' : Shared), CX w [] H s (fun _ _ _ => False) e s' -> False) :
    PySem.W.WalkO q loose XP YP l.row.toRowW d [] (fun f vs => PySem.call f vs) := by
  refine Att.attach_call hn hdf fun w s₀ s₁ mg mb fa o pm cd doc a vs ns G Y ho hd hcd hmg hobj hints hlen hg => ?_
  have KX := hY w _ Y
  obtain ⟨fd, hb, hF⟩ := F w mg fa _ KX G.T.g hmg
  exact law_call KX G.T.g G.T.b G.T.builtins G.T.nolimit hg hobj hints (Nat.le_trans hlen hn2) hr hF hb (fun H hO hS => hsp w H a ns hlen hO hS) fun H e s' => hCX w H s₁ e s'
end L2
namespace L2
open PySem PySem.Spec PyProof.Rows
noncomputable def inClass (s : Stmt) (j : Nat) : Stmt := match s with
  | .ClassDef _ _ _ body _ _ _ _ _ _ _ => body.getD j (.Pass ⟨0, 0, 0, 0⟩)
  | _ => .Pass ⟨0, 0, 0, 0⟩
noncomputable def defArgs (s : Stmt) : Arguments := match s with
  | .FunctionDef _ a _ _ _ _ _ _ _ _ => a
  | _ => { posonlyargs := [], args := [], vararg := none, kwonlyargs := [], kw_defaults := [], kwarg := none, defaults := [] }
noncomputable def defBody (s : Stmt) : List Stmt := match s with
  | .FunctionDef _ _ b _ _ _ _ _ _ _ => b
  | _ => []
noncomputable def defScope (s : Stmt) : Scope := match s with
  | .FunctionDef _ _ _ _ _ _ sc _ _ _ => sc
  | _ => { kind := .function, names := [], isGenerator := false, isCoroutine := false }
noncomputable abbrev CX0 : CXT := fun _ _ _ _ _ _ => False
noncomputable abbrev E0 : XK := fun _ _ _ => False
theorem pass0 {X : Cx} : Passes CX0 X E0 := fun _ _ _ _ _ _ _ h => h.elim
structure Fun (K : PySem.W.Frag) (x qual : Str) (st : Stmt) (f : Addr) (fd : FuncData) : Prop where
  ex : ∃ (oc : Value) (od : Option Addr) (kV doc pm : Value) (an : Option Addr) (cdv ct : Value) (osl : Array (Option Value)),
    fd = PySem.W.fnOf x qual (defArgs st) (defBody st) (defScope st) .none kV doc pm an cdv ct /\ K.lookup f = some ⟨oc, od, .func fd, osl⟩ /\ PySem.W.codeIn K cdv qual = true
  kp : PySem.W.keepIn K (.ref f) = true
section
variable {P : Program} {w : World} {K : PySem.W.Frag} {mg : Str -> Option Value} {base : Heap}
theorem Fun.ok {x qual : Str} {st : Stmt} {f : Addr} {fd : FuncData} {N ps : List Str} {k : Nat} {sp : Sp} (F : Fun K x qual st f fd) (S : FnScope N ps (defScope st)) (len : ∀ vs H Q E, sp vs H Q E -> vs.length = ps.length)
    (hbody : ∀ (cdv : Value) (A : Around) (outer : List Env) (s : Shared) (H : Hp) (vs : List V) (Q : VK) (E : XK), Room k (A.deeper (envOfC qual (defScope st) s.heap.objs.size f cdv)) -> sp vs H Q E ->
      ∃ t, PSs (cxOf CX0 P w K mg base N qual (defScope st) f cdv A outer s H E).nox (defBody st) t /\ t { nx := fun _ H' => Q .non H', rt := Q } (start N vs) H) : FnOk P w K mg base CX0 (k + 1) f fd ps sp := by
  obtain ⟨oc, od, kV, doc, pm, an, cdv, ct, osl, rfl, lk, hcd⟩ := F.ex
  refine fn_of lk hcd S len fun A outer s H vs Q E hr hsp => ?_
  obtain ⟨t, h, q⟩ := hbody cdv A outer s H vs Q E hr hsp
  exact ⟨t, h.nox, q⟩
theorem Fun.binds {x qual : Str} {st : Stmt} {f : Addr} {fd : FuncData} {ps : List Str} (F : Fun K x qual st f fd)
    (h : ∀ (kV doc pm : Value) (an : Option Addr) (cdv ct : Value) (us : List Value), us.length = ps.length -> bindArgs (PySem.W.fnOf x qual (defArgs st) (defBody st) (defScope st) .none kV doc pm an cdv ct) ⟨us, []⟩ = pure (ps.zip us)) : Binds K fd ps [] := by
  obtain ⟨oc, od, kV, doc, pm, an, cdv, ct, osl, rfl, lk, hcd⟩ := F.ex
  exact .all (h kV doc pm an cdv ct)
theorem fun_mk {x qual : Str} {st : Stmt} {f : Addr} {oc : Value} {od an : Option Addr} {osl : Array (Option Value)} {kV doc pm cdv ct : Value} (l : K.lookup f = some ⟨oc, od, .func (PySem.W.fnOf x qual (defArgs st) (defBody st) (defScope st) .none kV doc pm an cdv ct), osl⟩)
    (c : PySem.W.codeIn K cdv qual = true) (k : PySem.W.keepIn K (.ref f) = true) : Fun K x qual st f (PySem.W.fnOf x qual (defArgs st) (defBody st) (defScope st) .none kV doc pm an cdv ct) := ⟨⟨oc, od, kV, doc, pm, an, cdv, ct, osl, rfl, l, c⟩, k⟩
end
theorem hu_of {A : Around} {k : Nat} (hr : Room k A) : A.units + 1 < cLine := Nat.lt_of_le_of_lt (Nat.add_le_add_left (by decide : 1 <= 64) _) hr.units
theorem small1000 {n : Nat} (h : n <= 1000) : n < sizeLine := Nat.lt_of_le_of_lt h (by decide)
section
variable {X : Cx}
theorem pv (i : Nat) {x : Str} {pos : Pos} (hN : X.N[i]? = some x := by rfl) (hv : Vis X.env.scope x := by first | exact Or.inl rfl | exact Or.inr (Or.inl rfl) | exact Or.inr (Or.inr rfl)) (hd : (x == ("__debug__" : Str)) = false := by decide)
    (hcd : (x == ("__classdict__" : Str)) = false := by decide) : PE X (.Name x pos) (tVar i) := pe_var hN hv hd hcd
end
theorem iteF {A B : Prop} (h : B) : if false = true then A else B := by
  rw [if_neg Bool.false_ne_true]
  exact h
theorem iteT {A B : Prop} (h : A) : if true = true then A else B := by
  rw [if_pos rfl]
  exact h
theorem iteNS {c A B : Prop} [Decidable c] (hc : c) (h : B) : if (!decide c) = true then A else B := by
  rw [decide_eq_true hc]
  exact iteF h
noncomputable def Same (H H' : Hp) : Prop := ∀ b o, H b = some o -> H' b = some o
theorem Same.refl (H : Hp) : Same H H := fun _ _ h => h
theorem Same.trans {H H1 H2 : Hp} (a : Same H H1) (b : Same H1 H2) : Same H H2 := fun c o h => b c o (a c o h)
theorem Same.free {H H' : Hp} (e : Same H H') {l : Addr} (h : H' l = Option.none) : H l = Option.none := by
  cases q : H l with
  | none => rfl
  | some o =>
    rw [e l o q] at h
    cases h
theorem Same.seq {K : PySem.W.Frag} {H H' : Hp} {a : Addr} {xs : List V} (e : Same H H') (h : SqL K H a xs) : SqL K H' a xs := by
  rcases h with (h | ⟨o, h⟩) | h
  · exact .inl (.inl (e _ _ h))
  · exact .inl (.inr ⟨o, e _ _ h⟩)
  · exact .inr h
end L2
namespace GM
noncomputable abbrev Tx := List Nat
noncomputable abbrev Ru := List Tx
noncomputable def once (R : Ru) (x : Tx) : Tx := x.flatMap fun c => R.getD (c - 97) []
noncomputable def OkTx (n : Nat) (x : Tx) : Prop := ∀ c ∈ x, 97 <= c /\ c < 97 + n
structure OkRu (R : Ru) : Prop where
  pos : 1 <= R.length
  top : R.length <= 26
  all : ∀ r ∈ R, OkTx R.length r
noncomputable def lets (n : Nat) : Tx := (List.range n).map (97 + ·)
noncomputable def cnt (n : Nat) (x : Tx) : List Int := (lets n).map fun c => (x.count c : Int)
noncomputable def grow (R : Ru) : Nat -> Tx -> Tx
  | 0, x => x
  | t + 1, x => grow R t (once R x)
noncomputable def weigh (u v : List Int) : Int := (List.zipWith (· * ·) u v).sum
noncomputable def hstep (told : List Int) (p : Int × List Int) : List Int := if p.1 = 0 then told else List.zipWith (fun s e => s + p.1 * e) told p.2
noncomputable def hnext (T : List (List Int)) (h : List Int) : List Int := (List.zip h T).foldl hstep (List.replicate T.length 0)
noncomputable def table (R : Ru) : List (List Int) := R.map (cnt R.length)
theorem grow_succ' (R : Ru) : ∀ t x, grow R (t + 1) x = once R (grow R t x)
  | 0, x => rfl
  | t + 1, x => by show grow R (t + 1) (once R x) = _; rw [grow_succ' R t (once R x)]; rfl
theorem once_nil (R : Ru) : once R [] = [] := rfl
theorem once_cons (R : Ru) (c : Nat) (x : Tx) : once R (c :: x) = R.getD (c - 97) [] ++ once R x := by simp [once]
theorem once_append (R : Ru) (x y : Tx) : once R (x ++ y) = once R x ++ once R y := by simp [once, List.flatMap_append]
theorem getD_mem {R : Ru} {k : Nat} (h : k < R.length) : R.getD k [] ∈ R := by
  rw [List.getD_eq_getElem?_getD, List.getElem?_eq_getElem h]; exact List.getElem_mem h
theorem OkTx.once {R : Ru} (hR : OkRu R) {x : Tx} (hx : OkTx R.length x) : OkTx R.length (once R x) := by
  intro c hc
  obtain ⟨d, hd, hc⟩ := List.mem_flatMap.mp hc
  have := hx d hd
  exact hR.all _ (getD_mem (by omega)) c hc
theorem OkTx.grow {R : Ru} (hR : OkRu R) : ∀ {t : Nat} {x : Tx}, OkTx R.length x -> OkTx R.length (grow R t x)
  | 0, _, h => h
  | t + 1, _, h => OkTx.grow hR (t := t) (OkTx.once hR h)
theorem OkTx.tail {n : Nat} {c : Nat} {x : Tx} (h : OkTx n (c :: x)) : OkTx n x := fun d hd => h d (List.mem_cons_of_mem _ hd)
theorem OkTx.append {n : Nat} {x y : Tx} (h : OkTx n x) (k : OkTx n y) : OkTx n (x ++ y) := fun d hd => (List.mem_append.mp hd).elim (h d) (k d)
theorem lets_length (n : Nat) : (lets n).length = n := by simp [lets]
theorem cnt_length (n : Nat) (x : Tx) : (cnt n x).length = n := by simp [cnt, lets_length]
theorem lets_succ (n : Nat) : lets (n + 1) = lets n ++ [97 + n] := by simp [lets, List.range_succ]
theorem mem_lets {n c : Nat} : c ∈ lets n ↔ 97 <= c /\ c < 97 + n := by
  simp only [lets, List.mem_map, List.mem_range]
  constructor
  · rintro ⟨k, h, rfl⟩; omega
  · rintro ⟨h1, h2⟩; exact ⟨c - 97, by omega, by omega⟩
theorem lets_nodup (n : Nat) : (lets n).Nodup := by
  induction n with
  | zero => exact List.nodup_nil
  | succ n ih =>
    rw [lets_succ, List.nodup_append]
    refine ⟨ih, by simp, ?_⟩
    intro a ha b hb
    simp at hb; subst hb
    have := (mem_lets.mp ha).2
    omega
theorem lets_get {n k : Nat} (h : k < n) : (lets n)[k]? = some (97 + k) := by
  simp [lets, h]
theorem cnt_get {n k : Nat} (x : Tx) (h : k < n) : (cnt n x)[k]? = some (x.count (97 + k) : Int) := by
  simp [cnt, lets_get h]
theorem cnt_nil (n : Nat) : cnt n [] = List.replicate n 0 := by
  apply List.ext_getElem?
  intro k
  by_cases h : k < n
  · rw [cnt_get _ h]; simp [h]
  · rw [List.getElem?_eq_none (by rw [cnt_length]; omega), List.getElem?_eq_none (by simp; omega)]
theorem cnt_append (n : Nat) (x y : Tx) : cnt n (x ++ y) = List.zipWith (· + ·) (cnt n x) (cnt n y) := by
  apply List.ext_getElem?
  intro k
  by_cases h : k < n
  · rw [cnt_get _ h, List.getElem?_zipWith, cnt_get _ h, cnt_get _ h]; simp [List.count_append]
  · rw [List.getElem?_eq_none (by rw [cnt_length]; omega), List.getElem?_eq_none (by rw [List.length_zipWith, cnt_length, cnt_length]; omega)]
theorem cnt_sum {n : Nat} : ∀ {x : Tx}, OkTx n x -> (cnt n x).sum = (x.length : Int)
  | [], _ => by
    rw [cnt_nil]
    have : ∀ k : Nat, (List.replicate k (0 : Int)).sum = 0 := fun k => by induction k with | zero => rfl | succ k ih => rw [List.replicate_succ, List.sum_cons, ih]; rfl
    simpa using this n
  | c :: x, h => by
    have ih := cnt_sum h.tail
    have hc := h c List.mem_cons_self
    have key : ∀ l : Tx, l.Nodup -> (l.map fun d => ((c :: x).count d : Int)).sum = (l.map fun d => (x.count d : Int)).sum + (if c ∈ l then 1 else 0) := by
      intro l
      induction l with
      | nil => intro _; simp
      | cons d l il =>
        intro hn
        obtain ⟨h1, h2⟩ := List.nodup_cons.mp hn
        have il := il h2
        simp only [List.map_cons, List.sum_cons, il]
        by_cases e : c = d
        · subst e
          rw [List.count_cons_self, if_pos List.mem_cons_self, if_neg h1]
          omega
        · have e1 : (c :: x).count d = x.count d := List.count_cons_of_ne (by simpa using e)
          have e2 : (c ∈ d :: l) ↔ c ∈ l := by simp [e]
          rw [e1]
          by_cases hm : c ∈ l
          · rw [if_pos hm, if_pos (e2.mpr hm)]; omega
          · rw [if_neg hm, if_neg (fun z => hm (e2.mp z))]; omega
    have := key (lets n) (lets_nodup n)
    unfold cnt
    rw [this, if_pos (mem_lets.mpr hc)]
    have ih' : ((lets n).map fun d => (x.count d : Int)).sum = (x.length : Int) := ih
    rw [ih']; simp
theorem foldl_hstep_get (n : Nat) : ∀ (ps : List (Int × List Int)) (told : List Int), told.length = n -> (∀ p ∈ ps, p.2.length = n) ->
    (ps.foldl hstep told).length = n /\ ∀ k, k < n -> (ps.foldl hstep told)[k]? = some ((told.getD k 0) + (ps.map fun p => p.1 * p.2.getD k 0).sum)
  | [], told, h, _ => ⟨h, fun k hk => by simp [List.getD_eq_getElem?_getD, List.getElem?_eq_getElem (h ▸ hk : k < told.length)]⟩
  | p :: ps, told, h, hp => by
    have hl : (hstep told p).length = n := by
      unfold hstep
      split
      · exact h
      · rw [List.length_zipWith, h, hp p List.mem_cons_self]; omega
    obtain ⟨i1, i2⟩ := foldl_hstep_get n ps (hstep told p) hl fun q hq => hp q (List.mem_cons_of_mem _ hq)
    refine ⟨i1, fun k hk => ?_⟩
    rw [List.foldl_cons, i2 k hk]
    have e : (hstep told p).getD k 0 = told.getD k 0 + p.1 * p.2.getD k 0 := by
      unfold hstep
      split
      · rename_i z; rw [z]; omega
      · have q := hp p List.mem_cons_self
        rw [List.getD_eq_getElem?_getD, List.getElem?_zipWith, List.getD_eq_getElem?_getD, List.getD_eq_getElem?_getD,
          List.getElem?_eq_getElem (h ▸ hk : k < told.length), List.getElem?_eq_getElem (q ▸ hk : k < p.2.length)]
        simp
    rw [e, List.map_cons, List.sum_cons]
    congr 1
    omega
theorem hnext_length {T : List (List Int)} {h : List Int} (hT : ∀ l ∈ T, l.length = T.length) : (hnext T h).length = T.length := by
  unfold hnext
  exact (foldl_hstep_get T.length _ _ (by simp) fun p hp => hT _ (List.of_mem_zip hp).2).1
theorem hnext_get {T : List (List Int)} {h : List Int} (hT : ∀ l ∈ T, l.length = T.length) {k : Nat} (hk : k < T.length) :
    (hnext T h)[k]? = some ((List.zip h T).map fun p => p.1 * p.2.getD k 0).sum := by
  unfold hnext
  rw [(foldl_hstep_get T.length _ _ (by simp) fun p hp => hT _ (List.of_mem_zip hp).2).2 k hk]
  simp [List.getD_eq_getElem?_getD, hk]
theorem sum_by_letters {n : Nat} (f : Nat -> Int) : ∀ {x : Tx}, OkTx n x -> ((lets n).map fun c => (x.count c : Int) * f c).sum = (x.map f).sum
  | [], _ => by
    have : ∀ l : Tx, (l.map fun c => (([] : Tx).count c : Int) * f c).sum = 0 := fun l => by
      induction l with
      | nil => rfl
      | cons d l il => rw [List.map_cons, List.sum_cons, il]; simp
    simpa using this (lets n)
  | c :: x, h => by
    have ih := sum_by_letters f h.tail
    have hc := h c List.mem_cons_self
    have key : ∀ l : Tx, l.Nodup -> (l.map fun d => ((c :: x).count d : Int) * f d).sum = (l.map fun d => (x.count d : Int) * f d).sum + (if c ∈ l then f c else 0) := by
      intro l
      induction l with
      | nil => intro _; simp
      | cons d l il =>
        intro hn
        obtain ⟨h1, h2⟩ := List.nodup_cons.mp hn
        have il := il h2
        simp only [List.map_cons, List.sum_cons, il]
        by_cases e : c = d
        · subst e
          rw [List.count_cons_self, if_pos List.mem_cons_self, if_neg h1]
          have : ((x.count c + 1 : Nat) : Int) * f c = (x.count c : Int) * f c + f c := by rw [Int.natCast_add, Int.add_mul]; simp
          omega
        · have e1 : (c :: x).count d = x.count d := List.count_cons_of_ne (by simpa using e)
          have e2 : (c ∈ d :: l) ↔ c ∈ l := by simp [e]
          rw [e1]
          by_cases hm : c ∈ l
          · rw [if_pos hm, if_pos (e2.mpr hm)]; omega
          · rw [if_neg hm, if_neg (fun z => hm (e2.mp z))]; omega
    rw [key (lets n) (lets_nodup n), if_pos (mem_lets.mpr hc), ih, List.map_cons, List.sum_cons]
    omega
theorem zipWith_cnt {α β : Type} {n : Nat} (x : Tx) (v : List α) (d : α) (hv : v.length = n) (g : Int -> α -> β) :
    List.zipWith g (cnt n x) v = (lets n).map fun c => g (x.count c : Int) (v.getD (c - 97) d) := by
  apply List.ext_getElem?
  intro k
  by_cases h : k < n
  · rw [List.getElem?_zipWith, cnt_get _ h, List.getElem?_map, lets_get h, List.getElem?_eq_getElem (hv ▸ h : k < v.length)]
    have : 97 + k - 97 = k := by omega
    simp [this, List.getD_eq_getElem?_getD, List.getElem?_eq_getElem (hv ▸ h : k < v.length)]
  · rw [List.getElem?_eq_none (by rw [List.length_zipWith, cnt_length]; omega), List.getElem?_eq_none (by rw [List.length_map, lets_length]; omega)]
theorem zip_cnt {α β : Type} {n : Nat} (x : Tx) (v : List α) (d : α) (hv : v.length = n) (g : Int × α -> β) :
    (List.zip (cnt n x) v).map g = (lets n).map fun c => g ((x.count c : Int), v.getD (c - 97) d) := by
  rw [List.zip_eq_zipWith, List.map_zipWith]
  exact zipWith_cnt x v d hv fun a b => g (a, b)
theorem sum_congr_int {l : Tx} {f g : Nat -> Int} (h : ∀ c ∈ l, f c = g c) : (l.map f).sum = (l.map g).sum := by
  rw [List.map_congr_left h]
theorem length_flatMap_int (x : Tx) (F : Nat -> Tx) : ((x.flatMap F).length : Int) = (x.map fun c => ((F c).length : Int)).sum := by
  induction x with
  | nil => rfl
  | cons c x ih => rw [List.flatMap_cons, List.length_append, List.map_cons, List.sum_cons, <- ih]; simp
theorem count_flatMap_int (x : Tx) (F : Nat -> Tx) (d : Nat) : ((x.flatMap F).count d : Int) = (x.map fun c => ((F c).count d : Int)).sum := by
  induction x with
  | nil => rfl
  | cons c x ih => rw [List.flatMap_cons, List.count_append, List.map_cons, List.sum_cons, <- ih]; simp
theorem getD_map {α β : Type} (l : List α) (f : α -> β) (d : α) (e : β) {k : Nat} (h : k < l.length) : (l.map f).getD k e = f (l.getD k d) := by
  rw [List.getD_eq_getElem?_getD, List.getD_eq_getElem?_getD, List.getElem?_map, List.getElem?_eq_getElem h]; rfl
theorem weigh_lens {R : Ru} {x : Tx} (hx : OkTx R.length x) : weigh (cnt R.length x) (R.map fun r => (r.length : Int)) = ((once R x).length : Int) := by
  unfold weigh
  rw [zipWith_cnt x _ 0 (by simp) (· * ·), sum_by_letters _ hx]
  unfold once
  rw [length_flatMap_int]
  refine sum_congr_int fun c hc => ?_
  exact getD_map R _ [] 0 (by have := hx c hc; omega)
theorem table_length (R : Ru) : (table R).length = R.length := by simp [table]
theorem table_rows (R : Ru) : ∀ l ∈ table R, l.length = (table R).length := by
  intro l hl
  obtain ⟨r, _, rfl⟩ := List.mem_map.mp hl
  rw [cnt_length, table_length]
theorem hnext_cnt {R : Ru} {x : Tx} (hx : OkTx R.length x) : hnext (table R) (cnt R.length x) = cnt R.length (once R x) := by
  apply List.ext_getElem?
  intro k
  by_cases h : k < R.length
  · rw [hnext_get (table_rows R) (by rw [table_length]; exact h), cnt_get _ h, zip_cnt x (table R) [] (table_length R) (fun p => p.1 * p.2.getD k 0), sum_by_letters _ hx]
    unfold once
    rw [count_flatMap_int]
    congr 1
    refine sum_congr_int fun c hc => ?_
    have hk : c - 97 < R.length := by have := hx c hc; omega
    unfold table
    rw [getD_map R _ [] [] hk, List.getD_eq_getElem?_getD, cnt_get _ h]
    rfl
  · rw [List.getElem?_eq_none (by rw [hnext_length (table_rows R), table_length]; omega), List.getElem?_eq_none (by rw [cnt_length]; omega)]
noncomputable def beh (R S : Ru) : Ru := R.map (once S)
theorem beh_length (R S : Ru) : (beh R S).length = R.length := by simp [beh]
theorem OkRu.beh {R S : Ru} (hR : OkRu R) (hS : OkRu S) (e : S.length = R.length) : OkRu (beh R S) where
  pos := by rw [beh_length]; exact hR.pos
  top := by rw [beh_length]; exact hR.top
  all := by
    rintro r hr
    rw [beh_length]
    obtain ⟨q, hq, rfl⟩ := List.mem_map.mp hr
    rw [<- e]
    exact OkTx.once hS (by rw [e]; exact hR.all q hq)
end GM
namespace GS
open PySem PySem.Spec PyProof.Rows
noncomputable def fm (val : Nat -> Str) : Nat -> List Str
  | 0 => []
  | i + 1 => if val i ∈ fm val i then fm val i else fm val i ++ [val i]
theorem mem_fm (val : Nat -> Str) : ∀ (i : Nat) (k : Str), k ∈ fm val i ↔ ∃ j, j < i /\ val j = k
  | 0, k => by simp [fm]
  | i + 1, k => by
    have ih := mem_fm val i k
    have key : k ∈ fm val (i + 1) ↔ (k ∈ fm val i \/ k = val i) := by
      show k ∈ (if val i ∈ fm val i then fm val i else fm val i ++ [val i]) ↔ _
      split
      · rename_i h
        exact ⟨.inl, fun z => z.elim id fun e => e ▸ h⟩
      · simp
    rw [key, ih]
    constructor
    · rintro (⟨j, h, e⟩ | e)
      · exact ⟨j, by omega, e⟩
      · exact ⟨i, by omega, e.symm⟩
    · rintro ⟨j, h, e⟩
      by_cases q : j = i
      · subst q; exact .inr e.symm
      · exact .inl ⟨j, by omega, e⟩
theorem fm_nodup (val : Nat -> Str) : ∀ i, (fm val i).Nodup
  | 0 => List.nodup_nil
  | i + 1 => by
    show (if val i ∈ fm val i then fm val i else fm val i ++ [val i]).Nodup
    split
    · exact fm_nodup val i
    · rename_i h
      rw [List.nodup_append]
      refine ⟨fm_nodup val i, by simp, fun a ha b hb => ?_⟩
      simp at hb; subst hb
      exact fun e => h (e ▸ ha)
theorem fm_step (val : Nat -> Str) (i : Nat) (k : Str) : decide (k ∈ fm val (i + 1)) = (decide (k ∈ fm val i) || decide (k = val i)) := by
  rw [Bool.eq_iff_iff]
  simp only [decide_eq_true_eq, Bool.or_eq_true]
  show k ∈ (if val i ∈ fm val i then fm val i else fm val i ++ [val i]) ↔ _
  split
  · rename_i h
    exact ⟨.inl, fun z => z.elim id fun e => e ▸ h⟩
  · simp
theorem fm_len (val : Nat -> Str) (i : Nat) : (fm val (i + 1)).length = if decide (val i ∈ fm val i) = true then (fm val i).length else (fm val i).length + 1 := by
  show (if val i ∈ fm val i then fm val i else fm val i ++ [val i]).length = _
  by_cases h : val i ∈ fm val i
  · simp [h]
  · simp [h]
section
variable {prog : Program} {w : World} {A : Around} {R : Result -> Shared -> Prop} {I : Addr} {fp wr : List Addr} {G : Array GenState -> Array GenState -> Prop} {n : Nat} {P : Nat -> Value -> Prop} {St : Nat -> Shared -> Prop}
theorem set_loop_str (W : WalksS prog w A.in1 I fp wr G n P St) (S : Addr) (hSf : S ∉ fp)
    (val : Nat -> Str) (hval : ∀ i v, P i v -> ∃ t, v = .str (val i) t) (hb : ∀ i, (fm val i).length + 1 < scanBound) :
    ∀ (k i : Nat) (s : Shared), n - i = k -> i <= n -> St i s ->
      s.heap.SetOf (strKind prog w) S (fun k' => decide (k' ∈ fm val i)) (fm val i).length ->
      (∀ s', Moved (S :: wr) G s s' -> s'.heap.SetOf (strKind prog w) S (fun k' => decide (k' ∈ fm val n)) (fm val n).length -> R (.ok (.ret .none)) s') ->
      codeAny (model prog w) A (.builtin "set.update.loop" ⟨[.ref S, .ref I], []⟩) R s := by
  have hSw : S ∉ wr := fun h => hSf (W.sub _ h)
  have hsub : ∀ b ∈ wr, b ∈ S :: wr := fun b hb => List.mem_cons_of_mem _ hb
  intro k
  induction k with
  | zero =>
    intro i s hk hi hst hS hR
    have hin : i = n := by omega
    subst hin
    refine codeAny_builtin F.entry_set_update_loop ?_
    rw [Around.under_plainId F.plain_set_update_loop _]
    show wpAny _ A.in1 (pyNext (.ref I) >>= _) _ _ s
    refine wpAny_bind (W.done s _ _ hst fun s' hm => ?_)
    show wpAny _ A.in1 (ret Value.none) _ _ s'
    exact wpAny_pure (hR s' (hm.mono hsub) (by
      obtain ⟨o, es, ep, t, ho, rest⟩ := hS
      exact ⟨o, es, ep, t, hm.heap S _ hSw ho, rest⟩))
  | succ k ih =>
    intro i s hk hi hst hS hR
    have hlt : i < n := by omega
    refine codeAny_builtin F.entry_set_update_loop ?_
    rw [Around.under_plainId F.plain_set_update_loop _]
    show wpAny _ A.in1 (pyNext (.ref I) >>= _) _ _ s
    refine wpAny_bind (W.item i s _ _ hlt hst fun v s' hP hst' hm => ?_)
    obtain ⟨t, rfl⟩ := hval i v hP
    have hS' : s'.heap.SetOf (strKind prog w) S (fun k' => decide (k' ∈ fm val i)) (fm val i).length := by
      obtain ⟨o, es, ep, tb, ho, rest⟩ := hS
      exact ⟨o, es, ep, tb, hm.heap S _ hSw ho, rest⟩
    show wpAny _ A.in1 (holding [Value.str (val i) t] (setAdd S (.str (val i) t)) >>= _) _ _ s'
    refine wpAny_bind (wpAny_holding ?_)
    unfold setAdd
    refine wpAny_holding ?_
    refine wpAny_bind ((strKind prog w).pyHash (k := val i) (strKind_is _ _ _ _) ?_)
    refine wpAny_setAddHashed_of (knd := strKind prog w) (s := { s' with toks := s'.toks + 1 }) (strKind_is _ _ _ _) rfl hS' (hb i) fun h' hsb hS2 => ?_
    have hSi : h'.SetOf (strKind prog w) S (fun k' => decide (k' ∈ fm val (i + 1))) (fm val (i + 1)).length :=
      SetOf_congr hS2 (fun k' => (fm_step val i k').symm) (fm_len val i).symm
    refine wpAny_pure ⟨plainId_quiet F.plain_set_update_loop _, ih (i + 1) _ (by omega) hlt (W.frame _ s' _ _ hst' (Nat.le_succ _) fun b hb o e => ?_) hSi fun s'' hm'' hS'' => ?_⟩
    · rw [hsb.2 b (fun h : b = S => hSf (by rw [<- h]; exact hb))]; exact e
    · refine hR s'' (Moved.trans W.gtrans ((hm.mono hsub).then_heap (Nat.le_succ _) fun b o hb e => ?_) hm'') hS''
      rw [hsb.2 b (fun h : b = S => hb (by rw [h]; exact List.mem_cons_self))]; exact e
end
namespace F
theorem sub_str_set : isSubtype (.type "str") (.type "set") = pure false := by rw [isSubtype_type]; kernel_rfl
theorem sub_str_frozenset : isSubtype (.type "str") (.type "frozenset") = pure false := by rw [isSubtype_type]; kernel_rfl
theorem entry_set_sub : entryFor table "set.__sub__" = some Builtin.«frozenset.__sub__» :=
  entryFor_alias (id' := "frozenset.__sub__") (by kernel_rfl) rfl (by decide +kernel) (by kernel_rfl)
end F
noncomputable def sg (x : Str) (i : Nat) : Str := ⟨#[x.cps.getD i 0]⟩
section
variable {prog : Program} {w : World} {A : Around} {E : Value -> Shared -> Prop} {s : Shared}
set_option maxHeartbeats 3200000 in
theorem call_set_str {x : Str} {t : Tok} {Q : Value -> Shared -> Prop}
    (hh : A.handled = none) (hb : ∀ i, (fm (sg x) i).length + 1 < scanBound)
    (h : ∀ (h' : Heap) (tk : Nat), h'.SetOf (strKind prog w) s.heap.objs.size (fun k' => decide (k' ∈ fm (sg x) x.cps.size)) (fm (sg x) x.cps.size).length ->
      (∀ b o, b < s.heap.objs.size -> s.heap.get? b = some o -> h'.get? b = some o) -> Q (.ref s.heap.objs.size) { s with heap := h', toks := tk }) :
    wpAny (model prog w) A (call (.type "set") [.str x t]) Q E s := by
  obtain ⟨c, tl, hmro⟩ := PySem.F.called_set.mro
  have hmade := PySem.F.called_set.made
  have hsub := PySem.F.called_set.sub
  refine wpAny_call (codeAny_of_tree ?_)
  show wpAny _ _ (callAny (.type "set") _) _ _ _
  refine wpAny_pure ⟨Code.quiet_builtin _ (by decide +kernel), codeAny_builtin PySem.F.entry_type_call ?_⟩
  rw [Around.under_plain (weight_type_call_type "set" [.str x t] []) rfl]
  have h1 := PySem.F.called_set.notType
  have h2 := PySem.F.called_set.canCreate
  have hct := PySem.F.typeCall_set_1 (.str x t)
  repeat (any_goals (first | assumption | wp_step))
  refine codeAny_mono (code_set_new_1 (.str x t) (E := E) (Q₁ := fun obj s₁ => ∃ led : Bool, obj = .ref s.heap.objs.size /\ s₁ = { s with heap := s.heap.push { cls := .type "set", dict := none, data := .set #[] 0 (.fresh 0 0 led) } }) fun led => ⟨led, rfl, rfl⟩) fun r s₁ hr => ?_
  cases r with
  | error e => exact hr
  | ok fl =>
    cases fl with
    | ret obj =>
      obtain ⟨led, rfl, rfl⟩ := hr
      have hS : (s.heap.push { cls := .type "set", dict := none, data := .set #[] 0 (.fresh 0 0 led) }).get? s.heap.objs.size = some { cls := .type "set", dict := none, data := .set #[] 0 (.fresh 0 0 led) } := Heap.get?_push_size _ rfl
      have hT : Shared.TypeIs { s with heap := s.heap.push { cls := .type "set", dict := none, data := .set #[] 0 (.fresh 0 0 led) } } (.ref s.heap.objs.size) "set" := ⟨_, hS, rfl⟩
      have hli := PySem.F.called_set.init.lookup
      have hbi := PySem.F.called_set.init.bind (.ref s.heap.objs.size)
      repeat (any_goals (first | assumption | wp_step))
      refine codeAny_mono (codeAny_call_builtin (R := wants (fun r s₂ => r = .none /\ ∃ h' tk, s₂ = { s with heap := h', toks := tk } /\
          h'.SetOf (strKind prog w) s.heap.objs.size (fun k' => decide (k' ∈ fm (sg x) x.cps.size)) (fm (sg x) x.cps.size).length /\
          (∀ b o, b < s.heap.objs.size -> s.heap.get? b = some o -> h'.get? b = some o)) E) PySem.F.called_set.init.plain PySem.F.entry_set_init (check_set_init_1 hT ?_)) fun r₂ s₂ hr₂ => ?_
      · have hsls := F.sub_str_set
        have hslf := F.sub_str_frozenset
        have hne : (Value.type "str" == Value.type "dict") = false := by decide
        unfold Builtin.«set.__init__» noKeywords Builtin.Frozenset.updateFrom
        generalize hPI : pyIter = PI
        wp_walk
        subst hPI
        refine wpAny_pyIter_str fun o St hW hSt => ?_
        refine wpAny_bind (wpAny_runValue ?_)
        have hh3 : A.in1.in1.in1.handled = none := by simp [hh]
        have hSf : s.heap.objs.size ∉ [(s.heap.push { cls := .type "set", dict := none, data := .set #[] 0 (.fresh 0 0 led) }).objs.size] := by
          rw [Heap.size_push]; simp only [List.mem_cons, List.not_mem_nil, or_false]
          exact Nat.ne_of_lt (Nat.lt_succ_self _)
        have hval : ∀ (i : Nat) (v : Value), SignAt x i v -> ∃ t, v = .str (sg x i) t := fun i v hv => by
          obtain ⟨c, u, e, rfl⟩ := hv
          refine ⟨u, ?_⟩
          unfold sg
          rw [Array.getD_eq_getD_getElem?, e]; rfl
        refine set_loop_str ((hW _ hh3).toS) s.heap.objs.size
          hSf (sg x) hval hb (x.cps.size - 0) 0 _ (by omega) (Nat.zero_le _) hSt ?hS0 ?hR
        case hS0 =>
          have hget : ((s.heap.push { cls := .type "set", dict := none, data := .set #[] 0 (.fresh 0 0 led) }).push o).get? s.heap.objs.size
              = some { cls := .type "set", dict := none, data := .set #[] 0 (.fresh 0 0 led) } := Heap.get?_push_of_some _ hS
          exact PyProof.Rows.SetOf_congr ((PyProof.Rows.setObjOf_fresh (knd := strKind prog w) led).setOf hget (by unfold scanBound; omega)) (fun _ => by simp [fm]) rfl
        case hR =>
          intro s' hm hS'
          obtain ⟨h', g', d', tk', os'⟩ := s'
          have eg : g' = s.gens := hm.gens
          have ed : d' = s.drawn := hm.drawn
          have eo : os' = s.os := hm.os
          subst eg; subst ed; subst eo
          show wpAny _ _ _ _ _ _
          refine wpAny_pure ?_
          show wpAny _ _ (ret Value.none) _ _ _
          refine wpAny_pure ⟨rfl, h', tk', rfl, hS', fun b o hb e => ?_⟩
          have hb1 : b ≠ s.heap.objs.size := Nat.ne_of_lt hb
          have hb2 : b ≠ (s.heap.push { cls := .type "set", dict := none, data := .set #[] 0 (.fresh 0 0 led) }).objs.size := by
            rw [Heap.size_push]; exact Nat.ne_of_lt (Nat.lt_succ_of_lt hb)
          exact hm.heap b o (by simp only [List.mem_cons, List.mem_singleton, List.not_mem_nil, or_false, not_or]; exact ⟨hb1, hb2⟩) (Heap.get?_push_of_some _ (Heap.get?_push_of_some _ e))
      · cases r₂ with
        | error e => exact hr₂
        | ok fl₂ =>
          cases fl₂ with
          | ret r =>
            obtain ⟨rfl, h', tk, rfl, hS', hk'⟩ := hr₂
            repeat (any_goals (first | assumption | wp_step))
            exact h _ _ hS' hk'
          | _ => exact hr₂.elim
    | _ => exact hr.elim
end
end GS
namespace GS
open PySem PySem.Spec PyProof.Rows
namespace FB
theorem entry_set_sub : entryFor table "set.__sub__" = some Builtin.«frozenset.__sub__» :=
  entryFor_alias (id' := "frozenset.__sub__") (by kernel_rfl) rfl (by decide +kernel) (by kernel_rfl)
end FB
section
variable {prog : Program} {w : World} {K : Type} [DecidableEq K] [BEq K] [LawfulBEq K] {knd : KeyKind prog w K} {A : Around} {E : Value -> Shared -> Prop} {s : Shared}
theorem setsQuiet_true {Q : Bool -> Shared -> Prop} : ∀ (sets : List Addr), (∀ a ∈ sets, ∃ S n, s.heap.SetOf knd a S n) -> Q true s -> wpAny (model prog w) A (setsQuiet sets) Q E s := by
  intro sets hs h
  unfold setsQuiet
  refine wpAny_bind (wpAny_forIn_list _ (fun rest r s' => (∀ a ∈ rest, a ∈ sets) /\ r = (none, ()) /\ s' = s) _ ?_ ?_ sets _ ⟨fun _ h => h, rfl, rfl⟩)
  · rintro a rest r s' ⟨hm, rfl, rfl⟩
    obtain ⟨S, n, o, es, ep, t, ho, hex, hd, hel, _, _, hf, _⟩ := hs a (hm a List.mem_cons_self)
    refine wpAny_bind (wpAny_setEntries_of ho hd hf ?_)
    refine wpAny_bind (PySem.MeetsSeq2.wpAny_forIn_array _ (fun rest' r s'' => (∀ e ∈ rest', e ∈ es.toList) /\ r = (none, ()) /\ s'' = s') _ ?_ ?_ es _ ⟨fun _ h => h, rfl, rfl⟩)
    · rintro ⟨hh, x⟩ rest' r s'' ⟨hm', rfl, rfl⟩
      have hx := (hel _ (hm' _ List.mem_cons_self)).2
      cases x <;> first | exact wpAny_pure ⟨fun e he => hm' e (List.mem_cons_of_mem _ he), rfl, rfl⟩ | simp [Value.scannable] at hx
    · rintro r s'' ⟨_, rfl, rfl⟩
      exact wpAny_pure ⟨fun b hb => hm b (List.mem_cons_of_mem _ hb), rfl, rfl⟩
  · rintro r s' ⟨_, rfl, rfl⟩
    exact wpAny_pure h
end
section
variable {prog : Program} {w : World} {A : Around} {E : Value -> Shared -> Prop} {s : Shared}
theorem isAny {v : Value} {Q : Bool -> Shared -> Prop} (t : s.TypeIs v "set") (h : Q true s) : wpAny (model prog w) A (Builtin.Frozenset.isAnySet v) Q E s := by
  unfold Builtin.Frozenset.isAnySet
  exact wpAny_bind (wpAny_isInstance t sub_set_self (wpAny_pure h))
end
end GS
namespace GZ
open PySem
structure Nx (prog : Program) (w : World) (it : Addr) (fp : List Addr) (n : Nat) (P : Nat -> Value -> Prop) (St : Nat -> Heap -> Prop) : Prop where
  mem : it ∈ fp
  frame : ∀ i h h', St i h -> (∀ b ∈ fp, ∀ o, h.get? b = some o -> h'.get? b = some o) -> St i h'
  obj : ∀ i h, St i h -> ∀ b ∈ fp, ∃ o, h.get? b = some o /\ o.cls ≠ .type "StopIteration"
  item : ∀ (A : Around) (i : Nat) (s : Shared) (Q : Value -> Shared -> Prop) (E : Value -> Shared -> Prop), i < n -> St i s.heap ->
    (∀ v h' tk, P i v -> St (i + 1) h' -> Heap.SameBut it s.heap h' -> Q v { s with heap := h', toks := tk }) -> wpAny (model prog w) A (Builtin.SmallTypes.nextOf (.ref it)) Q E s
  done : ∀ (A : Around) (i : Nat) (s : Shared) (Q : Value -> Shared -> Prop) (E : Value -> Shared -> Prop), A.handled = none -> n <= i -> St i s.heap ->
    (∀ h' e, Heap.ExtBut it s.heap h' -> (∃ o, h'.get? e = some o /\ o.cls = .type "StopIteration") -> E (.ref e) { s with heap := h' }) -> wpAny (model prog w) A (Builtin.SmallTypes.nextOf (.ref it)) Q E s
theorem nx_list {prog : Program} {w : World} (it l : Addr) (hne : l ≠ it) (items : Array Value) :
    Nx prog w it [it, l] items.size (fun i v => items[i]? = some v) (fun i h => h.IsListIter it l i /\ h.IsList l items) where
  mem := by simp
  frame := fun i h h' st k => ⟨st.1.at fun o e => k it (by simp) o e, st.2.at fun o e => k l (by simp) o e⟩
  obj := fun i h st b hb => by
    simp at hb
    rcases hb with rfl | rfl
    · obtain ⟨o, e, c, _⟩ := st.1; exact ⟨o, e, by rw [c]; decide⟩
    · obtain ⟨o, e, c, _⟩ := st.2; exact ⟨o, e, by rw [c]; decide⟩
  item := fun A i s Q E hi st hQ => wpAny_nextOf_list_item st.1 st.2 (Array.getElem?_eq_getElem hi) fun h' a b => hQ _ h' s.toks (Array.getElem?_eq_getElem hi) ⟨a, st.2.extBut b.extBut hne⟩ b
  done := fun A i s Q E hh hi st hE => wpAny_nextOf_list_end hh st.1 st.2 (Array.getElem?_eq_none hi) hE
theorem nx_ascii {prog : Program} {w : World} (it : Addr) (x : Str) (t : Tok) :
    Nx prog w it [it] x.cps.size (SignAt x) (fun i h => h.IsStrIter it "str_ascii_iterator" x t i) where
  mem := by simp
  frame := fun i h h' st k => by obtain ⟨o, e, r⟩ := st; exact ⟨o, k it (by simp) o e, r⟩
  obj := fun i h st b hb => by
    simp at hb; subst hb
    obtain ⟨o, e, c, _⟩ := st; exact ⟨o, e, by rw [c]; decide⟩
  item := fun A i s Q E hi st hQ => wpAny_nextOf_ascii_item st (Array.getElem?_eq_getElem hi) fun h' a b => hQ _ h' _ ⟨_, _, Array.getElem?_eq_getElem hi, rfl⟩ a b
  done := fun A i s Q E hh hi st hE => wpAny_nextOf_ascii_end hh st (Array.getElem?_eq_none hi) hE
noncomputable abbrev IsZ (h : Heap) (z TI TO : Addr) (f0 f1 : Value) : Prop :=
  h.get? z = some { cls := .type "zip", dict := none, data := .fields #[f0, f1, .bool false, .ref TI, .ref TO], slots := #[] }
structure ZA (z TI TO i1 i2 : Addr) (fp1 fp2 : List Addr) : Prop where
  TIz : TI ≠ z
  TOz : TO ≠ z
  TITO : TI ≠ TO
  z1 : z ∉ fp1
  z2 : z ∉ fp2
  o1 : TO ∉ fp1
  o2 : TO ∉ fp2
  t1 : TI ∉ fp1
  t2 : TI ∉ fp2
  i12 : i1 ∉ fp2
  i21 : i2 ∉ fp1
theorem fr_but {h h' : Heap} {a : Addr} {fp : List Addr} (k : Heap.SameBut a h h') (n : a ∉ fp) : ∀ b ∈ fp, ∀ o, h.get? b = some o -> h'.get? b = some o :=
  fun b hb o e => k.extBut b o (fun q => n (q ▸ hb)) e
theorem loadIfAlive_ {M : Model} {A : Around} {E : Value -> Shared -> Prop} {s : Shared} {a : Addr} {Q : Option Obj -> Shared -> Prop} (h : Q (s.heap.get? a) s) : wpAny M A (loadIfAlive a) Q E s := fun Γ p _ => by
  unfold loadIfAlive
  rw [Sem.wp_loadIfAlive]
  exact (Sem.wp_pure ..).mpr h
section
variable {prog : Program} {w : World} {A : Around} {E : Value -> Shared -> Prop} {s : Shared}
variable {z TI TO i1 i2 : Addr} {fp1 fp2 : List Addr} {n1 n2 : Nat} {P1 P2 : Nat -> Value -> Prop} {St1 St2 : Nat -> Heap -> Prop}
theorem zip_item_free (N1 : Nx prog w i1 fp1 n1 P1 St1) (N2 : Nx prog w i2 fp2 n2 P2 St2) (D : ZA z TI TO i1 i2 fp1 fp2) {k : Nat} {f1 a b : Value} {Q : Value -> Shared -> Prop}
    (hz : IsZ s.heap z TI TO .none f1) (hTI : IsPair s.heap TI (.ref i1) (.ref i2)) (hTO : IsPair s.heap TO a b) (h1 : St1 k s.heap) (h2 : St2 k s.heap) (hk1 : k < n1) (hk2 : k < n2)
    (hQ : ∀ x y h' tk, P1 k x -> P2 k y -> IsZ h' z TI TO (rawInt s.heap.objs.size) (.bool false) -> IsPair h' TI (.ref i1) (.ref i2) -> IsPair h' TO x y -> St1 (k + 1) h' -> St2 (k + 1) h' -> IsPair h' s.heap.objs.size x y -> h'.objs.size = s.heap.objs.size + 1 ->
      (∀ c o, c ≠ z -> c ≠ TO -> c ≠ i1 -> c ≠ i2 -> s.heap.get? c = some o -> h'.get? c = some o) -> Q (.ref s.heap.objs.size) { s with heap := h', toks := tk }) :
    wpAny (model prog w) A (Builtin.«zip.__next__» ⟨[.ref z], []⟩) (fun fin s' => ∃ v, fin = .done (.ret v) /\ Q v s') E s := by
  have n1z : i1 ≠ z := fun q => D.z1 (q ▸ N1.mem)
  have n2z : i2 ≠ z := fun q => D.z2 (q ▸ N2.mem)
  have n1o : i1 ≠ TO := fun q => D.o1 (q ▸ N1.mem)
  have n2o : i2 ≠ TO := fun q => D.o2 (q ▸ N2.mem)
  have n1t : i1 ≠ TI := fun q => D.t1 (q ▸ N1.mem)
  have n2t : i2 ≠ TI := fun q => D.t2 (q ▸ N2.mem)
  have n12 : i1 ≠ i2 := fun q => D.i12 (q ▸ N2.mem)
  show wpAny _ _ (field (.ref z) 2 >>= _) _ _ _
  refine wpAny_bind (wpAny_field hz rfl (x := .bool false) rfl ?_)
  show wpAny _ _ (field (.ref z) 3 >>= _) _ _ _
  refine wpAny_bind (wpAny_field hz rfl (x := .ref TI) rfl ?_)
  refine wpAny_bind (wpAny_seqItems hTI rfl ?_)
  show wpAny _ _ (Builtin.SmallTypes.ownedTupleIsFree (.ref z) >>= _) _ _ _
  refine wpAny_bind ?_
  unfold Builtin.SmallTypes.ownedTupleIsFree
  refine wpAny_bind (wpAny_field hz rfl (x := .none) rfl (wpAny_pure ?_))
  simp only [if_true]
  refine wpAny_bind (wpAny_rule ?_)
  refine wpAny_bind (wpAny_field hz rfl (x := .ref TO) rfl ?_)
  refine wpAny_bind (wpAny_setField_rec hz (by simp) fun hA hzA sA => ?_)
  replace hzA : IsZ hA z TI TO .ellipsis f1 := hzA
  refine wpAny_bind ?_
  simp only [List.zipIdx_cons, List.zipIdx_nil, List.forIn_cons, List.forIn_nil]
  refine wpAny_bind (wpAny_bind (wpAny_onRaise ?_))
  show wpAny _ _ (Builtin.SmallTypes.nextOf (.ref i1) >>= _) _ _ _
  refine wpAny_bind (N1.item _ k _ _ _ hk1 (N1.frame _ _ _ h1 (fr_but sA D.z1)) fun x hB tkB px st1B sB => wpAny_pure ?_)
  have oB : IsPair hB TO a b := sB.extBut _ _ n1o.symm (sA.extBut _ _ D.TOz hTO)
  refine wpAny_bind (wpAny_seqItems oB rfl ?_)
  refine wpAny_bind (wpAny_updateSeq_pair oB fun hC oC sC => ?_)
  replace oC : IsPair hC TO x b := oC
  refine wpAny_bind (wpAny_letGo (wpAny_pure ?_))
  refine wpAny_bind (wpAny_bind (wpAny_onRaise ?_))
  show wpAny _ _ (Builtin.SmallTypes.nextOf (.ref i2) >>= _) _ _ _
  have st2C : St2 k hC := N2.frame _ _ _ (N2.frame _ _ _ (N2.frame _ _ _ h2 (fr_but sA D.z2)) (fr_but sB D.i12)) (fr_but sC D.o2)
  refine wpAny_bind (N2.item _ k _ _ _ hk2 st2C fun y hE tkE py st2E sE => wpAny_pure ?_)
  have oE : IsPair hE TO x b := sE.extBut _ _ n2o.symm oC
  refine wpAny_bind (wpAny_seqItems oE rfl ?_)
  refine wpAny_bind (wpAny_updateSeq_pair oE fun hF oF sF => ?_)
  replace oF : IsPair hF TO x y := oF
  refine wpAny_bind (wpAny_letGo (wpAny_pure (wpAny_pure ?_)))
  refine wpAny_bind (wpAny_seqItems oF rfl ?_)
  refine wpAny_bind (wpAny_newTuple ?_)
  have hsz : hF.objs.size = s.heap.objs.size := by rw [sF.1, sE.1, sC.1, sB.1, sA.1]
  have hzF : IsZ hF z TI TO .ellipsis f1 := sF.extBut _ _ D.TOz.symm (sE.extBut _ _ n2z.symm (sC.extBut _ _ D.TOz.symm (sB.extBut _ _ n1z.symm hzA)))
  have hkF : ∀ c o, c ≠ z -> c ≠ TO -> c ≠ i1 -> c ≠ i2 -> s.heap.get? c = some o -> hF.get? c = some o := fun c o c1 c2 c3 c4 e =>
    sF.extBut _ _ c2 (sE.extBut _ _ c4 (sC.extBut _ _ c2 (sB.extBut _ _ c3 (sA.extBut _ _ c1 e))))
  have s1F : St1 (k + 1) hF := N1.frame _ _ _ (N1.frame _ _ _ (N1.frame _ _ _ st1B (fr_but sC D.o1)) (fr_but sE D.i21)) (fr_but sF D.o1)
  have s2F : St2 (k + 1) hF := N2.frame _ _ _ st2E (fr_but sF D.o2)
  have hzlt : z < hF.objs.size := Heap.lt_size hzF
  show wpAny _ _ (Builtin.SmallTypes.ownedTupleHandOut (.ref z) (.ref hF.objs.size) >>= _) _ _ _
  refine wpAny_bind ?_
  unfold Builtin.SmallTypes.ownedTupleHandOut
  have hzG : IsZ (hF.push { cls := .type "tuple", data := .seq #[x, y] }) z TI TO .ellipsis f1 := Heap.get?_push_of_some _ hzF
  refine wpAny_bind (wpAny_setField_rec hzG (by simp) fun hI hzI sI => ?_)
  replace hzI : IsZ hI z TI TO (rawInt hF.objs.size) f1 := hzI
  refine wpAny_setField_rec hzI (by simp) fun hJ hzJ sJ => ?_
  replace hzJ : IsZ hJ z TI TO (rawInt hF.objs.size) (.bool false) := hzJ
  have up : ∀ c o, c ≠ z -> hF.get? c = some o -> hJ.get? c = some o := fun c o c1 e => sJ.extBut _ _ c1 (sI.extBut _ _ c1 (Heap.get?_push_of_some _ e))
  have hTJ : IsPair hJ hF.objs.size x y := sJ.extBut _ _ (Nat.ne_of_gt hzlt) (sI.extBut _ _ (Nat.ne_of_gt hzlt) (Heap.get?_push_size _ rfl))
  have hz8 : hJ.objs.size = hF.objs.size + 1 := by rw [sJ.1, sI.1, Heap.size_push]
  have u1 : ∀ b ∈ fp1, ∀ o, hF.get? b = some o -> hJ.get? b = some o := fun b hb o e => up b o (fun q => D.z1 (q ▸ hb)) e
  have u2 : ∀ b ∈ fp2, ∀ o, hF.get? b = some o -> hJ.get? b = some o := fun b hb o e => up b o (fun q => D.z2 (q ▸ hb)) e
  rw [hsz] at hzJ hTJ hz8
  refine wpAny_pure ⟨_, rfl, ?_⟩
  show Q (.ref hF.objs.size) _
  rw [hsz]
  exact hQ x y hJ _ px py hzJ (up _ _ D.TIz (hkF _ _ D.TIz D.TITO n1t.symm n2t.symm hTI)) (up _ _ D.TOz oF) (N1.frame _ _ _ s1F u1) (N2.frame _ _ _ s2F u2) hTJ hz8 fun c o c1 c2 c3 c4 e => up c o c1 (hkF c o c1 c2 c3 c4 e)
theorem zip_item_held (N1 : Nx prog w i1 fp1 n1 P1 St1) (N2 : Nx prog w i2 fp2 n2 P2 St2) (D : ZA z TI TO i1 i2 fp1 fp2) {k : Nat} {f1 : Bool} {T : Addr} {oT : Obj} {Q : Value -> Shared -> Prop}
    (hz : IsZ s.heap z TI TO (rawInt T) (.bool f1)) (hT : s.heap.get? T = some oT) (hTI : IsPair s.heap TI (.ref i1) (.ref i2)) (h1 : St1 k s.heap) (h2 : St2 k s.heap) (hk1 : k < n1) (hk2 : k < n2)
    (hQ : ∀ x y h' tk p, P1 k x -> P2 k y -> IsZ h' z TI TO (rawInt T) (.bool true) -> IsPair h' TI (.ref i1) (.ref i2) -> St1 (k + 1) h' -> St2 (k + 1) h' -> IsPair h' p x y -> s.heap.objs.size <= p ->
      (∀ c o, c ≠ z -> c ≠ i1 -> c ≠ i2 -> s.heap.get? c = some o -> h'.get? c = some o) -> Q (.ref p) { s with heap := h', toks := tk }) :
    wpAny (model prog w) A (Builtin.«zip.__next__» ⟨[.ref z], []⟩) (fun fin s' => ∃ v, fin = .done (.ret v) /\ Q v s') E s := by
  have n1z : i1 ≠ z := fun q => D.z1 (q ▸ N1.mem)
  have n2z : i2 ≠ z := fun q => D.z2 (q ▸ N2.mem)
  have n1t : i1 ≠ TI := fun q => D.t1 (q ▸ N1.mem)
  have n2t : i2 ≠ TI := fun q => D.t2 (q ▸ N2.mem)
  show wpAny _ _ (field (.ref z) 2 >>= _) _ _ _
  refine wpAny_bind (wpAny_field hz rfl (x := .bool false) rfl ?_)
  show wpAny _ _ (field (.ref z) 3 >>= _) _ _ _
  refine wpAny_bind (wpAny_field hz rfl (x := .ref TI) rfl ?_)
  refine wpAny_bind (wpAny_seqItems hTI rfl ?_)
  show wpAny _ _ (Builtin.SmallTypes.ownedTupleIsFree (.ref z) >>= _) _ _ _
  refine wpAny_bind ?_
  unfold Builtin.SmallTypes.ownedTupleIsFree
  refine wpAny_bind (wpAny_field hz rfl (x := rawInt T) rfl ?_)
  show wpAny _ _ (loadIfAlive (Int.toNat (T : Int)) >>= _) _ _ _
  refine wpAny_bind (loadIfAlive_ ?_)
  rw [Int.toNat_natCast, hT]
  simp only [Option.isNone_some, Bool.false_eq_true, if_false]
  refine wpAny_mono (Q := fun a s' => a = false /\ ∃ h₀, s' = { s with heap := h₀ } /\ IsZ h₀ z TI TO (rawInt T) (.bool true) /\ h₀.objs.size = s.heap.objs.size /\ ∀ c o, c ≠ z -> s.heap.get? c = some o -> h₀.get? c = some o) ?first ?second (fun _ _ e => e)
  case first =>
    refine wpAny_bind (wpAny_field hz rfl (x := .bool f1) rfl ?_)
    cases f1 with
    | true =>
      show wpAny _ _ (if (Value.bool true != Value.bool true) = true then _ else _) _ _ _
      rw [if_neg (by decide)]
      exact wpAny_pure ⟨rfl, s.heap, rfl, hz, rfl, fun _ _ _ e => e⟩
    | false =>
      show wpAny _ _ (if (Value.bool false != Value.bool true) = true then _ else _) _ _ _
      rw [if_pos (by decide)]
      refine wpAny_bind (wpAny_setField_rec hz (by simp) fun hA hzA sA => wpAny_pure ⟨rfl, hA, rfl, hzA, sA.1, fun c o h e => sA.extBut _ _ h e⟩)
  case second =>
    rintro a s' ⟨rfl, h₀, rfl, hz₀, hs₀, hk₀⟩
    simp only [Bool.false_eq_true, if_false]
    refine wpAny_bind ?_
    have u1 : ∀ b ∈ fp1, ∀ o, s.heap.get? b = some o -> h₀.get? b = some o := fun b hb o e => hk₀ b o (fun q => D.z1 (q ▸ hb)) e
    have u2 : ∀ b ∈ fp2, ∀ o, s.heap.get? b = some o -> h₀.get? b = some o := fun b hb o e => hk₀ b o (fun q => D.z2 (q ▸ hb)) e
    simp only [List.forIn_toArray, List.forIn_cons, List.forIn_nil]
    refine wpAny_bind (wpAny_bind (wpAny_holding ?_))
    show wpAny _ _ (Builtin.SmallTypes.nextOf (.ref i1) >>= _) _ _ _
    refine wpAny_bind (N1.item _ k _ _ _ hk1 (N1.frame _ _ _ h1 u1) fun x hB tkB px st1B sB => wpAny_pure (wpAny_pure ?_))
    refine wpAny_bind (wpAny_bind (wpAny_holding ?_))
    show wpAny _ _ (Builtin.SmallTypes.nextOf (.ref i2) >>= _) _ _ _
    refine wpAny_bind (N2.item _ k _ _ _ hk2 (N2.frame _ _ _ (N2.frame _ _ _ h2 u2) (fr_but sB D.i12)) fun y hC tkC py st2C sC => wpAny_pure (wpAny_pure (wpAny_pure ?_)))
    refine wpAny_bind (wpAny_newTuple (wpAny_pure ⟨_, rfl, ?_⟩) (by show 2 <= sizeLine; decide))
    have hsz : hC.objs.size = s.heap.objs.size := by rw [sC.1, sB.1, hs₀]
    have kC : ∀ c o, c ≠ z -> c ≠ i1 -> c ≠ i2 -> s.heap.get? c = some o -> hC.get? c = some o := fun c o c1 c2 c3 e => sC.extBut _ _ c3 (sB.extBut _ _ c2 (hk₀ c o c1 e))
    have up : ∀ c o, hC.get? c = some o -> (hC.push { cls := .type "tuple", data := .seq #[x, y] }).get? c = some o := fun c o e => Heap.get?_push_of_some _ e
    refine hQ x y _ _ hC.objs.size px py (up _ _ (sC.extBut _ _ n2z.symm (sB.extBut _ _ n1z.symm hz₀))) (up _ _ (kC _ _ D.TIz n1t.symm n2t.symm hTI)) (N1.frame _ _ _ (N1.frame _ _ _ st1B (fr_but sC D.i21)) fun b _ o e => up b o e)
      (N2.frame _ _ _ st2C fun b _ o e => up b o e) (Heap.get?_push_size _ rfl) (Nat.le_of_eq hsz.symm) fun c o c1 c2 c3 e => up _ _ (kC c o c1 c2 c3 e)
theorem zip_end_free (N1 : Nx prog w i1 fp1 n1 P1 St1) (D : ZA z TI TO i1 i2 fp1 fp2) {k : Nat} {f1 a b : Value} {Q : PySem.Fin -> Shared -> Prop} (hh : A.handled = none)
    (hz : IsZ s.heap z TI TO .none f1) (hTI : IsPair s.heap TI (.ref i1) (.ref i2)) (h1 : St1 k s.heap) (hk : n1 <= k)
    (hE : ∀ h' e, (∀ c o, c ≠ z -> c ≠ i1 -> s.heap.get? c = some o -> h'.get? c = some o) -> (∃ o, h'.get? e = some o /\ o.cls = .type "StopIteration") -> E (.ref e) { s with heap := h' }) :
    wpAny (model prog w) A (Builtin.«zip.__next__» ⟨[.ref z], []⟩) Q E s := by
  have n1z : i1 ≠ z := fun q => D.z1 (q ▸ N1.mem)
  show wpAny _ _ (field (.ref z) 2 >>= _) _ _ _
  refine wpAny_bind (wpAny_field hz rfl (x := .bool false) rfl ?_)
  show wpAny _ _ (field (.ref z) 3 >>= _) _ _ _
  refine wpAny_bind (wpAny_field hz rfl (x := .ref TI) rfl ?_)
  refine wpAny_bind (wpAny_seqItems hTI rfl ?_)
  show wpAny _ _ (Builtin.SmallTypes.ownedTupleIsFree (.ref z) >>= _) _ _ _
  refine wpAny_bind ?_
  unfold Builtin.SmallTypes.ownedTupleIsFree
  refine wpAny_bind (wpAny_field hz rfl (x := .none) rfl (wpAny_pure ?_))
  simp only [if_true]
  refine wpAny_bind (wpAny_rule ?_)
  refine wpAny_bind (wpAny_field hz rfl (x := .ref TO) rfl ?_)
  refine wpAny_bind (wpAny_setField_rec hz (by simp) fun hA hzA sA => ?_)
  replace hzA : IsZ hA z TI TO .ellipsis f1 := hzA
  refine wpAny_bind ?_
  simp only [List.zipIdx_cons, List.zipIdx_nil, List.forIn_cons, List.forIn_nil]
  refine wpAny_bind (wpAny_bind (wpAny_onRaise ?_))
  show wpAny _ _ (Builtin.SmallTypes.nextOf (.ref i1) >>= _) _ _ _
  refine wpAny_bind (N1.done _ k _ _ _ hh hk (N1.frame _ _ _ h1 (fr_but sA D.z1)) fun hB e sB he => ?_)
  obtain ⟨oe, hoe, hce⟩ := he
  have hzB : IsZ hB z TI TO .ellipsis f1 := sB _ _ n1z.symm hzA
  have hez : e ≠ z := fun x => by subst x; rw [hzB] at hoe; cases hoe; simp at hce
  exact wpAny_setField_rec hzB (by simp) fun hC _ sC => hE hC e (fun c o c1 c2 x => sC.extBut _ _ c1 (sB _ _ c2 (sA.extBut _ _ c1 x))) ⟨oe, sC.extBut _ _ hez hoe, hce⟩
theorem zip_end_held (N1 : Nx prog w i1 fp1 n1 P1 St1) (D : ZA z TI TO i1 i2 fp1 fp2) {k : Nat} {f1 : Bool} {T : Addr} {oT : Obj} {Q : PySem.Fin -> Shared -> Prop} (hh : A.handled = none)
    (hz : IsZ s.heap z TI TO (rawInt T) (.bool f1)) (hT : s.heap.get? T = some oT) (hTI : IsPair s.heap TI (.ref i1) (.ref i2)) (h1 : St1 k s.heap) (hk : n1 <= k)
    (hE : ∀ h' e, (∀ c o, c ≠ z -> c ≠ i1 -> s.heap.get? c = some o -> h'.get? c = some o) -> (∃ o, h'.get? e = some o /\ o.cls = .type "StopIteration") -> E (.ref e) { s with heap := h' }) :
    wpAny (model prog w) A (Builtin.«zip.__next__» ⟨[.ref z], []⟩) Q E s := by
  show wpAny _ _ (field (.ref z) 2 >>= _) _ _ _
  refine wpAny_bind (wpAny_field hz rfl (x := .bool false) rfl ?_)
  show wpAny _ _ (field (.ref z) 3 >>= _) _ _ _
  refine wpAny_bind (wpAny_field hz rfl (x := .ref TI) rfl ?_)
  refine wpAny_bind (wpAny_seqItems hTI rfl ?_)
  show wpAny _ _ (Builtin.SmallTypes.ownedTupleIsFree (.ref z) >>= _) _ _ _
  refine wpAny_bind ?_
  unfold Builtin.SmallTypes.ownedTupleIsFree
  refine wpAny_bind (wpAny_field hz rfl (x := rawInt T) rfl ?_)
  show wpAny _ _ (loadIfAlive (Int.toNat (T : Int)) >>= _) _ _ _
  refine wpAny_bind (loadIfAlive_ ?_)
  rw [Int.toNat_natCast, hT]
  simp only [Option.isNone_some, Bool.false_eq_true, if_false]
  refine wpAny_mono (Q := fun a s' => a = false /\ ∃ h₀, s' = { s with heap := h₀ } /\ ∀ c o, c ≠ z -> s.heap.get? c = some o -> h₀.get? c = some o) ?first ?second (fun _ _ e => e)
  case first =>
    refine wpAny_bind (wpAny_field hz rfl (x := .bool f1) rfl ?_)
    cases f1 with
    | true =>
      show wpAny _ _ (if (Value.bool true != Value.bool true) = true then _ else _) _ _ _
      rw [if_neg (by decide)]
      exact wpAny_pure ⟨rfl, s.heap, rfl, fun _ _ _ e => e⟩
    | false =>
      show wpAny _ _ (if (Value.bool false != Value.bool true) = true then _ else _) _ _ _
      rw [if_pos (by decide)]
      exact wpAny_bind (wpAny_setField_rec hz (by simp) fun hA hzA sA => wpAny_pure ⟨rfl, hA, rfl, fun c o h e => sA.extBut _ _ h e⟩)
  case second =>
    rintro a s' ⟨rfl, h₀, rfl, hk₀⟩
    simp only [Bool.false_eq_true, if_false]
    refine wpAny_bind ?_
    have u1 : ∀ b ∈ fp1, ∀ o, s.heap.get? b = some o -> h₀.get? b = some o := fun b hb o e => hk₀ b o (fun q => D.z1 (q ▸ hb)) e
    simp only [List.forIn_toArray, List.forIn_cons, List.forIn_nil]
    refine wpAny_bind (wpAny_bind (wpAny_holding ?_))
    show wpAny _ _ (Builtin.SmallTypes.nextOf (.ref i1) >>= _) _ _ _
    exact wpAny_bind (N1.done _ k _ _ _ hh hk (N1.frame _ _ _ h1 u1) fun hB e sB he => hE hB e (fun c o c1 c2 x => sB _ _ c2 (hk₀ c o c1 x)) he)
theorem next_item {Q : Option Value -> Shared -> Prop} (hT : s.TypeIs (.ref z) "zip") (h : wpAny (model prog w) A.in1 (Builtin.«zip.__next__» ⟨[.ref z], []⟩) (fun fin s' => ∃ v, fin = .done (.ret v) /\ Q (some v) s') (fun _ _ => False) s) :
    wpAny (model prog w) A (pyNext (.ref z)) Q E s := by
  unfold pyNext
  exact wpAny_bind (wpAny_attempt (wpAny_callSpecial?_slot (name := Str.ofString "__next__") hT PySem.F.slot_zip_next
    (wpAny_call_entry PySem.F.slot_zip_next hT PySem.F.entry_zip_next (wpAny_mono h (fun fin s' ⟨v, e, q⟩ => ⟨v, e, wpAny_pure q⟩) fun _ _ f => f.elim) (PySem.F.args_zip_next_1 _))))
theorem next_end {Q : Option Value -> Shared -> Prop} (hT : s.TypeIs (.ref z) "zip") (h : wpAny (model prog w) A.in1 (Builtin.«zip.__next__» ⟨[.ref z], []⟩) (fun _ _ => False) (fun e s' => ∃ x o, e = .ref x /\ s'.heap.get? x = some o /\ o.cls = .type "StopIteration" /\ Q none s') s) :
    wpAny (model prog w) A (pyNext (.ref z)) Q E s := by
  unfold pyNext
  refine wpAny_bind (wpAny_attempt (wpAny_callSpecial?_slot (name := Str.ofString "__next__") hT PySem.F.slot_zip_next
    (wpAny_call_entry PySem.F.slot_zip_next hT PySem.F.entry_zip_next (wpAny_mono h (fun _ _ f => f.elim) fun e s' he => ?_) (PySem.F.args_zip_next_1 _))))
  obtain ⟨x, o, rfl, ho, hc, q⟩ := he
  refine wpAny_bind (wpAny_isInstance (T := "StopIteration") (b := true) ⟨o, ho, hc⟩ isSubtype_stop ?_)
  exact wpAny_pure q
theorem go_zip {elts : List Expr} {x1} {pos : Pos} {T : Addr} {f1 : Value} {Q : Unit -> Shared -> Prop} (hz : IsZ s.heap z TI TO (rawInt T) f1)
    (hQ : ∀ h', IsZ h' z TI TO .none f1 -> Heap.SameBut z s.heap h' -> Q () { s with heap := h' }) :
    wpAny (model prog w) A (letOwnedTupleGo (.Tuple elts x1 pos) (.ref z) (.ref T)) Q E s := by
  unfold letOwnedTupleGo
  refine wpAny_bind (wpAny_load hz ?_)
  show wpAny _ _ (if (["enumerate", "zip", "dict_itemiterator", "dict_reverseitemiterator", "odict_iterator", "itertools.zip_longest", "itertools.pairwise"].contains "zip" &&
      (#[rawInt T, f1, .bool false, .ref TI, .ref TO] : Array Value)[0]? == some (rawInt T)) = true then _ else _) Q E s
  rw [if_pos (by simp)]
  refine wpAny_bind (wpAny_rule ?_)
  show wpAny _ _ (setField (.ref z) 0 .none) Q E s
  exact wpAny_setField_rec hz (by simp) fun h' hz' hs' => hQ h' hz' hs'
theorem iter_zip {f0 f1 : Value} {Q : Value -> Shared -> Prop} (hz : IsZ s.heap z TI TO f0 f1) (h : Q (.ref z) s) : wpAny (model prog w) A (pyIter (.ref z)) Q E s := by
  have hT : s.TypeIs (.ref z) "zip" := ⟨_, hz, rfl⟩
  refine wpAny_pyIter_slot hT PySem.F.slot_zip_iter (wpAny_call_entry PySem.F.slot_zip_iter hT PySem.F.entry_zip_iter ?_ (PySem.F.args_zip_iter_1 _))
  show wpAny _ _ (ret (.ref z)) _ _ s
  exact wpAny_pure ⟨_, rfl, "zip", _, hT, PySem.F.slot_zip_next.lookup, h⟩
end
noncomputable def IterTo (v : Value) (pre : Heap -> Prop) (o : Obj) : Prop :=
  ∀ (prog : Program) (w : World) (A : Around) (E : Value -> Shared -> Prop) (s : Shared) (Q : Value -> Shared -> Prop), pre s.heap -> Q (.ref s.heap.objs.size) { s with heap := s.heap.push o } -> wpAny (model prog w) A (pyIter v) Q E s
theorem iterTo_list (l : Addr) (xs : Array Value) : IterTo (.ref l) (fun h => h.IsList l xs) { cls := .type "list_iterator", data := .fields #[.ref l, .int 0 0] } :=
  fun _ _ _ _ _ _ hl q => wpAny_pyIter_list hl q
theorem iterTo_ascii (x : Str) (t : Tok) (ha : x.cps.all (· < 128) = true) : IterTo (.str x t) (fun _ => True) { cls := .type "str_ascii_iterator", data := .fields #[.str x t, .int 0 0] } :=
  fun _ _ _ _ _ _ _ q => wpAny_pyIter_ascii ha q
noncomputable abbrev zA (h : Heap) (o1 : Obj) : Heap := h.push o1
noncomputable abbrev zB (h : Heap) (o1 o2 : Obj) : Heap := (zA h o1).push o2
noncomputable abbrev zC (h : Heap) (o1 o2 : Obj) : Heap := (zB h o1 o2).push { cls := .type "tuple", data := .seq #[.ref h.objs.size, .ref (zA h o1).objs.size] }
noncomputable abbrev zD (h : Heap) (o1 o2 : Obj) : Heap := (zC h o1 o2).push { cls := .type "tuple", data := .seq #[.none, .none] }
noncomputable abbrev zE (h : Heap) (o1 o2 : Obj) : Heap := (zD h o1 o2).push { cls := .type "zip", data := .fields #[.none, .bool false, .bool false, .ref (zB h o1 o2).objs.size, .ref (zC h o1 o2).objs.size] }
theorem meets_zip {v1 v2 : Value} {p1 p2 : Heap -> Prop} {o1 o2 : Obj} (I1 : IterTo v1 p1 o1) (I2 : IterTo v2 p2 o2) (hp : ∀ h o, p2 h -> p2 (h.push o)) :
    Meets (Builtin.«zip.__new__» ⟨[.type "zip", v1, v2], []⟩) (fun _ R s => p1 s.heap /\ p2 s.heap /\
      R (.ok (.ret (.ref (zD s.heap o1 o2).objs.size))) { s with heap := zE s.heap o1 o2 }) :=
  .of_wp fun prog w A R s h => by
    obtain ⟨hp', g, d, tk, os⟩ := s; obtain ⟨hl1, hl2, h⟩ := h
    have hsub := sub_zip
    have k1 : ∀ {A : Around} {E : Value -> Shared -> Prop} {Q : Value -> Shared -> Prop}, Q (.ref hp'.objs.size) ⟨hp'.push o1, g, d, tk, os⟩ -> wpAny (model prog w) A (pyIter v1) Q E ⟨hp', g, d, tk, os⟩ := fun q => I1 prog w _ _ ⟨hp', g, d, tk, os⟩ _ hl1 q
    have k2 : ∀ {A : Around} {E : Value -> Shared -> Prop} {Q : Value -> Shared -> Prop}, Q (.ref (hp'.push o1).objs.size) ⟨(hp'.push o1).push o2, g, d, tk, os⟩ -> wpAny (model prog w) A (pyIter v2) Q E ⟨hp'.push o1, g, d, tk, os⟩ := fun q => I2 prog w _ _ ⟨hp'.push o1, g, d, tk, os⟩ _ (hp _ _ hl2) q
    wp_walk using k1, k2
    exact ⟨_, rfl, h⟩
section
variable {prog : Program} {w : World} {A : Around} {E : Value -> Shared -> Prop} {s : Shared}
theorem call_zip {v1 v2 : Value} {p1 p2 : Heap -> Prop} {o1 o2 : Obj} {Q : Value -> Shared -> Prop} (I1 : IterTo v1 p1 o1) (I2 : IterTo v2 p2 o2) (hp : ∀ h o, p2 h -> p2 (h.push o)) (f1 : o1.isFreed = false) (f2 : o2.isFreed = false) (h1 : p1 s.heap) (h2 : p2 s.heap)
    (h : ∀ h', IsZ h' (s.heap.objs.size + 4) (s.heap.objs.size + 2) (s.heap.objs.size + 3) .none (.bool false) -> IsPair h' (s.heap.objs.size + 2) (.ref s.heap.objs.size) (.ref (s.heap.objs.size + 1)) ->
      IsPair h' (s.heap.objs.size + 3) .none .none -> h'.get? s.heap.objs.size = some o1 -> h'.get? (s.heap.objs.size + 1) = some o2 -> h'.objs.size = s.heap.objs.size + 5 ->
      (∀ c o, s.heap.get? c = some o -> h'.get? c = some o) -> Q (.ref (s.heap.objs.size + 4)) { s with heap := h' }) :
    wpAny (model prog w) A (call (.type "zip") [v1, v2]) Q E s := by
  refine callType_new PySem.F.called_zip (by decide) (PySem.F.typeCall_zip_2 _ _) (PySem.F.newCall_zip_2 _ _) (fun obj => PySem.F.args_object_init_3 obj _ _) PySem.F.entry_zip_new
    (meets_zip I1 I2 hp) ⟨h1, h2, ?_⟩
  have z1 : (zA s.heap o1).objs.size = s.heap.objs.size + 1 := Heap.size_push ..
  have z2 : (zB s.heap o1 o2).objs.size = s.heap.objs.size + 2 := by rw [Heap.size_push, z1]
  have z3 : (zC s.heap o1 o2).objs.size = s.heap.objs.size + 3 := by rw [Heap.size_push, z2]
  have z4 : (zD s.heap o1 o2).objs.size = s.heap.objs.size + 4 := by rw [Heap.size_push, z3]
  have z5 : (zE s.heap o1 o2).objs.size = s.heap.objs.size + 5 := by rw [Heap.size_push, z4]
  have g5 : (zE s.heap o1 o2).get? (zD s.heap o1 o2).objs.size = some _ := Heap.get?_push_size _ rfl
  have g4 : (zE s.heap o1 o2).get? (zC s.heap o1 o2).objs.size = some _ := Heap.get?_push_of_some _ (Heap.get?_push_size _ rfl)
  have g3 : (zE s.heap o1 o2).get? (zB s.heap o1 o2).objs.size = some _ := Heap.get?_push_of_some _ (Heap.get?_push_of_some _ (Heap.get?_push_size _ rfl))
  have g2 : (zE s.heap o1 o2).get? (zA s.heap o1).objs.size = some _ := Heap.get?_push_of_some _ (Heap.get?_push_of_some _ (Heap.get?_push_of_some _ (Heap.get?_push_size _ f2)))
  have g1 : (zE s.heap o1 o2).get? s.heap.objs.size = some _ := Heap.get?_push_of_some _ (Heap.get?_push_of_some _ (Heap.get?_push_of_some _ (Heap.get?_push_of_some _ (Heap.get?_push_size _ f1))))
  show _ /\ _
  rw [z2, z3, z4] at g5
  rw [z1, z2] at g3
  rw [z3] at g4
  rw [z1] at g2
  rw [z4]
  exact ⟨⟨_, g5, rfl⟩, h _ g5 g3 g4 g1 g2 z5 fun c o x =>
    Heap.get?_push_of_some _ (Heap.get?_push_of_some _ (Heap.get?_push_of_some _ (Heap.get?_push_of_some _ (Heap.get?_push_of_some _ x))))⟩
end
theorem za_new {n : Nat} {fp1 fp2 : List Addr} (h1 : ∀ b ∈ fp1, b = n \/ b < n) (h2 : ∀ b ∈ fp2, b = n + 1 \/ b < n) : ZA (n + 4) (n + 2) (n + 3) n (n + 1) fp1 fp2 where
  TIz := by intro h; have : n + 2 = n + 4 := h; omega
  TOz := by intro h; have : n + 3 = n + 4 := h; omega
  TITO := by intro h; have : n + 2 = n + 3 := h; omega
  z1 := fun h => by have := h1 _ h; have q : n + 4 = n \/ n + 4 < n := this; omega
  z2 := fun h => by have := h2 _ h; have q : n + 4 = n + 1 \/ n + 4 < n := this; omega
  o1 := fun h => by have := h1 _ h; have q : n + 3 = n \/ n + 3 < n := this; omega
  o2 := fun h => by have := h2 _ h; have q : n + 3 = n + 1 \/ n + 3 < n := this; omega
  t1 := fun h => by have := h1 _ h; have q : n + 2 = n \/ n + 2 < n := this; omega
  t2 := fun h => by have := h2 _ h; have q : n + 2 = n + 1 \/ n + 2 < n := this; omega
  i12 := fun h => by have := h2 _ h; have q : n = n + 1 \/ n < n := this; omega
  i21 := fun h => by have := h1 _ h; have q : n + 1 = n \/ n + 1 < n := this; omega
end GZ
namespace GZ
open PySem
namespace F
theorem zip_keys_none : typeLookup (.type "zip") "keys" = pure none := by rw [typeLookup_type, builtinLookup_eq_fast]; kernel_rfl
theorem zip_getattr_none : typeLookup (.type "zip") "__getattr__" = pure none := by rw [typeLookup_type, builtinLookup_eq_fast]; kernel_rfl
theorem entry_zip_getattribute : entryFor table "zip.__getattribute__" = some Builtin.«object.__getattribute__» :=
  entryFor_alias (id' := "object.__getattribute__") (by kernel_rfl) (by decide +kernel) (by decide +kernel) (by kernel_rfl)
theorem entry_dict_loop : entryFor table "dict.update.loop" = some Builtin.«dict.update.loop» := entryFor_of_tree (by kernel_rfl)
theorem plain_dict_loop : plainId "dict.update.loop" = true := by decide +kernel
end F
theorem meets_miss_zip (a TI TO : Addr) (f0 f1 : Value) (u : Tok) :
    Meets (Builtin.«object.__getattribute__» ⟨[.ref a, .str "keys" u], []⟩) (fun A R s => IsZ s.heap a TI TO f0 f1 /\ raisesAttr (.ref a) "keys" A R s) :=
  Meets.of_wp fun prog w A R s hs => by
    obtain ⟨hp, g, d, tk, os⟩ := s
    obtain ⟨hx, hs⟩ := hs
    have hT : (⟨hp, g, d, tk, os⟩ : Shared).TypeIs (.ref a) "zip" := ⟨_, hx, rfl⟩
    have hmiss := F.zip_keys_none
    unfold Builtin.«object.__getattribute__»
    repeat (any_goals (first | assumption | wp_step))
    exact wpAny_raiseAttrError hs.1 hs.2 (attrMsg_fits (by decide +kernel) (by size_fits))
section
variable {prog : Program} {w : World} {A : Around} {E : Value -> Shared -> Prop} {s : Shared} {z TI TO : Addr}
theorem no_keys {f0 f1 : Value} {Q : Option Value -> Shared -> Prop} (hx : IsZ s.heap z TI TO f0 f1) (hA : A.handled = none) (h : ∀ h' tk, (∀ b o, s.heap.get? b = some o -> h'.get? b = some o) -> Q none { s with heap := h', toks := tk }) :
    wpAny (model prog w) A (getAttr? (.ref z) "keys") Q E s := by
  obtain ⟨hp, g, d, tk, os⟩ := s
  have hT : ∀ tk', (⟨hp, g, d, tk', os⟩ : Shared).TypeIs (.ref z) "zip" := fun _ => ⟨_, hx, rfl⟩
  have f1' := sub_AttributeError
  have f3 := PySem.F.slot_zip_getattribute.lookup
  have f4 := PySem.F.slot_zip_getattribute.bind (.ref z)
  have f5 := F.zip_getattr_none
  unfold getAttr? getAttrBy? getAttrBy
  repeat (any_goals (first | assumption | exact hT _ | ((with_reducible show wpAny _ _ (call (Value.builtin "zip.__getattribute__") _ _) _ _ _); refine call_meets PySem.F.slot_zip_getattribute (hT _) F.entry_zip_getattribute (PySem.F.args_zip_getattribute_2 _ _) (meets_miss_zip z TI TO f0 f1 _) ⟨hx, hA, fun h' tk' e hx' => ?_⟩) | wp_step))
  obtain ⟨t', u', he⟩ := hx'.there
  show wpAny _ _ (getattributeRaised _ _ _ _ _ _ _) _ _ _
  unfold getattributeRaised
  repeat (any_goals (first | assumption | wp_step))
  exact h _ _ fun b o e => hx'.keeps b o e
end
section
variable {prog : Program} {w : World} {K : Type} [DecidableEq K] {knd : KeyKind prog w K} {A : Around} {s : Shared} {z TI TO d : Addr}
variable {i1 i2 : Addr} {fp1 fp2 : List Addr} {n : Nat} {P1 P2 : Nat -> Value -> Prop} {St1 St2 : Nat -> Heap -> Prop}
noncomputable def Zs (d z TI TO i1 i2 : Addr) (St1 St2 : Nat -> Heap -> Prop) (i : Nat) (h : Heap) : Prop :=
  IsPair h TI (.ref i1) (.ref i2) /\ St1 i h /\ St2 i h /\ ((IsZ h z TI TO .none (.bool false) /\ ∃ a b, IsPair h TO a b) \/ ∃ (T : Addr) (oT : Obj) (f : Bool), IsZ h z TI TO (rawInt T) (.bool f) /\ h.get? T = some oT /\ T ≠ z /\ T ≠ i1 /\ T ≠ i2 /\ T ≠ d)
theorem zs_item {E : Value -> Shared -> Prop} (N1 : Nx prog w i1 fp1 n P1 St1) (N2 : Nx prog w i2 fp2 n P2 St2) (D : ZA z TI TO i1 i2 fp1 fp2) {i : Nat} {Q : Option Value -> Shared -> Prop} (hi : i < n) (hd : d < s.heap.objs.size) (st : Zs d z TI TO i1 i2 St1 St2 i s.heap)
    (hQ : ∀ x y p h' tk, P1 i x -> P2 i y -> IsPair h' p x y -> s.heap.objs.size <= p -> Zs d z TI TO i1 i2 St1 St2 (i + 1) h' -> (∀ c o, c ≠ z -> c ≠ TO -> c ≠ i1 -> c ≠ i2 -> s.heap.get? c = some o -> h'.get? c = some o) -> Q (some (.ref p)) { s with heap := h', toks := tk }) :
    wpAny (model prog w) A (pyNext (.ref z)) Q E s := by
  obtain ⟨hTI, h1, h2, hz⟩ := st
  have lt : ∀ {c : Addr} {o : Obj}, s.heap.get? c = some o -> c < s.heap.objs.size := fun e => Heap.lt_size e
  have l1 : i1 < s.heap.objs.size := by obtain ⟨o, e, _⟩ := N1.obj i _ h1 i1 N1.mem; exact lt e
  have l2 : i2 < s.heap.objs.size := by obtain ⟨o, e, _⟩ := N2.obj i _ h2 i2 N2.mem; exact lt e
  rcases hz with ⟨hz, a, b, hTO⟩ | ⟨T, oT, f, hz, hT, t1, t2, t3, t4⟩
  · refine next_item ⟨_, hz, rfl⟩ (zip_item_free N1 N2 D hz hTI hTO h1 h2 hi hi fun x y h' tk px py a1 a2 a3 a4 a5 a6 a7 a8 => ?_)
    exact hQ x y _ h' tk px py a6 (Nat.le_refl _) ⟨a2, a4, a5, .inr ⟨s.heap.objs.size, _, false, a1, a6, Nat.ne_of_gt (lt hz), Nat.ne_of_gt l1, Nat.ne_of_gt l2, Nat.ne_of_gt hd⟩⟩ a8
  · refine next_item ⟨_, hz, rfl⟩ (zip_item_held N1 N2 D hz hT hTI h1 h2 hi hi fun x y h' tk p px py a1 a2 a4 a5 a6 a7 a8 => ?_)
    exact hQ x y p h' tk px py a6 a7 ⟨a2, a4, a5, .inr ⟨T, oT, true, a1, a8 _ _ t1 t2 t3 hT, t1, t2, t3, t4⟩⟩ fun c o c1 _ c3 c4 e => a8 c o c1 c3 c4 e
theorem zs_done {E : Value -> Shared -> Prop} (N1 : Nx prog w i1 fp1 n P1 St1) (D : ZA z TI TO i1 i2 fp1 fp2) {i : Nat} {Q : Option Value -> Shared -> Prop} (hh : A.handled = none) (hi : n <= i) (st : Zs d z TI TO i1 i2 St1 St2 i s.heap)
    (hQ : ∀ h', (∀ c o, c ≠ z -> c ≠ i1 -> s.heap.get? c = some o -> h'.get? c = some o) -> Q none { s with heap := h' }) :
    wpAny (model prog w) A (pyNext (.ref z)) Q E s := by
  obtain ⟨hTI, h1, h2, hz⟩ := st
  rcases hz with ⟨hz, a, b, hTO⟩ | ⟨T, oT, f, hz, hT, t⟩
  · exact next_end ⟨_, hz, rfl⟩ (zip_end_free N1 D (a := a) (b := b) hh hz hTI h1 hi fun h' e k he => by obtain ⟨o, ho, hc⟩ := he; exact ⟨e, o, rfl, ho, hc, hQ h' k⟩)
  · exact next_end ⟨_, hz, rfl⟩ (zip_end_held N1 D hh hz hT hTI h1 hi fun h' e k he => by obtain ⟨o, ho, hc⟩ := he; exact ⟨e, o, rfl, ho, hc, hQ h' k⟩)
theorem Zs.frame (N1 : Nx prog w i1 fp1 n P1 St1) (N2 : Nx prog w i2 fp2 n P2 St2) {i : Nat} {h h' : Heap} (st : Zs d z TI TO i1 i2 St1 St2 i h) (k : ∀ b o, b ≠ d -> h.get? b = some o -> h'.get? b = some o)
    (e1 : d ∉ fp1) (e2 : d ∉ fp2) (ez : d ≠ z) (et : d ≠ TI) (eo : d ≠ TO) : Zs d z TI TO i1 i2 St1 St2 i h' := by
  obtain ⟨hTI, h1, h2, hz⟩ := st
  refine ⟨k _ _ et.symm hTI, N1.frame _ _ _ h1 fun b hb o e => k b o (fun q => e1 (q ▸ hb)) e, N2.frame _ _ _ h2 fun b hb o e => k b o (fun q => e2 (q ▸ hb)) e, ?_⟩
  rcases hz with ⟨hz, a, b, hTO⟩ | ⟨T, oT, f, hz, hT, t1, t2, t3, t4⟩
  · exact .inl ⟨k _ _ ez.symm hz, a, b, k _ _ eo.symm hTO⟩
  · exact .inr ⟨T, oT, f, k _ _ ez.symm hz, k _ _ t4 hT, t1, t2, t3, t4⟩
noncomputable def prs (ks : Nat -> K) (vs : Nat -> Value) (i : Nat) : List (K × Value) := (List.range i).map fun j => (ks j, vs j)
theorem prs_succ (ks : Nat -> K) (vs : Nat -> Value) (i : Nat) : prs ks vs (i + 1) = prs ks vs i ++ [(ks i, vs i)] := by simp [prs, List.range_succ]
theorem prs_len (ks : Nat -> K) (vs : Nat -> Value) (i : Nat) : (prs ks vs i).length = i := by simp [prs]
theorem prs_stored (ks : Nat -> K) (vs : Nat -> Value) (i : Nat) (h : ∀ j, j < i -> ks j ≠ ks i) : stored (prs ks vs i) (ks i) (vs i) = prs ks vs (i + 1) := by
  unfold stored
  rw [if_neg, prs_succ]
  intro q
  obtain ⟨p, hp, e⟩ := List.any_eq_true.mp q
  obtain ⟨j, hj, rfl⟩ := List.mem_map.mp hp
  exact h j (List.mem_range.mp hj) (by simpa using e)
theorem dict_loop {R : Result -> Shared -> Prop} (N1 : Nx prog w i1 fp1 n P1 St1) (N2 : Nx prog w i2 fp2 n P2 St2) (D : ZA z TI TO i1 i2 fp1 fp2) (ks : Nat -> K) (vs : Nat -> Value) (hk : ∀ i v, P1 i v -> knd.is (ks i) v = true) (hv : ∀ i v, P2 i v -> v = vs i)
    (inj : ∀ i j, j < i -> i < n -> ks j ≠ ks i) (hn : n <= 4000) (hh : A.handled = none) (e1 : d ∉ fp1) (e2 : d ∉ fp2) (ez : d ≠ z) (et : d ≠ TI) (eo : d ≠ TO) :
    ∀ (k i : Nat) (s : Shared) (t : Tok), n - i = k -> i <= n -> d < s.heap.objs.size -> Zs d z TI TO i1 i2 St1 St2 i s.heap -> s.heap.DictOf knd d (prs ks vs i) ->
      (∀ h' tk, h'.DictOf knd d (prs ks vs n) -> (∀ c o, c ≠ d -> c ≠ z -> c ≠ TO -> c ≠ i1 -> c ≠ i2 -> s.heap.get? c = some o -> h'.get? c = some o) -> R (.ok (.ret .none)) { s with heap := h', toks := tk }) ->
      codeAny (model prog w) A (.builtin "dict.update.loop" ⟨[.ref d, .ref z, .int i t, .none], []⟩) R s := by
  have n1 : d ≠ i1 := fun q => e1 (q ▸ N1.mem)
  have n2 : d ≠ i2 := fun q => e2 (q ▸ N2.mem)
  intro k
  induction k with
  | zero =>
    intro i s t hk0 hi hd st hD hR
    have hin : i = n := by omega
    subst hin
    refine codeAny_builtin F.entry_dict_loop ?_
    rw [Around.under_plainId F.plain_dict_loop _]
    show wpAny _ A.in1 (pyNext (.ref z) >>= _) _ _ s
    refine wpAny_bind (zs_done N1 D (by simpa using hh) (Nat.le_refl _) st fun h' hk' => ?_)
    show wpAny _ _ (Builtin.Dict.addKeywords d [] >>= _) _ _ _
    exact wpAny_bind (wpAny_pure (wpAny_pure (hR h' s.toks (by obtain ⟨o, es, ep, ho, r⟩ := hD; exact ⟨o, es, ep, hk' _ _ ez n1 ho, r⟩) fun c o _ c2 _ c4 _ e => hk' c o c2 c4 e)))
  | succ k ih =>
    intro i s t hk0 hi hd st hD hR
    have hlt : i < n := by omega
    refine codeAny_builtin F.entry_dict_loop ?_
    rw [Around.under_plainId F.plain_dict_loop _]
    show wpAny _ A.in1 (pyNext (.ref z) >>= _) _ _ s
    refine wpAny_bind (zs_item N1 N2 D hlt hd st fun x y p h' tk px py hp hpp st' hk' => ?_)
    show wpAny _ A.in1 (holding [Value.ref p] _ >>= _) _ _ _
    refine wpAny_bind (wpAny_holding ?_)
    refine wpAny_bind (wpAny_tryCatch ?_)
    unfold Builtin.Dict.pairItems
    have hT : (⟨h', s.gens, s.drawn, tk, s.os⟩ : Shared).TypeIs (.ref p) "tuple" := ⟨_, hp, rfl⟩
    refine wpAny_bind (wpAny_typeOf hT ?_)
    rw [if_pos (by decide)]
    refine wpAny_bind (wpAny_seqItems hp rfl (wpAny_pure ?_))
    show wpAny _ _ (holding [x, y] (dictSet d x y)) _ _ _
    have hD' : h'.DictOf knd d (prs ks vs i) := by obtain ⟨o, es, ep, ho, r⟩ := hD; exact ⟨o, es, ep, hk' _ _ ez eo n1 n2 ho, r⟩
    refine wpAny_holding (wpAny_dictSet_pairs (hk i x px) hD' (fun h2 hD2 s2 => ?_) (by rw [prs_len]; rw [sizeLine_eq]; omega))
    rw [hv i y py, prs_stored ks vs i (fun j hj => inj i j hj hlt)] at hD2
    have hdl : d < h2.objs.size := by obtain ⟨o, es, ep, ho, r⟩ := hD2; exact Heap.lt_size ho
    refine wpAny_pure ⟨plainId_quiet F.plain_dict_loop _, ih (i + 1) _ _ (by omega) hlt hdl (st'.frame N1 N2 (fun b o hb e => s2.extBut b o hb e) e1 e2 ez et eo) hD2 fun h3 tk3 hD3 hk3 => ?_⟩
    exact hR h3 tk3 hD3 fun c o c1 c2 c3 c4 c5 e => hk3 c o c1 c2 c3 c4 c5 (s2.extBut c o c1 (hk' c o c2 c3 c4 c5 e))
end
end GZ
namespace GZ
open PySem
section
variable {prog : Program} {w : World} {K : Type} [DecidableEq K] {knd : KeyKind prog w K} {A : Around} {E : Value -> Shared -> Prop} {s : Shared} {z TI TO : Addr}
variable {i1 i2 : Addr} {fp1 fp2 : List Addr} {n : Nat} {P1 P2 : Nat -> Value -> Prop} {St1 St2 : Nat -> Heap -> Prop}
theorem call_dict {Q : Value -> Shared -> Prop} (N1 : Nx prog w i1 fp1 n P1 St1) (N2 : Nx prog w i2 fp2 n P2 St2) (D : ZA z TI TO i1 i2 fp1 fp2) (ks : Nat -> K) (vs : Nat -> Value) (hk : ∀ i v, P1 i v -> knd.is (ks i) v = true) (hv : ∀ i v, P2 i v -> v = vs i)
    (inj : ∀ i j, j < i -> i < n -> ks j ≠ ks i) (hn : n <= 4000) (hh : A.handled = none) {a b : Value} (hz : IsZ s.heap z TI TO .none (.bool false)) (hTI : IsPair s.heap TI (.ref i1) (.ref i2)) (hTO : IsPair s.heap TO a b) (h1 : St1 0 s.heap) (h2 : St2 0 s.heap)
    (h : ∀ h' tk, h'.DictOf knd s.heap.objs.size (prs ks vs n) -> (∀ c o, c ≠ z -> c ≠ TO -> c ≠ i1 -> c ≠ i2 -> s.heap.get? c = some o -> h'.get? c = some o) -> Q (.ref s.heap.objs.size) { s with heap := h', toks := tk }) :
    wpAny (model prog w) A (call (.type "dict") [.ref z]) Q E s := by
  have old : ∀ b, b < s.heap.objs.size -> s.heap.objs.size ≠ b := fun b hb => Nat.ne_of_gt hb
  have o1 : ∀ b ∈ fp1, b < s.heap.objs.size := fun b hb => by obtain ⟨o, e, _⟩ := N1.obj 0 _ h1 b hb; exact Heap.lt_size e
  have o2 : ∀ b ∈ fp2, b < s.heap.objs.size := fun b hb => by obtain ⟨o, e, _⟩ := N2.obj 0 _ h2 b hb; exact Heap.lt_size e
  refine callType_codes (Q₁ := fun obj s₁ => obj = .ref s.heap.objs.size /\ s₁ = { s with heap := s.heap.push { cls := .type "dict", data := .dict #[] } }) PySem.F.kt_called_dict (PySem.F.kt_typeCall_dict_1 _) PySem.F.entry_dict_init (kt_code_dict_new _ ⟨rfl, rfl⟩) ?_
  rintro obj s₁ ⟨rfl, rfl⟩
  have hnew : (s.heap.push { cls := .type "dict", data := .dict #[] }).DictOf knd s.heap.objs.size [] := Heap.DictOf.new s.heap
  have up : ∀ b o, s.heap.get? b = some o -> (s.heap.push { cls := .type "dict", data := .dict #[] }).get? b = some o := fun b o e => Heap.get?_push_of_some _ e
  refine ⟨hnew.typeIs, PySem.F.args_dict_init_2 _ _, ?_⟩
  unfold Builtin.«dict.__init__»
  refine wpAny_bind ?_
  unfold Builtin.Dict.selfAndRest
  refine wpAny_bind (wpAny_notOrdered_dict hnew.typeIs ?_)
  show wpAny _ _ (pure (s.heap.objs.size, [Value.ref z])) _ _ _
  refine wpAny_pure ?_
  show wpAny _ _ (Builtin.Dict.updateFrom "dict.__init__" s.heap.objs.size (.ref z) [] .none) _ _ _
  unfold Builtin.Dict.updateFrom
  have hz' := up _ _ hz
  refine wpAny_bind (wpAny_typeOf (T := "zip") ⟨_, hz', rfl⟩ ?_)
  rw [if_pos (by decide)]
  refine wpAny_bind (no_keys hz' (by simpa using hh) fun h3 tk3 k3 => ?_)
  simp only [Option.isNone_none, if_true]
  refine wpAny_bind (wpAny_rule (wpAny_bind (iter_zip (k3 _ _ hz') ?_)))
  have st3 : Zs s.heap.objs.size z TI TO i1 i2 St1 St2 0 h3 := ⟨k3 _ _ (up _ _ hTI), N1.frame _ _ _ h1 fun b _ o e => k3 b o (up b o e), N2.frame _ _ _ h2 fun b _ o e => k3 b o (up b o e), .inl ⟨k3 _ _ hz', a, b, k3 _ _ (up _ _ hTO)⟩⟩
  have hD3 : h3.DictOf knd s.heap.objs.size (prs ks vs 0) := by
    obtain ⟨o, es, ep, ho, r⟩ := hnew
    exact ⟨o, es, ep, k3 _ _ ho, r⟩
  have hd3 : s.heap.objs.size < h3.objs.size := by obtain ⟨o, es, ep, ho, r⟩ := hD3; exact Heap.lt_size ho
  have lt : ∀ {c : Addr} {o : Obj}, s.heap.get? c = some o -> s.heap.objs.size ≠ c := fun e => Nat.ne_of_gt (Heap.lt_size e)
  exact wpAny_pure ⟨plainId_quiet F.plain_dict_loop _, dict_loop N1 N2 D ks vs hk hv inj hn (by simpa using hh) (fun q => Nat.lt_irrefl _ (o1 _ q)) (fun q => Nat.lt_irrefl _ (o2 _ q)) (lt hz) (lt hTI) (lt hTO) n 0 _ 0 (by omega) (Nat.zero_le _) hd3 st3 hD3
    fun h' tk hD' k' => ⟨rfl, h h' tk hD' fun c o c1 c2 c3 c4 e => k' c o (lt e).symm c1 c2 c3 c4 (k3 c o (up c o e))⟩⟩
end
end GZ
namespace GT
open PySem PySem.Builtin PySem.Builtin.Str
noncomputable def tx (l : List Nat) : Str := ⟨l.toArray⟩
theorem tx_cps (l : List Nat) : (tx l).cps.toList = l := rfl
theorem tx_len (l : List Nat) : (tx l).length = l.length := by simp [tx, Str.length]
theorem tx_inj {a b : List Nat} (h : tx a = tx b) : a = b := by
  have := congrArg (fun x : Str => x.cps.toList) h
  exact this
theorem tx_app (a b : List Nat) : tx a ++ tx b = tx (a ++ b) := by
  show (⟨a.toArray ++ b.toArray⟩ : Str) = ⟨(a ++ b).toArray⟩
  simp
theorem cnt_count (c : Nat) : ∀ l : List Nat, PyProof.Rows.cnt c l = (l.count c : Int)
  | [] => rfl
  | n :: r => by
    rw [PyProof.Rows.cnt_cons, cnt_count c r, List.count_cons]
    by_cases h : n = c <;> simp [h] <;> omega
theorem count_tx (l : List Nat) (c : Nat) : Txt.count (tx l) (tx [c]) = (l.count c : Int) := by
  have := PyProof.Rows.count_is (tx l) c
  exact this.trans (cnt_count c l)
theorem index_tx {l : List Nat} {c i : Nat} (h : l[i]? = some c) (hn : ∀ k, k < i -> l[k]? ≠ some c) : ∃ rest, occurrences (tx l) (tx [c]) 0 (tx l).length 1 = i :: rest := by
  have at_iff : ∀ k, StrLaws.At (tx l) (tx [c]) (tx l).length k ↔ l[k]? = some c := fun k => StrLaws.subAt_one (tx l) c k
  rcases StrLaws.occ_head (tx l) (tx [c]) 1 (Nat.le_refl _) with ⟨_, h0⟩ | ⟨j, r, e, h1, h2⟩
  · exact absurd ((at_iff i).mpr h) (h0 i)
  · have hj := (at_iff j).mp h1
    have e1 : ¬ j < i := fun q => hn j q hj
    have e2 : ¬ i < j := fun q => h2 i q ((at_iff i).mpr h)
    have : j = i := by omega
    subst this
    exact ⟨r, e⟩
theorem foldl_app (xs : List (List Nat)) : ∀ acc : List Nat, (xs.map tx).foldl (fun a p => a ++ (tx []).cps ++ p.cps) acc.toArray = (acc ++ xs.flatten).toArray := by
  induction xs with
  | nil => intro acc; simp
  | cons x xs ih =>
    intro acc
    rw [List.map_cons, List.foldl_cons]
    have e : acc.toArray ++ (tx []).cps ++ (tx x).cps = (acc ++ x).toArray := by
      show acc.toArray ++ ([] : List Nat).toArray ++ x.toArray = _
      simp
    rw [e, ih, List.flatten_cons, List.append_assoc]
theorem join_tx (ls : List (List Nat)) : Txt.join (tx []) (ls.map tx) = tx ls.flatten := by
  unfold Txt.join glued
  cases ls with
  | nil => rfl
  | cons x xs =>
    show (⟨((xs.map tx)).foldl (fun acc p => acc ++ (tx []).cps ++ p.cps) (tx x).cps⟩ : Str) = _
    have := foldl_app xs x
    rw [show (tx x).cps = x.toArray from rfl, this]
    rfl
theorem foldl_rep (l : List Nat) : ∀ (n : Nat) (acc : List Nat), (List.replicate n l.toArray).foldl (· ++ ·) acc.toArray = (acc ++ (List.replicate n l).flatten).toArray
  | 0, acc => by simp
  | n + 1, acc => by
    rw [List.replicate_succ, List.foldl_cons]
    have e : acc.toArray ++ l.toArray = (acc ++ l).toArray := by simp
    rw [e, foldl_rep l n (acc ++ l), List.replicate_succ, List.flatten_cons, List.append_assoc]
theorem mul_tx (l : List Nat) (n : Nat) : Txt.mul (tx l) (n : Int) = tx (List.replicate n l).flatten := by
  unfold Txt.mul
  by_cases h : (n : Int) < 1
  · rw [if_pos h]
    have : n = 0 := by omega
    subst this; rfl
  · rw [if_neg h]
    split
    · rename_i h2
      rw [Bool.or_eq_true] at h2
      rcases h2 with h2 | h2
      · have : n = 1 := by have := eq_of_beq h2; omega
        subst this; simp
      · have : l = [] := by
          have := eq_of_beq h2
          rw [tx_len] at this
          exact List.length_eq_zero_iff.mp this
        subst this
        have : ∀ k : Nat, (List.replicate k ([] : List Nat)).flatten = [] := fun k => by induction k with | zero => rfl | succ k ih => simp [List.replicate_succ]
        rw [this]
    · have := foldl_rep l n []
      rw [Int.toNat_natCast]
      show (⟨(List.replicate n l.toArray).foldl (· ++ ·) ([] : List Nat).toArray⟩ : Str) = _
      rw [this]
      rfl
theorem sliceIdx_clip (a b n : Nat) : strSliceIndices (some (a : Int)) (some (b : Int)) 1 n = strSliceIndices (some ((min a n : Nat) : Int)) (some ((min b n : Nat) : Int)) 1 n := by
  unfold strSliceIndices
  have e : ∀ k : Nat, max 0 (min ((if (k : Int) < 0 then (k : Int) + n else k)) (n : Int)) = max 0 (min ((if ((min k n : Nat) : Int) < 0 then ((min k n : Nat) : Int) + n else ((min k n : Nat) : Int))) (n : Int)) := fun k => by
    rw [if_neg (by omega), if_neg (by omega)]
    omega
  have h1 : (1 : Int) > 0 := by decide
  simp only [h1, if_true]
  rw [e a, e b]
theorem slice_tx (l : List Nat) (a b : Nat) : Txt.slice (tx l) (some (a : Int)) (some (b : Int)) = tx ((l.take b).drop a) := by
  show StrLaws.sliceText (tx l) (some (a : Int)) (some (b : Int)) = _
  have e : StrLaws.sliceText (tx l) (some (a : Int)) (some (b : Int)) = StrLaws.sliceText (tx l) (some ((min a (tx l).length : Nat) : Int)) (some ((min b (tx l).length : Nat) : Int)) := by
    unfold StrLaws.sliceText
    rw [sliceIdx_clip a b]
  rw [e, tx_len]
  by_cases h : min a l.length <= min b l.length
  · rw [StrLaws.sliceText_nat (tx l) h (by rw [tx_len]; omega), tx_cps]
    show tx _ = tx _
    congr 1
    apply List.ext_getElem?
    intro k
    rw [List.getElem?_take, List.getElem?_drop, List.getElem?_drop, List.getElem?_take]
    by_cases h1 : k < min b l.length - min a l.length
    · rw [if_pos h1]
      by_cases h2 : a <= l.length
      · rw [if_pos (by omega)]
        congr 1; omega
      · rw [if_pos (by omega)]
        rw [List.getElem?_eq_none (by omega), List.getElem?_eq_none (by omega)]
    · rw [if_neg h1]
      split
      · rw [List.getElem?_eq_none (by omega)]
      · rfl
  · have hd : (l.take b).drop a = [] := List.drop_eq_nil_of_le (by rw [List.length_take]; omega)
    rw [hd]
    unfold StrLaws.sliceText
    have z : (strSliceIndices (some ((min a l.length : Nat) : Int)) (some ((min b l.length : Nat) : Int)) 1 (tx l).length) = [] := by
      rw [tx_len]
      unfold strSliceIndices
      have h1 : (1 : Int) > 0 := by decide
      simp only [h1, if_true]
      rw [if_neg (by omega), if_neg (by omega)]
      unfold sliceRange
      simp only [h1, if_true]
      rw [if_neg (by omega)]
      rfl
    rw [z]
    have hl : l.length ≠ 0 := by omega
    rw [if_neg (by simp [tx_len]; omega)]
    rfl
theorem slice_to (l : List Nat) (b : Nat) : Txt.slice (tx l) none (some (b : Int)) = tx (l.take b) := by
  have := slice_tx l 0 b
  rw [List.drop_zero] at this
  rw [<- this]
  show StrLaws.sliceText _ _ _ = StrLaws.sliceText _ _ _
  unfold StrLaws.sliceText
  rw [StrLaws.sliceIdx_none_lo]
  rfl
end GT
namespace L2
open PySem PySem.Spec PyProof.Rows
noncomputable def ccx (X : Cx) (scope : Scope) (cl : List (Str × Addr)) (C : Addr) (ns : List Str) (fp : List Addr) (s : Shared) (H : Hp) : Cx where
  prog := X.prog
  w := X.w
  K := X.K
  mg := X.mg
  base := X.base
  A := X.A
  N := ns
  s₀ := s
  H₀ := H
  env := compEnvC scope cl C X.env
  outer := X.stack
  stack := X.stack
  ex := fp
  fn := fun _ => false
  calm := X.calm
  pn := []
  xe := fun _ _ => False
theorem closure_of (scope : Scope) (env : Env) : (∀ x, (x, NameKind.free) ∈ scope.names -> ∃ c, env.cells.lookup x = some c) ->
    ∃ cl, closureFor scope env = pure cl /\ (∀ x c, (x, c) ∈ cl -> env.cells.lookup x = some c) /\ ∀ x, (x, NameKind.free) ∈ scope.names -> ∃ c, (x, c) ∈ cl := by
  intro h
  unfold closureFor
  have key : ∀ (l : List (Str × NameKind)) (acc : List (Str × Addr)), (∀ x, (x, NameKind.free) ∈ l -> ∃ c, env.cells.lookup x = some c) -> (∀ x c, (x, c) ∈ acc -> env.cells.lookup x = some c) ->
      ∃ cl, (forIn l acc fun (p : Str × NameKind) cs => (do
        if p.2 == .free then do
          let a <- cellOf env p.1
          pure (ForInStep.yield ((p.1, a) :: cs))
        else pure (ForInStep.yield cs) : Sem (ForInStep (List (Str × Addr))))) = pure cl /\ (∀ x c, (x, c) ∈ cl -> env.cells.lookup x = some c) /\ (∀ x, (x, NameKind.free) ∈ l -> ∃ c, (x, c) ∈ cl) /\ ∀ p ∈ acc, p ∈ cl := by
    intro l
    induction l with
    | nil => intro acc _ ha; exact ⟨acc, rfl, ha, fun x hx => by simp at hx, fun _ h => h⟩
    | cons p l ih =>
      intro acc hl ha
      obtain ⟨x, k⟩ := p
      rw [List.forIn_cons]
      by_cases hk : k = .free
      · subst hk
        obtain ⟨c, hc⟩ := hl x List.mem_cons_self
        obtain ⟨cl, e, h1, h2, h3⟩ := ih ((x, c) :: acc) (fun y hy => hl y (List.mem_cons_of_mem _ hy)) fun y d hd => by
          rcases List.mem_cons.mp hd with q | q
          · cases q; exact hc
          · exact ha y d q
        refine ⟨cl, ?_, h1, fun y hy => ?_, fun q hq => h3 q (List.mem_cons_of_mem _ hq)⟩
        · simp only [beq_self_eq_true, if_true]
          have ec : cellOf env x = pure c := by unfold cellOf; rw [hc]
          rw [ec, pure_bind, pure_bind]
          exact e
        · rcases List.mem_cons.mp hy with q | q
          · cases q; exact ⟨c, h3 _ List.mem_cons_self⟩
          · exact h2 y q
      · obtain ⟨cl, e, h1, h2, h3⟩ := ih acc (fun y hy => hl y (List.mem_cons_of_mem _ hy)) ha
        have hb : (k == NameKind.free) = false := by simpa using hk
        refine ⟨cl, ?_, h1, fun y hy => ?_, h3⟩
        · simp only [hb, Bool.false_eq_true, if_false]
          rw [pure_bind]
          exact e
        · rcases List.mem_cons.mp hy with q | q
          · cases q; exact absurd rfl hk
          · exact h2 y q
  obtain ⟨cl, e, h1, h2, _⟩ := key scope.names [] h fun _ _ hd => by simp at hd
  exact ⟨cl, by rw [show (fun (p : Str × NameKind) cs => (do
        if p.2 == .free then do
          let a <- cellOf env p.1
          pure (ForInStep.yield ((p.1, a) :: cs))
        else pure (ForInStep.yield cs) : Sem (ForInStep (List (Str × Addr))))) = _ from rfl] at e; exact (congrArg (· >>= pure) e).trans (by rw [pure_bind]), h1, h2⟩
theorem lookup_of_mem {α : Type} : ∀ {l : List (Str × α)} {x : Str} {c : α}, (x, c) ∈ l -> ∃ c', l.lookup x = some c' /\ (x, c') ∈ l
  | [], _, _, h => by simp at h
  | (y, d) :: l, x, c, h => by
    by_cases e : x = y
    · subst e; exact ⟨d, by simp [List.lookup_cons], List.mem_cons_self⟩
    · have h' : (x, c) ∈ l := by
        rcases List.mem_cons.mp h with q | q
        · cases q; exact absurd rfl e
        · exact q
      obtain ⟨c', e1, e2⟩ := lookup_of_mem h'
      have hb : (x == y) = false := by simpa using e
      exact ⟨c', by rw [List.lookup_cons, hb]; exact e1, List.mem_cons_of_mem _ e2⟩
structure CScope (X : Cx) (scope : Scope) (ns : List Str) (nt : Nat) (cap : List Nat) : Prop where
  kind : scope.kind = .function
  nocell : ∀ y ∈ scope.names, y.2 ≠ .cell
  names : ∀ y ∈ scope.names, y.2 = .local -> scope.names.lookup y.1 = some .local
  frees : ∀ y ∈ scope.names, y.2 = .free -> X.env.kindOf y.1 = some .cell \/ X.env.kindOf y.1 = some .free
  nlen : ns.length = nt + cap.length
  caps : ∀ (j k : Nat), cap[j]? = some k -> ∃ x, X.N[k]? = some x /\ ns[nt + j]? = some x /\ Vis X.env.scope x /\ (X.env.kindOf x = some .cell \/ X.env.kindOf x = some .free) /\ scope.names.lookup x = some .free
noncomputable def cst (nt : Nat) (cap : List Nat) (σ : St) : St := List.replicate nt none ++ cap.map fun k => (σ[k]?).getD none
noncomputable def PIf (X : Cx) (ifs : List Expr) (t : TT) : Prop :=
  ∀ (pins : List (Addr × Obj)) (s : Shared) (σ : St) (H : Hp) (Q : Bool -> Hp -> Prop), Inv X pins σ H s -> t σ H Q ->
    wpAny (model X.prog X.w) X.A (forIn ifs true fun c r => if r = true then do let ok <- isTrue c X.env (eval c X.env); pure (ForInStep.yield ok) else pure (ForInStep.yield r)) (TP X pins σ Q) X.xe s
noncomputable def tYes : TT := fun _ H Q => Q true H
theorem pif_nil {X : Cx} : PIf X [] tYes := fun pins s σ H Q I h => wpAny_tests_nil ⟨H, I, h⟩
noncomputable def LCB (nt : Nat) (cap : List Nat) (g : TG) (tc : TT) (te : TE) (J : It) (σ : St) (H1 : Hp) (Q : VK) : Prop := ∀ D, H1 D = none ->
  ∃ W : Nat -> Nat -> St -> Hp -> Prop, (∃ m, W 0 m (cst nt cap σ) (upd H1 D (.lst []))) /\ ∀ i m σ' H', W i m σ' H' ->
    (J.stop i H' /\ Q (.ref D) H') \/ (J.go i H' /\ ∃ N : St -> Hp -> Prop, (∀ σ'' H'', N σ'' H'' -> ∃ m', m' < m /\ W (i + 1) m' σ'' H'') /\ ∀ x H2, J.yld i H' x H2 -> g x σ' H2 fun σ2 H3 => tc σ2 H3 fun b H4 =>
      if b = true then te σ2 H4 fun v H5 => ∃ ys, H5 D = some (.lst ys) /\ ys.length < sizeLine /\ N σ2 (upd H5 D (.lst (ys ++ [v]))) else N σ2 H4)
noncomputable def tLC (nt : Nat) (cap : List Nat) (wi : TI) (g : TG) (tc : TT) (te : TE) : TE := fun σ H Q => wi σ H fun J H1 => LCB nt cap g tc te J σ H1 Q
theorem comp_ok {X : Cx} {scope : Scope} {cl : List (Str × Addr)} {C : Addr} {ns : List Str} {nt : Nat} {cap : List Nat} {fp : List Addr} {s : Shared} {H : Hp} {pins : List (Addr × Obj)} {σ : St}
    (I : Inv X pins σ H s) (S : CScope X scope ns nt cap) (hcl1 : ∀ x c, (x, c) ∈ cl -> X.env.cells.lookup x = some c) (hcl2 : ∀ x, (x, NameKind.free) ∈ scope.names -> ∃ c, (x, c) ∈ cl)
    (hC : s.heap.objs.size <= C) (hf : ∀ b ∈ fp, FpOk X pins H b) (hfs : ∀ b ∈ fp, b < s.heap.objs.size) : (ccx X scope cl C ns fp s H).Ok := by
  have lk : ∀ x c, cl.lookup x = some c -> X.env.cells.lookup x = some c := fun x c e => hcl1 x c (PySem.mem_of_lookup e)
  refine ⟨I.ok.mod, S.kind, I.ok.glob, I.ok.blt, hC, fun x y c h1 h2 => I.ok.inj x y c (lk x c h1) (lk y c h2), fun x hx => ?_, fun x c h => Bool.noConfusion (show false = true from h), I.ok.hd, I.ok.frames, .inl rfl, fun b hb => ⟨?_, fun x c e z => ?_⟩, I.bs, Nat.le_trans I.ok.bsz I.sz, fun b o e hb => ?_, fun b hb z => ?_, I.stack, I.stkFree⟩
  · have hx' : (relabel scope X.env).names.lookup x = some .cell \/ (relabel scope X.env).names.lookup x = some .free := hx
    have mem : ∃ k, (x, k) ∈ scope.names /\ k = .free := by
      have aux : ∀ k, (relabel scope X.env).names.lookup x = some k -> k = .cell \/ k = .free -> (x, NameKind.free) ∈ scope.names := fun k e hk => by
        have hm := PySem.mem_of_lookup e
        obtain ⟨⟨y, k0⟩, hy, e2⟩ := List.mem_map.mp hm
        simp only at e2
        split at e2
        · rename_i hc
          cases e2
          have : k0 = .free := by
            simp only [Bool.and_eq_true, beq_iff_eq] at hc
            exact hc.1.1
          subst this
          exact hy
        · cases e2
          rcases hk with rfl | rfl
          · exact absurd rfl (S.nocell _ hy)
          · exact hy
      rcases hx' with e | e
      · exact ⟨_, aux _ e (.inl rfl), rfl⟩
      · exact ⟨_, aux _ e (.inr rfl), rfl⟩
    obtain ⟨k, hm, rfl⟩ := mem
    obtain ⟨c, hc⟩ := hcl2 x hm
    obtain ⟨c', e, _⟩ := lookup_of_mem hc
    exact ⟨c', e⟩
  · exact Nat.ne_of_lt (Nat.lt_of_lt_of_le (hfs b hb) hC)
  · exact (hf b hb).2.2.2.2.1 x c (lk x c e) z
  · obtain ⟨f0, f1, f2, f3, f4, f5⟩ := hf b hb
    rcases f3 with z | z
    · exact I.ok.noex b o e z
    · exact absurd (Nat.lt_of_lt_of_le (Heap.lt_size e) (Nat.le_trans I.ok.bsz z)) (Nat.lt_irrefl _)
  · obtain ⟨f0, f1, f2, f3, f4, f5⟩ := hf b hb
    rcases List.mem_cons.mp (I.stkSub b z) with q | q
    · exact f1 q
    · exact f2 q
theorem lookup_relabel_free {env : Env} : ∀ {names : List (Str × NameKind)} {x : Str}, names.lookup x = some .free ->
    (names.map fun (n, k) => if (k == NameKind.free && env.scope.kind == .function && env.kindOf n == some .cell) then (n, NameKind.cell) else (n, k)).lookup x = some .cell \/
    (names.map fun (n, k) => if (k == NameKind.free && env.scope.kind == .function && env.kindOf n == some .cell) then (n, NameKind.cell) else (n, k)).lookup x = some .free
  | [], _, h => by simp at h
  | (n, k) :: r, x, h => by
    have ih := @lookup_relabel_free env r x
    rw [List.map_cons]
    by_cases e : (x == n) = true
    · rw [List.lookup_cons, e] at h
      have hk : k = .free := Option.some.inj h
      subst hk
      simp only
      split
      · left; rw [List.lookup_cons, e]
      · right; rw [List.lookup_cons, e]
    · have e' : (x == n) = false := by simpa using e
      rw [List.lookup_cons, e'] at h
      simp only
      split
      · rw [List.lookup_cons, e']; exact ih h
      · rw [List.lookup_cons, e']; exact ih h
theorem comp_inv {X : Cx} {scope : Scope} {cl : List (Str × Addr)} {ns : List Str} {nt : Nat} {cap : List Nat} {fp : List Addr} {s : Shared} {H : Hp} {pins : List (Addr × Obj)} {σ : St} {C : Addr} {h₁ : Heap} {m₁ : Str -> Option Value} {tk : Nat}
    (I : Inv X pins σ H s) (S : CScope X scope ns nt cap) (hcl1 : ∀ x c, (x, c) ∈ cl -> X.env.cells.lookup x = some c) (hcl2 : ∀ x, (x, NameKind.free) ∈ scope.names -> ∃ c, (x, c) ∈ cl)
    (hC : s.heap.objs.size < C) (hf : ∀ b ∈ fp, FpOk X pins H b) (hfs : ∀ b ∈ fp, b < s.heap.objs.size) (k : ∀ b o, s.heap.get? b = some o -> h₁.get? b = some o) (hns : h₁.Ns C m₁)
    (hD : h₁.get? s.heap.objs.size = some { cls := .type "list", data := .seq ([] : List Value).toArray }) :
    Inv (ccx X scope cl C ns fp s H) [] (cst nt cap σ) (upd H s.heap.objs.size (.lst [])) { s with heap := h₁, toks := tk } := by
  have fr := I.fresh
  have lk : ∀ x c, cl.lookup x = some c -> X.env.cells.lookup x = some c := fun x c e => hcl1 x c (PySem.mem_of_lookup e)
  have cellK : ∀ c v, s.heap.IsCell c v -> h₁.IsCell c v := fun c v ⟨o, e, d⟩ => ⟨o, k c o e, d⟩
  refine ⟨comp_ok I S hcl1 hcl2 (Nat.le_of_lt hC) hf hfs, rfl, I.bare, Un.laid k (Nat.le_refl _) fr, ⟨m₁, hns, fun i x v e1 e2 e3 => ?_⟩, fun x c e => ?_, ?_, fun x c e => ?_, fun p hp => absurd (show p ∈ ([] : List (Addr × Obj)) from hp) (by simp), I.hok.laid k (Nat.le_refl _) ⟨by decide, [], _, .nil, hD⟩, ?_⟩
  · have e1 : ns[i]? = some x := e1
    by_cases hi : i < nt
    · exfalso
      unfold cst at e2
      rw [List.getElem?_append_left (by simpa using hi), List.getElem?_replicate, if_pos hi] at e2
      cases e2
    · obtain ⟨j, rfl⟩ : ∃ j, i = nt + j := ⟨i - nt, by omega⟩
      unfold cst at e2
      rw [List.getElem?_append_right (by simp), List.length_replicate, Nat.add_sub_cancel_left, List.getElem?_map] at e2
      cases hk : cap[j]? with
      | none => rw [hk] at e2; cases e2
      | some kk =>
        rw [hk] at e2
        obtain ⟨x', c1, c2, c3, c4, c5⟩ := S.caps j kk hk
        rw [c2] at e1
        cases e1
        have e2' : (σ[kk]?).getD none = some v := Option.some.inj e2
        have e3' : σ[kk]? = some (some v) := by
          cases hq : σ[kk]? with
          | none => rw [hq] at e2'; cases e2'
          | some q => rw [hq] at e2'; exact congrArg some e2'
        obtain ⟨m, hm, hl⟩ := I.loc
        obtain ⟨u, r, l⟩ := hl kk x v c1 e3' c3
        refine ⟨u, ⟨r.1, fun h => by cases h⟩, ?_⟩
        rcases l with ⟨l1, _⟩ | ⟨l1, c, l2, l3⟩
        · exfalso
          rw [l1] at c4
          rcases c4 with z | z <;> cases z
        · obtain ⟨c', hc'⟩ := hcl2 x (PySem.mem_of_lookup c5)
          obtain ⟨c'', e4, e5⟩ := lookup_of_mem hc'
          have e6 := hcl1 x c'' e5
          rw [l2] at e6
          cases e6
          exact .inr ⟨lookup_relabel_free c5, c, e4, cellK c _ l3⟩
  · obtain ⟨v, q⟩ := I.cell x c (lk x c e)
    exact ⟨v, cellK c v q⟩
  · show upd H s.heap.objs.size (.lst []) C = none
    rw [upd_ne (Nat.ne_of_gt hC)]
    exact I.hok.fresh (Nat.le_of_lt hC)
  · have e' := lk x c e
    obtain ⟨v, o, ho, _⟩ := I.cell x c e'
    rw [upd_ne (Nat.ne_of_lt (Heap.lt_size ho))]
    exact I.freeC x c e'
  · show (cst nt cap σ).length = ns.length
    unfold cst
    rw [List.length_append, List.length_replicate, List.length_map, S.nlen]
theorem lc_block {X : Cx} {scope : Scope} {ns : List Str} {nt : Nat} {cap : List Nat} {elt tg iter : Expr} {ifs : List Expr} {pos p : Pos} {wi : TI} {g : TG} {tc : TT} {te : TE} {use : Option (Value -> Sem Unit)} {Qf : Value -> Shared -> Prop} {pins : List (Addr × Obj)} {σ : St} {H : Hp} {s : Shared} {Q : VK}
    (hc : X.calm = true) (S : CScope X scope ns nt cap) (hi : PI X tg iter wi) (hg : ∀ cl C fp s H, PG (ccx X scope cl C ns fp s H) tg g) (hif : ∀ cl C fp s H, PIf (ccx X scope cl C ns fp s H) ifs tc) (he : ∀ cl C fp s H, PE (ccx X scope cl C ns fp s H) elt te)
    (hs : ∀ x, foldedSetIterable iter X.env x = pure x) (I : Inv X pins σ H s) (h : tLC nt cap wi g tc te σ H Q)
    (hfin : ∀ (D C : Addr) (m : Str -> Option Value) (H' : Hp) (s' : Shared), Inv X pins σ H' s' -> s'.heap.Ns C m -> FpOk X pins H' C -> Q (.ref D) H' -> compPost (model X.prog X.w) X.A X.xe use Qf (.ref D) C (.ok .next) s') :
    wpAny (model X.prog X.w) X.A (comprehension (.ListComp elt [⟨tg, iter, ifs, 0⟩] scope pos) scope X.env p (newList []) false (eval iter X.env) use) Qf X.xe s := by
  obtain ⟨cl, hclos, hcl1, hcl2⟩ := closure_of scope X.env fun x hx => I.ok.has x (S.frees _ hx rfl)
  refine wpAny_comprehension_free (use := use) rfl hs hclos S.kind S.names ?_
  refine thn (hi pins s σ H _ I h) fun v s1 h1 => thn h1 fun itv s2 h2 => ?_
  obtain ⟨it, fp, tn, J, H2, rfl, I2, T, st2, f2, q⟩ := h2
  obtain ⟨W, ⟨m0, w0⟩, turn⟩ := q s2.heap.objs.size I2.fresh
  have hfs : ∀ b ∈ fp, b < s2.heap.objs.size := fun b hb => by obtain ⟨o, e, _⟩ := T.obj 0 _ st2 b hb; exact Heap.lt_size e
  refine wpAny_newObj_type (wpAny_newFunctionEnv S.nocell (by intro y hy; simp at hy) (fun h₁ hns₁ hsb₁ => ?_) S.kind)
  dsimp only at hns₁ hsb₁ ⊢
  generalize hH3 : s2.heap.push { cls := .type "list", dict := none, data := .seq ([] : List Value).toArray } = H3 at hns₁ hsb₁ ⊢
  have hCs : H3.objs.size = s2.heap.objs.size + 1 := by rw [<- hH3, Heap.size_push]
  have old : ∀ b o, s2.heap.get? b = some o -> h₁.get? b = some o := fun b o e => hsb₁.extBut b o (Nat.ne_of_lt (by rw [hCs]; exact Nat.lt_succ_of_lt (Heap.lt_size e))) (Heap.get?_push_of_some _ (hH3 ▸ Heap.get?_push_of_some _ e))
  have hacc : h₁.get? s2.heap.objs.size = some { cls := .type "list", data := .seq ([] : List Value).toArray } := hsb₁.extBut _ _ (by rw [hCs]; exact Nat.ne_of_lt (Nat.lt_succ_self _)) (Heap.get?_push_of_some _ (hH3 ▸ Heap.get?_push_size _ rfl))
  have hCgt : s2.heap.objs.size < H3.objs.size := by rw [hCs]; exact Nat.lt_succ_self _
  have Ic := comp_inv (tk := s2.toks + ([] : List (Str × Value)).length) (ns := ns) I2 S hcl1 hcl2 hCgt f2 hfs old hns₁ hacc
  have stat : ∀ {H' : Hp} {pins' : List (Addr × Obj)}, (∀ b ∈ fp, H' b = none) -> (∀ p ∈ pins', ∀ b ∈ fp, p.1 ≠ b) -> ∀ b ∈ fp, FpOk (ccx X scope cl H3.objs.size ns fp s2 H2) pins' H' b := fun hn hp b hb => by
    obtain ⟨f0, f1, f2', f3, f4, f5⟩ := f2 b hb
    refine ⟨hn b hb, Nat.ne_of_lt (Nat.lt_trans (hfs b hb) hCgt), fun z => ?_, .inl hb, fun x c e z => f4 x c (hcl1 x c (PySem.mem_of_lookup e)) z, fun p hp' => hp p hp' b hb⟩
    rcases List.mem_cons.mp (I2.stkSub b z) with q | q
    · exact f1 q
    · exact f2' q
  have loop : codeAny (model X.prog X.w) X.A (.compLoop (.ListComp elt [⟨tg, iter, ifs, 0⟩] scope pos) 0 (.ref it) (.ref s2.heap.objs.size) (compEnvC scope cl H3.objs.size X.env))
      (compPost (model X.prog X.w) X.A X.xe use Qf (.ref s2.heap.objs.size) H3.objs.size) { s2 with heap := h₁, toks := s2.toks + ([] : List (Str × Value)).length } := by
    refine codeAny_loop rfl (fun n s' => ∃ i σ' H', Inv (ccx X scope cl H3.objs.size ns fp s2 H2) [] σ' H' s' /\ tn i s'.heap /\ (∀ b ∈ fp, H' b = none) /\ W i n σ' H') ?_ m0
      ⟨0, _, _, Ic, T.keep _ _ _ st2 (fun b hb o e => old b o e), fun b hb => ?_, w0⟩
    · rintro n s3 ⟨i, σ3, Hc, I3, st3, fr3, w3⟩
      show wpAny _ X.A ((compTurn (.ListComp elt [⟨tg, iter, ifs, 0⟩] scope pos) 0 (.ref it) (.ref s2.heap.objs.size) (compEnvC scope cl H3.objs.size X.env)).onRaise (fun x => do noteFrame x _; theTreesLotGoes x)) _ _ s3
      refine wpAny_noted ?_
      rw [compTurn_list]
      refine wpAny_bind (wpAny_standAt (wpAny_bind ?_))
      rcases turn i n σ3 Hc w3 with ⟨stop, qn⟩ | ⟨go, N, hN, step⟩
      · refine thn (T.done (ccx X scope cl H3.objs.size ns fp s2 H2) rfl rfl rfl hc i [] s3 σ3 Hc _ I3 (stat fr3 (by simp)) st3 stop) fun r s4 ⟨hr, I4⟩ => ?_
        subst hr
        refine wpAny_pure ?_
        obtain ⟨m4, hn4, _⟩ := I4.loc
        have IX : Inv X pins σ Hc s4 := I2.call' I4.os I4.base I4.hok I4.bare fun b hb => by
          obtain ⟨f0, f1, f2', f3, f4, f5⟩ := f2 b hb
          exact ⟨f3, f1, f4, f5⟩
        exact hfin _ _ m4 Hc s4 IX hn4 (I2.fpOk (Nat.le_of_lt hCgt) I4.free) qn
      · refine thn (T.item (ccx X scope cl H3.objs.size ns fp s2 H2) rfl rfl rfl hc i [] s3 σ3 Hc _ I3 (stat fr3 (by simp)) st3 go) fun r s4 ⟨u, hr, h4⟩ => ?_
        subst hr
        refine wpAny_bind (thn h4 fun _ s5 ⟨x, H5, I5, r5, y5, st5, fr5⟩ => ?_)
        have I5' := I5.pinned (stat fr5 (by simp)) (T.obj _ _ st5)
        refine wpAny_bind (wpAny_mono (hg _ _ _ _ _ _ s5 σ3 H5 x u _ I5' r5 (step x H5 y5)) (fun _ s6 ⟨σ6, H6, I6, q6⟩ => ?_) fun _ _ f => f.elim)
        have again : ∀ {σ7 : St} {H7 : Hp} {s7 : Shared}, Inv (ccx X scope cl H3.objs.size ns fp s2 H2) ([] ++ pinsAt fp s5.heap) σ7 H7 s7 -> N σ7 H7 -> ∃ m, m < n /\ ∃ i σ' H', Inv (ccx X scope cl H3.objs.size ns fp s2 H2) [] σ' H' s7 /\ tn i s7.heap /\ (∀ b ∈ fp, H' b = none) /\ W i m σ' H' := fun {σ7 H7 s7} I7 n7 => by
          obtain ⟨m', hm, w7⟩ := hN σ7 H7 n7
          refine ⟨m', hm, i + 1, σ7, H7, I7.unpinned, T.keep _ _ _ st5 fun b hb o e => (I7.pin (b, o) (List.mem_append_right _ (List.mem_append_right _ (mem_pinsAt hb e)))).1, fun b hb => ?_, w7⟩
          obtain ⟨o, e, d⟩ := T.obj _ _ st5 b hb
          exact (I7.pin (b, o) (List.mem_append_right _ (List.mem_append_right _ (mem_pinsAt hb e)))).2.1
        refine wpAny_bind (wpAny_mono (hif _ _ _ _ _ _ s6 σ6 H6 _ I6 q6) (fun b s7 ⟨H7, I7, q7⟩ => ?_) fun _ _ f => f.elim)
        cases b with
        | true =>
          rw [if_pos rfl] at q7
          simp only [if_true]
          refine wpAny_bind (wpAny_bind (wpAny_mono (he _ _ _ _ _ _ s7 σ6 H7 _ I7 q7) (fun y s8 ⟨v8, H8, I8, r8, ys, hD8, hl8, q8⟩ => ?_) fun _ _ f => f.elim))
          refine wpAny_bind (wpAny_mono (mt_append (X := ccx X scope cl H3.objs.size ns fp s2 H2) _ s8 σ6 H8 (.ref s2.heap.objs.size) [v8] (.ref s2.heap.objs.size) [y] (fun _ H' => N σ6 H') I8 rfl (.cons r8 .nil) ⟨_, ys, v8, rfl, rfl, hD8, hl8, q8⟩) (fun _ s9 ⟨_, H9, I9, _, q9⟩ => ?_) fun _ _ f => f.elim)
          exact wpAny_pure (wpAny_pure ⟨rfl, again I9 q9⟩)
        | false =>
          rw [if_neg Bool.false_ne_true] at q7
          simp only [Bool.false_eq_true, if_false]
          exact wpAny_pure ⟨rfl, again I7 q7⟩
    · obtain ⟨f0, _⟩ := f2 b hb
      rw [upd_ne (Nat.ne_of_lt (hfs b hb))]
      exact f0
  exact codeAny_compStart_list loop (T.self _ 0 _ _ _ (T.keep _ _ _ st2 fun b hb o e => old b o e) loop)
theorem pe_lc {X : Cx} {scope : Scope} {ns : List Str} {nt : Nat} {cap : List Nat} {elt tg iter : Expr} {ifs : List Expr} {pos : Pos} {wi : TI} {g : TG} {tc : TT} {te : TE}
    (hc : X.calm = true) (S : CScope X scope ns nt cap) (hi : PI X tg iter wi) (hg : ∀ cl C fp s H, PG (ccx X scope cl C ns fp s H) tg g) (hif : ∀ cl C fp s H, PIf (ccx X scope cl C ns fp s H) ifs tc) (he : ∀ cl C fp s H, PE (ccx X scope cl C ns fp s H) elt te)
    (hs : ∀ x, foldedSetIterable iter X.env x = pure x := by intro _; rfl) : PE X (.ListComp elt [⟨tg, iter, ifs, 0⟩] scope pos) (tLC nt cap wi g tc te) := by
  intro pins s σ H Q I h
  rw [eval_ListComp]
  refine lc_block (use := none) hc S hi hg hif he hs I h fun D C m H' s' I' hn f q => ⟨m, hn, fun h' hs' => ?_⟩
  obtain ⟨f0, f1, f2, f3, f4, f5⟩ := f
  exact ⟨.ref D, H', I'.turned (t' := s'.toks) (fun b o hb e => hs'.extBut b o hb e) f0 f1 f3 f4 f5, rfl, q⟩
theorem ps_lc {X : Cx} {scope : Scope} {ns : List Str} {nt : Nat} {cap : List Nat} {elt tg iter : Expr} {ifs : List Expr} {pos spos py : Pos} {wi : TI} {g : TG} {tc : TT} {te : TE} {i : Nat} {y : Str}
    (hc : X.calm = true) (hN : X.N.Nodup) (hi' : X.N[i]? = some y) (hy : X.env.scope.names.lookup y = some .local) (S : CScope X scope ns nt cap) (hi : PI X tg iter wi) (hg : ∀ cl C fp s H, PG (ccx X scope cl C ns fp s H) tg g) (hif : ∀ cl C fp s H, PIf (ccx X scope cl C ns fp s H) ifs tc) (he : ∀ cl C fp s H, PE (ccx X scope cl C ns fp s H) elt te)
    (hsw : swapsWith (.ListComp elt [⟨tg, iter, ifs, 0⟩] scope pos) (some (.Name y py)) spos.line X.env = pure true := by rfl)
    (hs : ∀ x, foldedSetIterable iter X.env x = pure x := by intro _; rfl) : PS X (.Assign [.Name y py] (.ListComp elt [⟨tg, iter, ifs, 0⟩] scope pos) spos) (tAsg (tLC nt cap wi g tc te) (gName i)) := by
  intro pins s σ H Dn I h
  rw [exec_Assign_Name_used _ _ _ _ hsw]
  refine wpAny_bind (wpAny_standAt (wpAny_bind ?_))
  show wpAny _ X.A (do let _ <- comprehension (.ListComp elt [⟨tg, iter, ifs, 0⟩] scope pos) scope X.env _ (newList []) false (eval iter X.env) (some (assign (.Name y py) X.env))) _ _ s
  refine wpAny_bind (thn (lc_block (use := some (assign (.Name y py) X.env)) (Qf := fun _ s' => SP X pins Dn .next s') hc S hi hg hif he hs I h fun D C m H' s' I' hn f q => ?_) fun _ s' hq => wpAny_pure (wpAny_pure hq))
  show wpAny _ _ (assign (.Name y py) X.env (.ref D)) _ _ _
  refine wpAny_assign_Name (store_ok2 I' hN hi' (.inl hy) (v := .ref D) rfl (fun s'' I'' ⟨a, sb, ha⟩ => ?_) (.inr hy) (fun _ z t e => by cases e))
  obtain ⟨f0, f1, f2, f3, f4, f5⟩ := f
  have hCa : C ≠ a := fun z => by
    rcases ha with e | e
    · exact f1 (z.trans e)
    · exact f4 _ _ e z.symm
  refine ⟨m, hn.sameBut sb hCa, fun h' hs' => ⟨_, H', I''.turned (t' := s''.toks) (fun b o hb e => hs'.extBut b o hb e) f0 f1 f3 f4 f5, q⟩⟩
end L2
namespace L2
open PySem PySem.Spec PyProof.Rows GT
section
variable {X : Cx}
noncomputable def rSlS : V -> Option Int -> Option Int -> Hp -> VK -> Prop := fun x lo hi H Q => ∃ z, x = .str z /\ z.length <= sizeLine /\ Q (.str (Txt.slice z lo hi)) H
theorem sl_str : SlR X rSlS := by
  intro pins s σ H x v vl vu lo hi sl Q I rx hs pl pu h
  obtain ⟨z, rfl, hz, q⟩ := h
  obtain ⟨t, rfl⟩ := rx
  refine ⟨"str", _, PySem.F.slot_str_getitem.lookup, typeIs_str s z t, ?_⟩
  have key : ∃ l u : Option (Int × Tok), vl = partValue l /\ vu = partValue u /\ l.map (·.1) = lo /\ u.map (·.1) = hi := by
    cases pl with
    | none => cases pu with
      | none => exact ⟨none, none, rfl, rfl, rfl, rfl⟩
      | int j t2 => exact ⟨none, some (j, t2), rfl, rfl, rfl, rfl⟩
    | int i t1 => cases pu with
      | none => exact ⟨some (i, t1), none, rfl, rfl, rfl, rfl⟩
      | int j t2 => exact ⟨some (i, t1), some (j, t2), rfl, rfl, rfl, rfl⟩
  obtain ⟨l, u, rfl, rfl, rfl, rfl⟩ := key
  refine wpAny_getItem_str_slice (l := l) (u := u) (st := none) hs rfl ?_
  refine post_val_or_made (fun hc => ?_) fun t' k => ⟨.str (Txt.slice z (l.map (·.1)) (u.map (·.1))), H, I.tok k, ⟨t', rfl⟩, q⟩
  refine Nat.le_trans ?_ hz
  have := PyProof.Txt.length_slice_le z (l.map (·.1)) (u.map (·.1))
  unfold Txt.slice at this
  rw [if_neg (show ¬ ((1 : Int) == 1 && (Builtin.Str.strSliceIndices (l.map (·.1)) (u.map (·.1)) 1 z.length).length == z.length) = true from hc)] at this
  exact this
noncomputable def sty (z : Str) : String := if z.cps.all (· < 128) = true then "str_ascii_iterator" else "str_iterator"
noncomputable def Its (l : List Nat) : It := ⟨fun i _ => i < l.length, fun i H x H' => H' = H /\ ∃ c, l[i]? = some c /\ x = .str (tx [c]), fun i _ => l.length <= i⟩
theorem sty_go (z : Str) : ["enumerate", "zip", "dict_itemiterator", "dict_reverseitemiterator", "odict_iterator", "itertools.zip_longest", "itertools.pairwise"].contains (sty z) = false := by
  unfold sty
  split <;> decide
theorem str_walks {P : Program} {w : World} {A : Around} (hh : A.handled = none) (it : Addr) (z : Str) (t : Tok) : Walks P w A it [it] [it] z.cps.size (SignAt z) (fun i h => h.IsStrIter it (sty z) z t i) := by
  unfold sty
  by_cases h : z.cps.all (· < 128) = true
  · rw [if_pos h]; exact Walks.strAscii hh it z t
  · rw [if_neg h]; exact Walks.strWide hh it z t
theorem turn_str {P : Program} {w : World} {K : PySem.W.Frag} {tg : Expr} (it : Addr) (z : Str) (t : Tok) : Turn P w K tg (Its z.cps.toList) [it] it (fun i h => h.IsStrIter it (sty z) z t i) where
  mem := by simp
  obj := fun i h st b hb => by
    have e : b = it := by simpa using hb
    subst e
    obtain ⟨o, e, c, d⟩ := st
    exact ⟨o, e, fun v z => by rw [d] at z; cases z⟩
  keep := fun i h h' st k => by obtain ⟨o, e, r⟩ := st; exact ⟨o, k it (by simp) o e, r⟩
  item := by
    intro X hP hw hK hc i pins s σ H E I hf st hg
    subst hP hw hK
    obtain ⟨f0, f1, f2, f3, f4, f5⟩ := hf it (by simp)
    have hi : i < z.cps.size := by have : i < z.cps.toList.length := hg; simpa using this
    refine (str_walks (I.ok.hd hc) it z t).item i s _ _ hi st fun v h' tk hv st' kk => ?_
    obtain ⟨c, u, hc', rfl⟩ := hv
    have I1 : Inv X pins σ H { s with heap := h', toks := tk } := I.turned (fun b o hb e => kk b o (by simpa using hb) e) f0 f1 f3 f4 f5
    obtain ⟨o, e, c1, d⟩ := id st'
    exact ⟨_, rfl, go_of (s := { s with heap := h', toks := tk }) e c1 d (sty_go z) ⟨.str (tx [c]), H, I1, ⟨u, rfl⟩, ⟨rfl, c, by simpa using hc', rfl⟩, st', fun b hb => (hf b hb).1⟩⟩
  done := by
    intro X hP hw hK hc i pins s σ H E I hf st hg
    subst hP hw hK
    obtain ⟨f0, f1, f2, f3, f4, f5⟩ := hf it (by simp)
    have hi : z.cps.size <= i := by have : z.cps.toList.length <= i := hg; simpa using this
    have hx : z.cps[i]? = none := Array.getElem?_eq_none hi
    unfold sty at st
    by_cases h : z.cps.all (· < 128) = true
    · rw [if_pos h] at st
      exact wpAny_pyNext_ascii_end (I.ok.hd hc) st hx fun h' eb => ⟨rfl, I.turned (t' := s.toks) (fun b o hb e => eb b o hb e) f0 f1 f3 f4 f5⟩
    · rw [if_neg h] at st
      exact wpAny_pyNext_wide_end (I.ok.hd hc) st hx fun h' eb => ⟨rfl, I.turned (t' := s.toks) (fun b o hb e => eb b o hb e) f0 f1 f3 f4 f5⟩
  self := fun A i s Q E st h => by
    unfold sty at st
    by_cases hh : z.cps.all (· < 128) = true
    · rw [if_pos hh] at st; exact wpAny_pyIter_striter_ascii st h
    · rw [if_neg hh] at st; exact wpAny_pyIter_striter_wide st h
noncomputable def iStr (tl : TE) : TI := fun σ H R => tl σ H fun x H1 => ∃ z : Str, x = .str z /\ R (Its z.cps.toList) H1
theorem pi_str {tg l : Expr} {tl : TE} (hl : PE X l tl) : PI X tg l (iStr tl) := by
  intro pins s σ H R I h
  refine thn (hl pins s σ H _ I h) fun v s1 ⟨x, H1, I1, r1, q1⟩ => ?_
  obtain ⟨z, e, q⟩ := q1
  subst e
  obtain ⟨t, rfl⟩ := r1
  have fin : ∀ o : Obj, o.cls = .type (sty z) -> o.data = .fields #[.str z t, .int 0 0] -> PIE X pins σ tg R (.ref s1.heap.objs.size) { s1 with heap := s1.heap.push o } := fun o oc od => by
    refine ⟨s1.heap.objs.size, [s1.heap.objs.size], _, _, H1, rfl, I1.kept (t' := s1.toks) fun b o e => Heap.get?_push_of_some _ e, turn_str _ z t, ⟨o, Heap.get?_push_size _ (by obtain ⟨a, b, c, d⟩ := o; simp only at od; subst od; rfl), oc, od⟩, fun b hb => ?_, q⟩
    have e : b = s1.heap.objs.size := by simpa using hb
    subst e
    exact I1.fpOk (Nat.le_refl _) (I1.hok.fresh (Nat.le_refl _))
  by_cases h : z.cps.all (· < 128) = true
  · exact wpAny_pyIter_ascii h (fin _ (by unfold sty; rw [if_pos h]) rfl)
  · exact wpAny_pyIter_wide (by simpa using h) (fin _ (by unfold sty; rw [if_neg h]) rfl)
noncomputable def rCount : V -> List V -> Hp -> VK -> Prop := fun x vs H Q => Ex2 fun (l : List Nat) (c : Nat) => x = .str (tx l) /\ vs = [.str (tx [c])] /\ Q (.int (l.count c)) H
theorem mt_count : MtR X "str.count" rCount := by
  intro pins s σ H x vs v us Q I rx rv h
  obtain ⟨l, c, rfl, rfl, q⟩ := h
  obtain ⟨t, rfl⟩ := rx
  obtain ⟨u, rfl, t', rfl⟩ := rv.one
  refine SC.count (y := tx [c]) ?_
  rw [count_tx]
  exact ⟨.int _, H, I.tok _, ⟨_, rfl⟩, q⟩
noncomputable def rIndex : V -> List V -> Hp -> VK -> Prop := fun x vs H Q => Ex3 fun (l : List Nat) (c i : Nat) => x = .str (tx l) /\ vs = [.str (tx [c])] /\ l[i]? = some c /\ (∀ k, k < i -> l[k]? ≠ some c) /\ Q (.int i) H
theorem mt_index : MtR X "str.index" rIndex := by
  intro pins s σ H x vs v us Q I rx rv h
  obtain ⟨l, c, i, rfl, rfl, h1, h2, q⟩ := h
  obtain ⟨t, rfl⟩ := rx
  obtain ⟨u, rfl, t', rfl⟩ := rv.one
  obtain ⟨rest, e⟩ := index_tx h1 h2
  exact SC.index (y := tx [c]) e ⟨.int _, H, I.tok _, ⟨_, rfl⟩, q⟩
theorem strsAre_of : ∀ {ls : List (List Nat)} {us : List Value}, Vals (ls.map fun l => V.str (tx l)) us -> StrsAre us (ls.map tx)
  | [], us, r => by cases r; exact .nil
  | l :: ls, us, r => by
    cases r with
    | cons a b => obtain ⟨t, rfl⟩ := a; exact .cons _ t (strsAre_of b)
noncomputable def rJoin (K : PySem.W.Frag) : V -> List V -> Hp -> VK -> Prop := fun x vs H Q => Ex2 fun (p : Addr) (ls : List (List Nat)) => x = .str (tx []) /\ vs = [.ref p] /\ SqL K H p (ls.map fun l => V.str (tx l)) /\ ls.flatten.length <= 16777216 /\ Q (.str (tx ls.flatten)) H
theorem mt_join : MtR X "str.join" (rJoin X.K) := by
  intro pins s σ H x vs v us Q I rx rv h
  obtain ⟨p, ls, rfl, rfl, hq, hz, q⟩ := h
  obtain ⟨t, rfl⟩ := rx
  obtain ⟨u, rfl, ru⟩ := rv.one
  cases ru
  obtain ⟨its, r, pl, _⟩ := I.list hq
  refine join_list (ys := ls.map tx) pl.isList (strsAre_of r) ?_ fun t' k => ⟨.str (tx ls.flatten), H, I.tok k, ⟨t', by rw [join_tx]⟩, q⟩
  have e : ((ls.map tx).map (·.length)).sum = ls.flatten.length := by
    rw [List.length_flatten, List.map_map]
    congr 1
  rw [e, tx_len]
  show _ + _ * 0 <= _
  rw [Nat.mul_zero, Nat.add_zero]
  exact hz
noncomputable def rMulS : R2 := fun x y H Q => Ex2 fun (l : List Nat) (n : Nat) => x = .str (tx l) /\ y = .int n /\ l.length * n <= 16777216 /\ n <= 16777216 /\ Q (.str (tx (List.replicate n l).flatten)) H
theorem op_mul_str : OpR X (binaryOp .Mult) rMulS := by
  intro pins s σ H x y v u Q I rx ry h
  obtain ⟨l, n, rfl, rfl, hz, hn, q⟩ := h
  obtain ⟨t, rfl⟩ := rx
  obtain ⟨t', rfl⟩ := ry
  refine SB.mul ⟨?_, fun h1 h2 => ?_, fun h1 h2 => ?_⟩ fun t' k => ⟨.str (tx (List.replicate n l).flatten), H, I.tok k, ⟨t', by rw [mul_tx]⟩, q⟩
  · rw [decide_eq_false (by omega), decide_eq_false (by omega)]; rfl
  · rw [tx_len]
    have : (l.length : Int) * n <= 16777216 := by
      have := Int.ofNat_le.mpr hz
      rw [Int.natCast_mul] at this
      exact this
    intro hgt
    have h3 : (2 ^ 63 - 1) / (n : Int) < l.length := hgt
    have h4 : (n : Int) > 0 := by omega
    have h5 := Int.lt_mul_of_ediv_lt h4 h3
    omega
  · rw [tx_len, Int.toNat_natCast]
    unfold PySem.Builtin.Str.tooLong
    exact decide_eq_false (by rw [sizeLine_eq]; omega)
theorem call_all : CallR X (.builtin "all") (fun xs H Q => Ex2 fun (p : Addr) (bs : List Bool) => xs = [.ref p] /\ X.calm = true /\ SqL X.K H p (bs.map V.bl) /\ Q (.bl (bs.all id)) H) := by
  intro pins s σ H xs us Q I r h
  obtain ⟨p, bs, rfl, hc, hq, q⟩ := h
  obtain ⟨u, rfl, ru⟩ := vals1 r
  cases ru
  obtain ⟨its, rv, pl, hz⟩ := I.list hq
  have hh := I.ok.hd hc
  have hlt : p < s.heap.objs.size := by obtain ⟨o, n, e, _⟩ := pl; exact Heap.lt_size e
  refine call_all_walk (wpAny_pyIter_list pl.isList ⟨s.heap.objs.size, _, _, _, _, _, fun i => bs.getD i true, rfl, Walks.list (A := X.A.in1) hh _ p (Nat.ne_of_lt hlt) its.toArray, ⟨⟨_, Heap.get?_push_size _ rfl, rfl, rfl⟩, pl.isList.push _⟩, ?_, fun h' tk hk => ?_⟩)
  · intro i v s' Q' E' hv hQ
    have hv' : its[i]? = some v := by simpa using hv
    have hl := rv.length
    have hi : i < bs.length := by have := (List.getElem?_eq_some_iff.mp hv').1; rw [List.length_map] at hl; omega
    obtain ⟨u', e1, r1⟩ := rv.get (i := i) (x := V.bl bs[i]) (by simp [hi])
    rw [hv'] at e1
    cases e1
    have r1' : v = Value.bool bs[i] := r1
    subst r1'
    refine wpAny_truthy_bool ?_
    have : bs.getD i true = bs[i] := by simp [List.getD_eq_getElem?_getD, hi]
    have hQ' : Q' (bs.getD i true) s' := hQ
    rw [this] at hQ'
    exact hQ'
  · have e : (List.range its.toArray.size).all (fun i => bs.getD i true) = bs.all id := by
      have hl := rv.length
      rw [List.length_map] at hl
      rw [List.size_toArray, <- hl, Bool.eq_iff_iff, List.all_eq_true, List.all_eq_true]
      constructor
      · intro a b hb
        obtain ⟨i, hi, rfl⟩ := List.getElem_of_mem hb
        have := a i (List.mem_range.mpr hi)
        simpa [List.getD_eq_getElem?_getD, hi] using this
      · intro a i hi
        have hi := List.mem_range.mp hi
        have := a bs[i] (List.getElem_mem hi)
        simpa [List.getD_eq_getElem?_getD, hi] using this
    rw [e]
    exact ⟨.bl (bs.all id), H, I.kept (fun b o eb => hk b o (by simpa using Nat.ne_of_lt (Heap.lt_size eb)) (Heap.get?_push_of_some _ eb)), rfl, q⟩
theorem preSum_list (ns : List Int) : ∀ n, preSum (fun i => ns.getD i 0) n = (ns.take n).sum
  | 0 => by simp [preSum]
  | n + 1 => by
    rw [preSum, preSum_list ns n, List.take_add_one]
    cases h : ns[n]? with
    | none => simp [List.getD_eq_getElem?_getD, h]
    | some a => simp [List.getD_eq_getElem?_getD, h]
theorem call_sum : CallR X (.builtin "sum") (fun xs H Q => Ex2 fun (p : Addr) (ns : List Int) => xs = [.ref p] /\ X.calm = true /\ SqL X.K H p (ns.map V.int) /\ Q (.int ns.sum) H) := by
  intro pins s σ H xs us Q I r h
  obtain ⟨p, ns, rfl, hc, hq, q⟩ := h
  obtain ⟨u, rfl, ru⟩ := vals1 r
  cases ru
  obtain ⟨its, rv, pl, hz⟩ := I.list hq
  have hh := I.ok.hd hc
  have hlt : p < s.heap.objs.size := by obtain ⟨o, n, e, _⟩ := pl; exact Heap.lt_size e
  have hl := rv.length
  rw [List.length_map] at hl
  refine call_sum_walkG (wpAny_pyIter_list pl.isList ⟨s.heap.objs.size, _, _, _, _, _, fun i => ns.getD i 0, rfl, Walks.list (A := X.A.in1) hh _ p (Nat.ne_of_lt hlt) its.toArray, ⟨⟨_, Heap.get?_push_size _ rfl, rfl, rfl⟩, pl.isList.push _⟩, ?_, ?_, fun h' tk t' hk => ?_⟩)
  · intro b hb
    show b < (s.heap.push _).objs.size
    rw [Heap.size_push]
    simp at hb
    rcases hb with rfl | rfl
    · exact Nat.lt_succ_self _
    · exact Nat.lt_succ_of_lt hlt
  · intro i v hv
    have hv' : its[i]? = some v := by simpa using hv
    have hi : i < ns.length := by have := (List.getElem?_eq_some_iff.mp hv').1; omega
    obtain ⟨u', e1, r1⟩ := rv.get (i := i) (x := V.int ns[i]) (by simp [hi])
    rw [hv'] at e1
    cases e1
    obtain ⟨t, rfl⟩ := r1
    exact ⟨t, by simp [List.getD_eq_getElem?_getD, hi]⟩
  · refine ⟨.int ns.sum, H, I.kept (fun b o eb => hk b o (by simpa using Nat.ne_of_lt (Heap.lt_size eb)) (Heap.get?_push_of_some _ eb)), ⟨t', ?_⟩, q⟩
    rw [preSum_list, List.size_toArray, <- hl, List.take_length]
end
end L2
namespace L2
open PySem PySem.Spec PyProof.Rows GT GZ
section
variable {X : Cx} {pins : List (Addr × Obj)} {σ : St} {H : Hp} {s : Shared} {h' : Heap}
theorem Inv.turnedAll {t' : Nat} {ch : List Addr} (I : Inv X pins σ H s) (hch : ∀ b ∈ ch, FpOk X pins H b) (k : ∀ b o, b ∉ ch -> s.heap.get? b = some o -> h'.get? b = some o) : Inv X pins σ H { s with heap := h', toks := t' } := by
  have nch : ∀ b u, H b = some u -> b ∉ ch := fun b u e z => by rw [(hch b z).1] at e; cases e
  refine I.step (g' := s.gens) (d' := s.drawn) (ch := ch) (fun b hb => ?_) (fun b o _ _ hc e _ => k b o hc e) (fun b o _ _ hc e _ => ⟨o.slots, k b o hc e⟩) (fun _ _ _ _ n => n)
    (fun b o hc e => ⟨o, k b o hc e⟩) (fun _ _ e => e) (fun _ _ _ e => e) (fun b ps e => ⟨#[], by rw [e]; simp⟩) (fun m hm => ?_) (fun b u e => ?_) I.bare
  · obtain ⟨f0, f1, f2, f3, f4, f5⟩ := hch b hb
    exact ⟨f3, f1, f4, f5⟩
  · obtain ⟨o, es, ep, ho, r⟩ := hm
    exact ⟨o, es, ep, k _ o (fun z => (hch _ z).2.1 rfl) ho, r⟩
  · refine (I.hok b u e).stay (fun c v hc q => k c v ?_ q) (fun _ q => q) fun _ _ q => q
    rcases hc with z | z
    · rw [z]; exact nch b u e
    · exact nch c _ z
theorem Inv.turnedNew {t' : Nat} {ch : List Addr} {p : Addr} {o : HO} (I : Inv X pins σ H s) (hch : ∀ b ∈ ch, FpOk X pins H b) (k : ∀ b u, b ∉ ch -> s.heap.get? b = some u -> h'.get? b = some u)
    (hp : s.heap.objs.size <= p) (new : ObjOk X.prog X.w (upd H p o) h' p o) : Inv X pins σ (upd H p o) { s with heap := h', toks := t' } := by
  have hn : H p = none := I.hok.fresh hp
  have nch : ∀ b u, H b = some u -> b ∉ ch := fun b u e z => by rw [(hch b z).1] at e; cases e
  have ne : ∀ b u, s.heap.get? b = some u -> b ≠ p := fun b u e => Nat.ne_of_lt (Nat.lt_of_lt_of_le (Heap.lt_size e) hp)
  refine I.step (g' := s.gens) (d' := s.drawn) (ch := ch) (fun b hb => ?_) (fun b o _ _ hc e _ => k b o hc e) (fun b o _ _ hc e _ => ⟨o.slots, k b o hc e⟩) (fun b u _ e n => by rw [upd_ne (ne b u e)]; exact n)
    (fun b o hc e => ⟨o, k b o hc e⟩) (fun b xs e => by rw [upd_ne (ne_of_none e hn)]; exact e) (fun b u xs e => by rw [upd_ne (ne_of_none e hn)]; exact e) (fun b ps e => ⟨#[], by rw [upd_ne (ne_of_none e hn), e]; simp⟩) (fun m hm => ?_) (fun b u e => ?_) I.bare
  · obtain ⟨f0, f1, f2, f3, f4, f5⟩ := hch b hb
    exact ⟨f3, f1, f4, f5⟩
  · obtain ⟨o, es, ep, ho, r⟩ := hm
    exact ⟨o, es, ep, k _ o (fun z => (hch _ z).2.1 rfl) ho, r⟩
  · by_cases hb : b = p
    · subst hb; rw [upd_same] at e; cases e; exact new
    · rw [upd_ne hb] at e
      refine (I.hok b u e).stay (fun c v hc q => k c v ?_ q) (fun c q => by rw [upd_ne (ne_of_none q hn)]; exact q) fun c xs q => by rw [upd_ne (ne_of_none q hn)]; exact q
      rcases hc with z | z
      · rw [z]; exact nch b u e
      · exact nch c _ z
end
inductive Src where
  | lst (a : Addr)
  | str (z : Str)
noncomputable def Src.v : Src -> V
  | .lst a => .ref a
  | .str z => .str z
noncomputable def Src.iter : Src -> Addr -> Nat -> Heap -> Prop
  | .lst a, it, i, h => h.IsListIter it a i
  | .str z, it, i, h => ∃ t, h.IsStrIter it "str_ascii_iterator" z t i
noncomputable def Src.items : Src -> Hp -> List V -> Prop
  | .lst a, H, xs => H a = some (.lst xs)
  | .str z, _, xs => z.cps.all (· < 128) = true /\ xs = z.cps.toList.map fun c => V.str (tx [c])
theorem Src.items_inj {S : Src} {H : Hp} {xs ys : List V} (h : S.items H xs) (h' : S.items H ys) : xs = ys := by
  cases S with
  | lst a => have h : H a = _ := h; have h' : H a = _ := h'; rw [h] at h'; cases h'; rfl
  | str z => exact h.2.trans h'.2.symm
theorem Src.keep {S : Src} {it : Addr} {i : Nat} {h h' : Heap} (st : S.iter it i h) (k : ∀ o, h.get? it = some o -> h'.get? it = some o) : S.iter it i h' := by
  cases S with
  | lst a => exact Heap.IsListIter.at (show h.IsListIter it a i from st) k
  | str z => obtain ⟨t, o, e, r⟩ := st; exact ⟨t, o, k o e, r⟩
theorem Src.obj {S : Src} {it : Addr} {i : Nat} {h : Heap} (st : S.iter it i h) : ∃ o, h.get? it = some o /\ ∀ v, o.data ≠ .cell v := by
  cases S with
  | lst a => obtain ⟨o, e, c, d⟩ := (show h.IsListIter it a i from st); exact ⟨o, e, fun v z => by rw [d] at z; cases z⟩
  | str z => obtain ⟨t, o, e, c, d⟩ := st; exact ⟨o, e, fun v z => by rw [d] at z; cases z⟩
section
variable {X : Cx} {pins : List (Addr × Obj)} {σ : St} {H : Hp} {s : Shared}
theorem Vals.inv {xs : List V} {us : List Value} {i : Nat} {u : Value} (r : Vals xs us) (e : us[i]? = some u) : ∃ x, xs[i]? = some x /\ RelV x u := by
  have hl := r.length
  have hi : i < xs.length := by have := (List.getElem?_eq_some_iff.mp e).1; omega
  obtain ⟨u', e1, r1⟩ := r.get (i := i) (x := xs[i]) (by simp [hi])
  rw [e] at e1; cases e1
  exact ⟨_, by simp [hi], r1⟩
theorem Src.nx {S : Src} {it : Addr} {xs : List V} {i0 : Nat} (I : Inv X pins σ H s) (hx : S.items H xs) (hf : FpOk X pins H it) (st : S.iter it i0 s.heap) :
    ∃ (fp : List Addr) (P : Nat -> Value -> Prop) (St : Nat -> Heap -> Prop), Nx X.prog X.w it fp xs.length P St /\ (∀ b ∈ fp, b = it \/ ∃ o, H b = some o) /\ (∀ i v, P i v -> ∃ x, xs[i]? = some x /\ RelV x v) /\ St i0 s.heap /\ (∀ i h, St i h -> S.iter it i h) := by
  cases S with
  | lst a =>
    have hx : H a = some (.lst xs) := hx
    obtain ⟨its, rv, pl, hz⟩ := I.list (SqL.of (K := X.K) hx)
    have hne : a ≠ it := ne_of_none hx hf.1
    have hl := rv.length
    have N := nx_list (prog := X.prog) (w := X.w) it a hne its.toArray
    rw [List.size_toArray, <- hl] at N
    refine ⟨_, _, _, N, fun b hb => ?_, fun i v hv => rv.inv (by simpa using hv), ⟨st, pl.isList⟩, fun i h z => z.1⟩
    simp at hb
    rcases hb with rfl | rfl
    · exact .inl rfl
    · exact .inr ⟨_, hx⟩
  | str z =>
    obtain ⟨t, st⟩ := st
    have N := nx_ascii (prog := X.prog) (w := X.w) it z t
    have hl : z.cps.size = xs.length := by rw [hx.2]; simp
    rw [hl] at N
    refine ⟨_, _, _, N, fun b hb => .inl (by simpa using hb), fun i v hv => ?_, st, fun i h q => ⟨t, q⟩⟩
    obtain ⟨c, u, e, rfl⟩ := hv
    refine ⟨.str (tx [c]), ?_, ⟨u, rfl⟩⟩
    rw [hx.2]
    simp [e]
theorem Src.iterTo {S : Src} {xs : List V} {u : Value} (I : Inv X pins σ H s) (hx : S.items H xs) (r : RelV S.v u) :
    ∃ (pre : Heap -> Prop) (o : Obj), IterTo u pre o /\ pre s.heap /\ (∀ h o', pre h -> pre (h.push o')) /\ o.isFreed = false /\ ∀ (h : Heap) (it : Addr), h.get? it = some o -> S.iter it 0 h := by
  cases S with
  | lst a =>
    have hx : H a = some (.lst xs) := hx
    obtain ⟨its, rv, pl, hz⟩ := I.list (SqL.of (K := X.K) hx)
    cases (show u = Value.ref a from r)
    exact ⟨_, _, iterTo_list a its.toArray, pl.isList, fun h o' z => z.push _, rfl, fun h it e => ⟨_, e, rfl, rfl⟩⟩
  | str z =>
    obtain ⟨t, rfl⟩ := (show ∃ t, u = Value.str z t from r)
    exact ⟨_, _, iterTo_ascii z t hx.1, True.intro, fun _ _ z => z, rfl, fun h it e => ⟨t, _, e, rfl, rfl⟩⟩
end
noncomputable def Itz (A B : Src) : It :=
  ⟨fun i H => ∃ xs ys x y, A.items H xs /\ B.items H ys /\ xs[i]? = some x /\ ys[i]? = some y,
   fun i H v H' => ∃ p x y, v = .ref p /\ H p = none /\ H' = upd H p (.tup [x, y]) /\ (∀ xs, A.items H xs -> xs[i]? = some x) /\ (∀ ys, B.items H ys -> ys[i]? = some y),
   fun i H => ∃ xs, A.items H xs /\ xs.length <= i⟩
theorem za_of {H : Hp} {z TI TO i1 i2 : Addr} {fp1 fp2 : List Addr} (nd : [z, TI, TO, i1, i2].Nodup) (fr : ∀ b ∈ [z, TI, TO, i1, i2], H b = none) (k1 : ∀ b ∈ fp1, b = i1 \/ ∃ o, H b = some o) (k2 : ∀ b ∈ fp2, b = i2 \/ ∃ o, H b = some o) : ZA z TI TO i1 i2 fp1 fp2 := by
  simp only [List.nodup_cons, List.mem_cons, List.not_mem_nil, or_false, not_or, List.nodup_nil, and_true, not_false_eq_true] at nd
  obtain ⟨⟨a1, a2, a3, a4⟩, ⟨a5, a6, a7⟩, ⟨a8, a9⟩, a10⟩ := nd
  have no1 : ∀ b ∈ [z, TI, TO, i1, i2], b ≠ i1 -> b ∉ fp1 := fun b hb hn z => by
    rcases k1 b z with e | ⟨o, e⟩
    · exact hn e
    · rw [fr b hb] at e; cases e
  have no2 : ∀ b ∈ [z, TI, TO, i1, i2], b ≠ i2 -> b ∉ fp2 := fun b hb hn z => by
    rcases k2 b z with e | ⟨o, e⟩
    · exact hn e
    · rw [fr b hb] at e; cases e
  exact ⟨Ne.symm a1, Ne.symm a2, a5, no1 _ (by simp) a3, no2 _ (by simp) a4, no1 _ (by simp) a8, no2 _ (by simp) a9, no1 _ (by simp) a6, no2 _ (by simp) a7, no2 _ (by simp) a10, no1 _ (by simp) (Ne.symm a10)⟩
theorem turn_zip {P : Program} {w : World} {K : PySem.W.Frag} {elts : List Expr} {x1 : Nat} {pos : Pos} (A B : Src) (z TI TO i1 i2 : Addr) (nd : [z, TI, TO, i1, i2].Nodup) :
    Turn P w K (.Tuple elts x1 pos) (Itz A B) [z, TI, TO, i1, i2] z (fun i h => (∃ f, IsZ h z TI TO .none f) /\ IsPair h TI (.ref i1) (.ref i2) /\ (∃ a b, IsPair h TO a b) /\ A.iter i1 i h /\ B.iter i2 i h) where
  mem := by simp
  obj := fun i h st b hb => by
    obtain ⟨⟨f, hz⟩, hTI, ⟨a, b', hTO⟩, s1, s2⟩ := st
    simp only [List.mem_cons, List.not_mem_nil, or_false] at hb
    rcases hb with rfl | rfl | rfl | rfl | rfl
    · exact ⟨_, hz, fun v z => nomatch z⟩
    · exact ⟨_, hTI, fun v z => nomatch z⟩
    · exact ⟨_, hTO, fun v z => nomatch z⟩
    · exact Src.obj (S := A) s1
    · exact Src.obj (S := B) s2
  keep := fun i h h' st k => by
    obtain ⟨⟨f, hz⟩, hTI, ⟨a, b', hTO⟩, s1, s2⟩ := st
    exact ⟨⟨f, k z (by simp) _ hz⟩, k TI (by simp) _ hTI, ⟨a, b', k TO (by simp) _ hTO⟩, Src.keep (S := A) s1 fun o e => k i1 (by simp) o e, Src.keep (S := B) s2 fun o e => k i2 (by simp) o e⟩
  item := by
    intro X hP hw hK hc i pins s σ H E I hf st hg
    subst hP hw hK
    obtain ⟨⟨f1, hz⟩, hTI, ⟨a, b, hTO⟩, s1, s2⟩ := st
    obtain ⟨xs, ys, x, y, hx, hy, ex, ey⟩ := hg
    obtain ⟨fp1, P1, St1, N1, k1, r1, t1, u1⟩ := Src.nx I hx (hf i1 (by simp)) s1
    obtain ⟨fp2, P2, St2, N2, k2, r2, t2, u2⟩ := Src.nx I hy (hf i2 (by simp)) s2
    have D : ZA z TI TO i1 i2 fp1 fp2 := za_of nd (fun b hb => (hf b hb).1) k1 k2
    have hi1 : i < xs.length := (List.getElem?_eq_some_iff.mp ex).1
    have hi2 : i < ys.length := (List.getElem?_eq_some_iff.mp ey).1
    refine next_item ⟨_, hz, rfl⟩ (zip_item_free N1 N2 D hz hTI hTO t1 t2 hi1 hi2 fun u v h1 tk p1 p2 hz1 hTI1 hTO1 st1 st2 hp hsz kp => ⟨_, rfl, ?_⟩)
    refine go_zip (s := { s with heap := h1, toks := tk }) hz1 fun h2 hz2 sb => ?_
    obtain ⟨x', ex', rx⟩ := r1 _ _ p1
    obtain ⟨y', ey', ry⟩ := r2 _ _ p2
    rw [ex] at ex'; cases ex'
    rw [ey] at ey'; cases ey'
    have lz : z < s.heap.objs.size := Heap.lt_size hz
    have hp2 : IsPair h2 s.heap.objs.size u v := sb.extBut _ _ (Nat.ne_of_gt lz) hp
    have ne1 : TI ≠ z := D.TIz
    have nei1 : i1 ≠ z := fun q => D.z1 (q ▸ N1.mem)
    have nei2 : i2 ≠ z := fun q => D.z2 (q ▸ N2.mem)
    have I2 : Inv X pins σ (upd H s.heap.objs.size (.tup [x, y])) { s with heap := h2, toks := tk } := I.turnedNew (ch := [z, TI, TO, i1, i2]) hf (fun c o hc e => by
      simp only [List.mem_cons, List.not_mem_nil, or_false, not_or] at hc
      exact sb.extBut c o hc.1 (kp c o hc.1 hc.2.2.1 hc.2.2.2.1 hc.2.2.2.2 e)) (Nat.le_refl _) ⟨by show 2 <= sizeLine; decide, [u, v], .cons rx (.cons ry .nil), ⟨_, hp2, rfl, _, rfl⟩⟩
    have lt : ∀ b ∈ [z, TI, TO, i1, i2], b < s.heap.objs.size := fun b hb => by
      simp only [List.mem_cons, List.not_mem_nil, or_false] at hb
      rcases hb with rfl | rfl | rfl | rfl | rfl
      · exact lz
      · exact Heap.lt_size hTI
      · exact Heap.lt_size hTO
      · obtain ⟨o, e, _⟩ := Src.obj (S := A) s1; exact Heap.lt_size e
      · obtain ⟨o, e, _⟩ := Src.obj (S := B) s2; exact Heap.lt_size e
    refine ⟨.ref s.heap.objs.size, _, I2, rfl, ⟨_, x, y, rfl, I.fresh, rfl, fun xs' q => ?_, fun ys' q => ?_⟩, ⟨⟨_, hz2⟩, sb.extBut _ _ ne1 hTI1, ⟨_, _, sb.extBut _ _ D.TOz hTO1⟩, Src.keep (S := A) (u1 _ _ st1) fun o e => sb.extBut _ _ nei1 e, Src.keep (S := B) (u2 _ _ st2) fun o e => sb.extBut _ _ nei2 e⟩, fun b hb => ?_⟩
    · rw [Src.items_inj q hx]; exact ex
    · rw [Src.items_inj q hy]; exact ey
    · rw [upd_ne (Nat.ne_of_lt (lt b hb))]; exact (hf b hb).1
  done := by
    intro X hP hw hK hc i pins s σ H E I hf st hg
    subst hP hw hK
    obtain ⟨⟨f1, hz⟩, hTI, ⟨a, b, hTO⟩, s1, s2⟩ := st
    obtain ⟨xs, hx, hle⟩ := hg
    obtain ⟨fp1, P1, St1, N1, k1, r1, t1, u1⟩ := Src.nx I hx (hf i1 (by simp)) s1
    have D : ZA z TI TO i1 i2 fp1 [i2] := za_of nd (fun b hb => (hf b hb).1) k1 fun b hb => .inl (by simpa using hb)
    have hh : X.A.in1.handled = none := by simpa using I.ok.hd hc
    refine next_end ⟨_, hz, rfl⟩ (zip_end_free (a := a) (b := b) N1 D hh hz hTI t1 hle fun h' e kp ⟨o, ho, hoc⟩ => ⟨e, o, rfl, ho, hoc, rfl, ?_⟩)
    exact I.turnedAll (t' := s.toks) (ch := [z, TI, TO, i1, i2]) hf fun c o hc e => by
      simp only [List.mem_cons, List.not_mem_nil, or_false, not_or] at hc
      exact kp c o hc.1 hc.2.2.2.1 e
  self := fun A i s Q E st h => by
    obtain ⟨⟨f1, hz⟩, _⟩ := st
    exact iter_zip hz h
section
variable {X : Cx}
noncomputable def iZip (ta : TA) : TI := fun σ H R => ta σ H fun vs H1 => Ex4 fun A B xs ys => vs = [Src.v A, Src.v B] /\ A.items H1 xs /\ B.items H1 ys /\ R (Itz A B) H1
theorem pi_zip {elts : List Expr} {x1 : Nat} {tpos : Pos} {a b : Expr} {ta : TA} {p pos : Pos} (hg : Gl X "zip") (hm : X.mg "zip" = none) (ha : PA X [a, b] ta) (hs : starEach [a, b] X.env = [(false, eval a X.env), (false, eval b X.env)] := by rfl) (hs2 : starEach [b] X.env = [(false, eval b X.env)] := by rfl) :
    PI X (.Tuple elts x1 tpos) (.Call (.Name "zip" p) [a, b] [] pos) (iZip ta) := by
  intro pins s σ H R I h
  refine Call_ (ld_blt I hg hm (show bootBuiltins "zip" = some (.type "zip") from by decide +kernel) (PyProof.Rows.callWith_type1 (thn (ha pos pins s σ H _ I h) fun us s1 ⟨vs, H1, I1, r1, q1⟩ => ?_) (by rw [hs, hs2]) (by rw [hs2]; rfl)))
  obtain ⟨A, B, xs, ys, e, hA, hB, q⟩ := q1
  subst e
  obtain ⟨u, v, rfl, ru, rv⟩ := vals2 r1
  obtain ⟨p1, o1, T1, h1, _, f1, g1⟩ := Src.iterTo I1 hA ru
  obtain ⟨p2, o2, T2, h2, m2, f2, g2⟩ := Src.iterTo I1 hB rv
  refine call_zip T1 T2 m2 f1 f2 h1 h2 fun h' hz hTI hTO e1 e2 hsz k => iter_zip (s := { s1 with heap := h' }) hz ?_
  have nd : [s1.heap.objs.size + 4, s1.heap.objs.size + 2, s1.heap.objs.size + 3, s1.heap.objs.size, s1.heap.objs.size + 1].Nodup := by
    simp only [List.nodup_cons, List.mem_cons, List.not_mem_nil, or_false, not_or, List.nodup_nil, and_true, not_false_eq_true]
    refine ⟨⟨?_, ?_, ?_, ?_⟩, ⟨?_, ?_, ?_⟩, ⟨?_, ?_⟩, ?_⟩ <;> (show (_ : Nat) ≠ _) <;> omega
  refine ⟨s1.heap.objs.size + 4, _, _, _, H1, rfl, I1.kept (t' := s1.toks) k, turn_zip A B _ (s1.heap.objs.size + 2) (s1.heap.objs.size + 3) s1.heap.objs.size (s1.heap.objs.size + 1) nd, ⟨⟨_, hz⟩, hTI, ⟨_, _, hTO⟩, g1 _ _ e1, g2 _ _ e2⟩, fun b hb => ?_, q⟩
  have hle : s1.heap.objs.size <= b := by
    simp only [List.mem_cons, List.not_mem_nil, or_false] at hb
    rcases hb with rfl | rfl | rfl | rfl | rfl
    all_goals first | exact Nat.le_refl _ | exact Nat.le_add_right _ _
  exact I1.fpOk hle (I1.hok.fresh hle)
noncomputable def zipK (l : List Nat) (xs : List V) : List (Key × V) := (l.map fun c => (Sum.inr (tx [c]) : Key)).zip xs
noncomputable def tDZ (ta : TA) : TE := fun σ H Q => ta σ H fun vs H1 => Ex3 fun (l : List Nat) (a : Addr) (xs : List V) => vs = [.str (tx l), .ref a] /\ (∀ c ∈ l, c < 128) /\ l.Nodup /\ H1 a = some (.lst xs) /\ xs.length = l.length /\ l.length <= 1000 /\ ∀ d, H1 d = none -> Q (.ref d) (upd H1 d (.dK (zipK l xs)))
theorem pe_dictzip {a b : Expr} {ta : TA} {p pos p2 pos2 : Pos} (hc : X.calm = true) (hg : Gl X "dict") (hm : X.mg "dict" = none) (hg2 : Gl X "zip") (hm2 : X.mg "zip" = none) (ha : PA X [a, b] ta)
    (hs : starEach [a, b] X.env = [(false, eval a X.env), (false, eval b X.env)] := by rfl) (hs2 : starEach [b] X.env = [(false, eval b X.env)] := by rfl)
    (hs0 : starEach [.Call (.Name "zip" p2) [a, b] [] pos2] X.env = [(false, eval (.Call (.Name "zip" p2) [a, b] [] pos2) X.env)] := by rfl) :
    PE X (.Call (.Name "dict" p) [.Call (.Name "zip" p2) [a, b] [] pos2] [] pos) (tDZ ta) := by
  intro pins s σ H Q I h
  refine wpAny_Call_Name_kw (ld_blt I hg hm (show bootBuiltins "dict" = some (.type "dict") from by decide +kernel) (PyProof.Rows.callWith_type1 ?_ hs0 rfl))
  rw [hs0]
  refine Calls.spliced_cons (wpAny_Call_Name_kw (ld_blt I hg2 hm2 (show bootBuiltins "zip" = some (.type "zip") from by decide +kernel) (PyProof.Rows.callWith_type1 (thn (ha pos2 pins s σ H _ I h) fun us s1 ⟨vs, H1, I1, r1, q1⟩ => ?_) (by rw [hs, hs2]) (by rw [hs2]; rfl))))
  obtain ⟨l, y, xs, e, hasc, hnd, hy, hl, hl2, q⟩ := q1
  subst e
  obtain ⟨u, v, rfl, ru, rv⟩ := vals2 r1
  obtain ⟨t, rfl⟩ := ru
  cases rv
  obtain ⟨its, rv, pl, hz⟩ := I1.list (SqL.of (K := X.K) hy)
  have hA : (tx l).cps.all (· < 128) = true := by
    show l.toArray.all (· < 128) = true
    simp only [List.all_toArray, List.all_eq_true, decide_eq_true_eq]
    exact hasc
  refine call_zip (iterTo_ascii (tx l) t hA) (iterTo_list y its.toArray) (fun h o z => z.push _) rfl rfl True.intro pl.isList fun h' hz hTI hTO e1 e2 hsz k => ?_
  refine Calls.spliced_nil ?_
  have hlv := rv.length
  have lty : y < s1.heap.objs.size := by obtain ⟨o, n, e, _⟩ := pl; exact Heap.lt_size e
  have N1 := nx_ascii (prog := X.prog) (w := X.w) s1.heap.objs.size (tx l) t
  have N2 := nx_list (prog := X.prog) (w := X.w) (s1.heap.objs.size + 1) y (Nat.ne_of_lt (Nat.lt_succ_of_lt lty)) its.toArray
  have z1 : (tx l).cps.size = l.length := by show l.toArray.size = _; simp
  have z2 : its.toArray.size = l.length := by simp; omega
  rw [z1] at N1
  rw [z2] at N2
  have D : ZA (s1.heap.objs.size + 4) (s1.heap.objs.size + 2) (s1.heap.objs.size + 3) s1.heap.objs.size (s1.heap.objs.size + 1) [s1.heap.objs.size] [s1.heap.objs.size + 1, y] := za_new (fun b hb => .inl (by simpa using hb)) fun b hb => by
    simp only [List.mem_cons, List.not_mem_nil, or_false] at hb
    rcases hb with rfl | rfl
    · exact .inl rfl
    · exact .inr lty
  refine call_dict (s := { s1 with heap := h' }) (knd := mixKind X.prog X.w) N1 N2 D (fun i => (Sum.inr (tx [l.getD i 0]) : Key)) (fun i => its.getD i .none) (fun i v hv => ?_) (fun i v hv => ?_) (fun i j hj hi => ?_) (by omega) (I.ok.hd hc) hz hTI hTO ⟨_, e1, rfl, rfl⟩ ⟨⟨_, e2, rfl, rfl⟩, pl.isList.at fun o e => k _ o e⟩ fun h3 tk hD hk => ?_
  · obtain ⟨c, u, e, rfl⟩ := hv
    have e : l[i]? = some c := by simpa [tx] using e
    rw [List.getD_eq_getElem?_getD, e]
    exact mixKind_str _ _ _ _
  · have hv : its[i]? = some v := by simpa using hv
    rw [List.getD_eq_getElem?_getD, hv]; rfl
  · intro e
    have e : tx [l.getD j 0] = tx [l.getD i 0] := Sum.inr.inj e
    have e := List.cons.inj (tx_inj e)
    have e : l.getD j 0 = l.getD i 0 := e.1
    rw [List.getD_eq_getElem?_getD, List.getD_eq_getElem?_getD, List.getElem?_eq_getElem hi, List.getElem?_eq_getElem (Nat.lt_trans hj hi)] at e
    have := (List.getElem_inj hnd).mp (show l[j] = l[i] from e)
    omega
  · have hnd : H1 h'.objs.size = none := I1.hok.fresh (by rw [hsz]; exact Nat.le_add_right _ _)
    have big : h'.objs.size ≠ sysModules := by
      have := I1.big
      have : sysModules < h'.objs.size := by rw [hsz]; exact Nat.lt_of_lt_of_le this (Nat.le_add_right _ _)
      exact Nat.ne_of_gt this
    refine ⟨.ref h'.objs.size, _, I1.laid (t' := tk) (a := h'.objs.size) (o := .dK (zipK l xs)) (fun b o e => ?_) (by rw [hsz]; exact Nat.le_add_right _ _) ⟨?_, ?_, _, ?_, hD⟩, rfl, q _ hnd⟩
    · have lb := Heap.lt_size e
      exact hk b o (Nat.ne_of_lt (Nat.lt_of_lt_of_le lb (Nat.le_add_right _ _))) (Nat.ne_of_lt (Nat.lt_of_lt_of_le lb (Nat.le_add_right _ _))) (Nat.ne_of_lt lb) (Nat.ne_of_lt (Nat.lt_of_lt_of_le lb (Nat.le_add_right _ _))) (k b o e)
    · unfold zipK
      rw [List.length_zip, List.length_map]
      exact Nat.le_of_lt (small1000 (by omega))
    · simpa using big
    · show KV (zipK l xs) (prs _ _ l.length)
      have key : ∀ (l : List Nat) (xs : List V) (its : List Value), xs.length = l.length -> Vals xs its -> KV (zipK l xs) (prs (fun i => (Sum.inr (tx [l.getD i 0]) : Key)) (fun i => its.getD i .none) l.length) := by
        intro l
        induction l with
        | nil => intro xs its h r; exact .nil
        | cons c l ih =>
          intro xs its h r
          cases r with
          | nil => simp at h
          | @cons x u xs its rx rr =>
            have e : prs (fun i => (Sum.inr (tx [(c :: l).getD i 0]) : Key)) (fun i => (u :: its).getD i Value.none) (c :: l).length = (Sum.inr (tx [c]), u) :: prs (fun i => (Sum.inr (tx [l.getD i 0]) : Key)) (fun i => its.getD i Value.none) l.length := by
              unfold prs
              rw [List.length_cons, List.range_succ_eq_map, List.map_cons, List.map_map]
              rfl
            rw [e]
            exact .cons ⟨rfl, rx⟩ (ih xs its (by simpa using h) rr)
      exact key l xs its hl rv
end
end L2
namespace L2
open PySem PySem.Spec PyProof.Rows GT
section
variable {X : Cx}
inductive ClsV : V -> Value -> Prop where
  | ty (n : String) : ClsV (.ty n) (.type n)
  | own (a : Addr) : ClsV (.ref a) (.ref a)
theorem call_isinst : CallR X (.builtin "isinstance") (fun xs H Q => Ex5 fun x c t cv b => xs = [x, c] /\ ClsV c cv /\ TyOf X.K H x t /\ PySem.W.kitOne X.K t cv = some b /\ Q (.bl b) H) := by
  intro pins s σ H xs us Q I r h
  obtain ⟨x, c, t, cv, b, rfl, hc, ty, e, q⟩ := h
  obtain ⟨u, v, rfl, ru, rv⟩ := vals2 r
  have hv : v = cv := by cases hc <;> exact rv
  subst hv
  exact isinst_ok I ru ty e fun tk => ⟨.bl b, H, I.tok tk, rfl, q⟩
theorem pe_ty {x : Str} {n : String} {pos : Pos} (hg : Gl X x) (hm : X.mg x = none) (hv : bootBuiltins x = some (.type n)) (hn : x ≠ "__name__" := by decide) (hd : (x == ("__debug__" : Str)) = false := by decide) : PE X (.Name x pos) (tC (.ty n)) :=
  pe_bltn hg hm hv rfl hn hd
inductive EqT (K : PySem.W.Frag) (H : Hp) : V -> V -> Prop where
  | flat (x : V) (h : flatV x = true) : EqT K H x x
  | lst (a b : Addr) (xs : List V) (h1 : SqL K H a xs) (h2 : SqL K H b xs) (h : xs.all flatV = true) : EqT K H (.ref a) (.ref b)
theorem eqV_refl {x : V} (h : flatV x = true) : eqV x x = true := by
  cases x with
  | non => rfl
  | bl b => simp [eqV]
  | int i => simp [eqV]
  | str x => simp [eqV]
  | _ => cases h
theorem flat_pair {H : Hp} {K : PySem.W.Frag} : ∀ {xs : List V}, xs.all flatV = true -> Paired (EqT K H) xs xs
  | [], _ => .nil
  | x :: xs, h => by
    rw [List.all_cons, Bool.and_eq_true] at h
    exact .cons (.flat x h.1) (flat_pair h.2)
theorem Paired.get {α β : Type} {R : α -> β -> Prop} : ∀ {xs : List α} {ys : List β}, Paired R xs ys -> ∀ (j : Nat) (h1 : j < xs.length) (h2 : j < ys.length), R xs[j] ys[j]
  | _, _, .nil, j, h1, _ => absurd h1 (Nat.not_lt_zero _)
  | _, _, .cons r t, 0, _, _ => r
  | _, _, .cons r t, j + 1, h1, h2 => Paired.get t j (Nat.lt_of_succ_lt_succ h1) (Nat.lt_of_succ_lt_succ h2)
theorem eqT_at {pins : List (Addr × Obj)} {σ : St} {H : Hp} {s : Shared} {A : Around} {x y : V} {u v : Value} (I : Inv X pins σ H s) (hu : A.units < cLine) (e : EqT X.K H x y) (rx : RelV x u) (ry : RelV y v) : SeqAt.EqAt A s u v true := by
  cases e with
  | flat _ h => have := eqAt_V (A := A) (s := s) rx ry h h; rw [eqV_refl h] at this; exact this
  | lst a b xs h1 h2 h =>
    cases rx; cases ry
    by_cases hab : a = b
    · subst hab; exact SeqAt.EqAt.same _
    · obtain ⟨its, r1, p1, _⟩ := I.list h1
      obtain ⟨its2, r2, p2, _⟩ := I.list h2
      have l1 := r1.length
      have l2 := r2.length
      have := SeqAt.RcAt.lists (A := A) (e := fun _ => true) p1.isList p2.isList (by simp; omega) hu fun j j1 j2 => by
        simp only [List.size_toArray] at j1 j2
        have fj : flatV xs[j] = true := List.all_eq_true.mp h _ (List.getElem_mem (by omega))
        obtain ⟨u1, e1, q1⟩ := r1.get (i := j) (x := xs[j]) (by simp)
        obtain ⟨u2, e2, q2⟩ := r2.get (i := j) (x := xs[j]) (by simp)
        rw [List.getElem?_eq_getElem j1] at e1; cases e1
        rw [List.getElem?_eq_getElem j2] at e2; cases e2
        have z := eqAt_V (A := A.in1) (s := s) q1 q2 fj fj
        rw [eqV_refl fj] at z
        exact z
      rw [show (List.range its.toArray.size).all (fun _ => true) = true from by simp] at this
      exact SeqAt.EqAt.of_refs hab this
theorem lists_at {pins : List (Addr × Obj)} {σ : St} {H : Hp} {s : Shared} {A : Around} {xs ys : List V} {its its2 : List Value} (I : Inv X pins σ H s) (hu : A.units + 1 < cLine) (p : Paired (EqT X.K H) xs ys) (r1 : Vals xs its) (r2 : Vals ys its2) :
    ∀ j (h1 : j < its.toArray.size) (h2 : j < its2.toArray.size), SeqAt.EqAt A.in1 s its.toArray[j] its2.toArray[j] true := fun j j1 j2 => by
  simp only [List.size_toArray] at j1 j2
  have l1 := r1.length
  have l2 := r2.length
  obtain ⟨u1, e1, q1⟩ := r1.get (i := j) (x := xs[j]) (by simp)
  obtain ⟨u2, e2, q2⟩ := r2.get (i := j) (x := ys[j]) (by simp)
  rw [List.getElem?_eq_getElem j1] at e1; cases e1
  rw [List.getElem?_eq_getElem j2] at e2; cases e2
  exact eqT_at I (by simpa using hu) (Paired.get p j (by omega) (by omega)) q1 q2
noncomputable def rSame (K : PySem.W.Frag) (k : Bool) : R2 := fun x y H Q => Ex4 fun a b xs ys => x = .ref a /\ y = .ref b /\ SqL K H a xs /\ SqL K H b ys /\ Paired (EqT K H) xs ys /\ Q (.bl k) H
theorem op_eqL (hu : X.A.units + 1 < cLine) : OpR X (compareOp .Eq) (rSame X.K true) := by
  intro pins s σ H x y v u Q I rx ry h
  obtain ⟨a, b, xs, ys, rfl, rfl, ha, hb, p, q⟩ := h
  cases rx; cases ry
  obtain ⟨its, r1, p1, _⟩ := I.list ha
  obtain ⟨its2, r2, p2, _⟩ := I.list hb
  have l := Paired.length p
  refine SeqAt.eq_listAt (e := fun _ => true) p1.isList p2.isList (by simp only [List.size_toArray, <- r1.length, <- r2.length]; exact l) (Nat.lt_of_succ_lt hu) (lists_at I hu p r1 r2) ?_
  rw [show (List.range its.toArray.size).all (fun _ => true) = true from by simp]
  exact ⟨.bl true, H, I, rfl, q⟩
theorem op_neL (hu : X.A.units + 1 < cLine) : OpR X (compareOp .NotEq) (rSame X.K false) := by
  intro pins s σ H x y v u Q I rx ry h
  obtain ⟨a, b, xs, ys, rfl, rfl, ha, hb, p, q⟩ := h
  cases rx; cases ry
  obtain ⟨its, r1, p1, _⟩ := I.list ha
  obtain ⟨its2, r2, p2, _⟩ := I.list hb
  have l := Paired.length p
  have := SeqAt.RcNeAt.lists (A := X.A) (e := fun _ => true) p1.isList p2.isList (by simp only [List.size_toArray, <- r1.length, <- r2.length]; exact l) (Nat.lt_of_succ_lt hu) (lists_at I hu p r1 r2)
  rw [show (List.range its.toArray.size).all (fun _ => true) = true from by simp] at this
  exact this _ _ _ _ ⟨.bl false, H, I, rfl, q⟩
noncomputable def SetS (P : Program) (w : World) (a : Addr) (S : Str -> Bool) (n : Nat) : HO := .ext fun h => h.SetOf (strKind P w) a S n
theorem setS_ok {P : Program} {w : World} {H : Hp} {h : Heap} {a : Addr} {S : Str -> Bool} {n : Nat} (x : h.SetOf (strKind P w) a S n) : ObjOk P w H h a (SetS P w a S n) := by
  refine ⟨x, ?_, fun h1 h2 q k => ?_⟩
  · obtain ⟨o, es, ep, t, e, _⟩ := x; exact ⟨o, e⟩
  · obtain ⟨o, es, ep, t, e, r⟩ := q; exact ⟨o, es, ep, t, k o e, r⟩
noncomputable def sgn (l : List Nat) : List Str := GS.fm (GS.sg (tx l)) l.length
theorem sg_tx (l : List Nat) (i : Nat) : GS.sg (tx l) i = tx [l.getD i 0] := by
  show (⟨#[l.toArray.getD i 0]⟩ : Str) = ⟨[l.getD i 0].toArray⟩
  simp [Array.getD_eq_getD_getElem?, List.getD_eq_getElem?_getD]
theorem mem_sgn (l : List Nat) (k : Str) : k ∈ sgn l ↔ ∃ c ∈ l, k = tx [c] := by
  unfold sgn
  rw [GS.mem_fm]
  constructor
  · rintro ⟨j, hj, rfl⟩
    refine ⟨l[j], List.getElem_mem hj, ?_⟩
    rw [sg_tx, List.getD_eq_getElem?_getD, List.getElem?_eq_getElem hj]; rfl
  · rintro ⟨c, hc, rfl⟩
    obtain ⟨j, hj, rfl⟩ := List.getElem_of_mem hc
    exact ⟨j, hj, by rw [sg_tx, List.getD_eq_getElem?_getD, List.getElem?_eq_getElem hj]; rfl⟩
theorem sgn_nodup (l : List Nat) : (sgn l).Nodup := GS.fm_nodup _ _
theorem fm_mono_len (val : Nat -> Str) : ∀ {i j : Nat}, i <= j -> (GS.fm val i).length <= (GS.fm val j).length := by
  intro i j h
  induction h with
  | refl => exact Nat.le_refl _
  | @step m _ ih =>
    refine Nat.le_trans ih ?_
    show _ <= (if val m ∈ GS.fm val m then GS.fm val m else GS.fm val m ++ [val m]).length
    split <;> simp
theorem sg_out (l : List Nat) {i : Nat} (h : l.length <= i) : GS.sg (tx l) i = tx [0] := by
  rw [sg_tx, List.getD_eq_getElem?_getD, List.getElem?_eq_none h]; rfl
theorem fm_le (l : List Nat) (i : Nat) : (GS.fm (GS.sg (tx l)) i).length <= (sgn l).length + 1 := by
  by_cases h : i <= l.length
  · exact Nat.le_succ_of_le (fm_mono_len _ h)
  · have key : ∀ k, (GS.fm (GS.sg (tx l)) (l.length + k)).length <= (sgn l).length + 1 /\ (0 < k -> tx [0] ∈ GS.fm (GS.sg (tx l)) (l.length + k)) := by
      intro k
      induction k with
      | zero => exact ⟨Nat.le_succ _, fun h => absurd h (Nat.lt_irrefl _)⟩
      | succ k ih =>
        have e : GS.fm (GS.sg (tx l)) (l.length + (k + 1)) = if GS.sg (tx l) (l.length + k) ∈ GS.fm (GS.sg (tx l)) (l.length + k) then GS.fm (GS.sg (tx l)) (l.length + k) else GS.fm (GS.sg (tx l)) (l.length + k) ++ [GS.sg (tx l) (l.length + k)] := rfl
        rw [e, sg_out l (Nat.le_add_right _ _)]
        by_cases hk : 0 < k
        · rw [if_pos (ih.2 hk)]
          exact ⟨ih.1, fun _ => ih.2 hk⟩
        · have : k = 0 := by omega
          subst this
          split
          · rename_i hm; exact ⟨ih.1, fun _ => hm⟩
          · refine ⟨?_, fun _ => by simp⟩
            rw [List.length_append]
            show (GS.fm (GS.sg (tx l)) l.length).length + 1 <= _
            exact Nat.le_refl _
    obtain ⟨k, rfl⟩ : ∃ k, i = l.length + k := ⟨i - l.length, by omega⟩
    exact (key k).1
theorem call_setS (hc : X.calm = true) : CallR X (.type "set") (fun xs H Q => ∃ l : List Nat, xs = [.str (tx l)] /\ (sgn l).length <= 100 /\ ∀ p, H p = none -> Q (.ref p) (upd H p (SetS X.prog X.w p (fun k => decide (k ∈ sgn l)) (sgn l).length))) := by
  intro pins s σ H xs us Q I r h
  obtain ⟨l, rfl, hl, q⟩ := h
  obtain ⟨u, rfl, ru⟩ := vals1 r
  obtain ⟨t, rfl⟩ := ru
  have hz : (tx l).cps.size = l.length := by show l.toArray.size = _; simp
  refine GS.call_set_str (I.ok.hd hc) (fun i => ?_) fun h' tk hS hk => ?_
  · have := fm_le l i
    unfold scanBound
    omega
  · rw [hz] at hS
    exact ⟨.ref s.heap.objs.size, _, I.laid (t' := tk) (fun b o e => hk b o (Heap.lt_size e) e) (Nat.le_refl _) (setS_ok hS), rfl, q _ I.fresh⟩
theorem call_lenS : CallR X (.builtin "len") (fun xs H Q => Ex3 fun p S n => xs = [.ref p] /\ H p = some (SetS X.prog X.w p S n) /\ Q (.int n) H) := by
  intro pins s σ H xs us Q I r h
  obtain ⟨p, S, n, rfl, hp, q⟩ := h
  obtain ⟨u, rfl, ru⟩ := vals1 r
  cases ru
  obtain ⟨hS, _⟩ := I.hok p _ hp
  obtain ⟨o, es, ep, t, e, hex, hd, _, _, hb, hf, hn⟩ := id hS
  refine call_len_set e hex hd hf ?_ ?_
  · unfold scanBound at hb; omega
  · rw [hn]; exact ⟨.int n, H, I.tok _, ⟨_, rfl⟩, q⟩
end
end L2
namespace L2
open PySem PySem.Spec PyProof.Rows GT
structure Wk (J : It) (H1 : Hp) (xs : List V) : Prop where
  go : ∀ H', Same H1 H' -> ∀ (i : Nat) (x : V), xs[i]? = some x -> J.go i H'
  yld : ∀ H', Same H1 H' -> ∀ (i : Nat) (x y : V) (H2 : Hp), xs[i]? = some x -> J.yld i H' y H2 -> y = x /\ H2 = H'
  stop : ∀ H', Same H1 H' -> J.stop xs.length H'
theorem wk_list {K : PySem.W.Frag} {H1 : Hp} {a : Addr} {xs : List V} (h : SqL K H1 a xs) : Wk (Itl K a) H1 xs where
  go := fun H' s i x e => ⟨xs, x, s.seq h, e⟩
  yld := fun H' s i x y H2 e q => ⟨by have := q.2 xs (s.seq h); rw [e] at this; exact (Option.some.inj this).symm, q.1⟩
  stop := fun H' s => ⟨xs, s.seq h, Nat.le_refl _⟩
theorem wk_str {H1 : Hp} (l : List Nat) : Wk (Its l) H1 (l.map fun c => V.str (tx [c])) where
  go := fun H' s i x e => by
    have := (List.getElem?_eq_some_iff.mp e).1
    rw [List.length_map] at this
    exact this
  yld := fun H' s i x y H2 e q => by
    obtain ⟨e1, c, hc, rfl⟩ := q
    rw [List.getElem?_map, hc] at e
    exact ⟨Option.some.inj e, e1⟩
  stop := fun H' s => by show l.length <= _; rw [List.length_map]; exact Nat.le_refl _
theorem wk_range {H1 : Hp} (lo : Int) (n : Nat) : Wk (Itr lo n) H1 ((List.range n).map fun (k : Nat) => V.int (lo + (k : Int))) where
  go := fun H' s i x e => by
    have := (List.getElem?_eq_some_iff.mp e).1
    rw [List.length_map, List.length_range] at this
    exact this
  yld := fun H' s i x y H2 e q => by
    obtain ⟨e1, rfl⟩ := q
    have hi : i < n := by have := (List.getElem?_eq_some_iff.mp e).1; rw [List.length_map, List.length_range] at this; exact this
    rw [List.getElem?_map, List.getElem?_range hi] at e
    exact ⟨Option.some.inj e, e1⟩
  stop := fun H' s => by show n <= _; rw [List.length_map, List.length_range]; exact Nat.le_refl _
theorem Same.upd {H H' : Hp} {p : Addr} {o : HO} (e : Same H H') (h : H p = none) : Same H (upd H' p o) := fun b u z => by
  rw [upd_ne (ne_of_none z h)]; exact e b u z
theorem same_new {H : Hp} {p : Addr} {o : HO} (h : H p = none) : Same H (upd H p o) := (Same.refl H).upd h
section
variable {nt : Nat} {cap : List Nat} {g : TG} {tc : TT} {te : TE} {J : It} {σ : St} {H1 : Hp} {Q : VK}
theorem lcb_flat {α : Type} (zs : List α) (ι f : α -> V) (p : α -> Bool) {cs : St} (hw : Wk J H1 (zs.map ι)) (hcs : cst 1 cap σ = none :: cs) (hz : zs.length < sizeLine)
    (htc : ∀ (i : Nat) (z : α) (H' : Hp) (Kt : Bool -> Hp -> Prop), zs[i]? = some z -> Same H1 H' -> (∀ H5, Same H' H5 -> Kt (p z) H5) -> tc (some (ι z) :: cs) H' Kt)
    (hte : ∀ (i : Nat) (z : α) (H' : Hp) (Kt : VK), zs[i]? = some z -> p z = true -> Same H1 H' -> (∀ H5, Same H' H5 -> Kt (f z) H5) -> te (some (ι z) :: cs) H' Kt)
    (hd : ∀ D H', Same H1 H' -> H1 D = none -> H' D = some (.lst ((zs.filter p).map f)) -> Q (.ref D) H') : LCB 1 cap (gName 0) tc te J σ H1 Q := by
  intro D hD
  refine ⟨fun i m σ' H' => i <= zs.length /\ m = zs.length - i /\ (∃ o, σ' = o :: cs) /\ Same H1 H' /\ H' D = some (.lst (((zs.take i).filter p).map f)), ⟨zs.length, Nat.zero_le _, rfl, ⟨none, hcs⟩, same_new hD, by rw [upd_same]; rfl⟩, ?_⟩
  rintro i m σ' H' ⟨hi, rfl, ⟨o, rfl⟩, hs, hDv⟩
  by_cases e : i = zs.length
  · subst e
    refine .inl ⟨by have := hw.stop H' hs; rw [List.length_map] at this; exact this, hd D H' hs hD ?_⟩
    rw [hDv, List.take_length]
  · have hlt : i < zs.length := by omega
    have hx : (zs.map ι)[i]? = some (ι zs[i]) := by simp [hlt]
    refine .inr ⟨hw.go H' hs i _ hx, fun σ2 H2 => (∃ o, σ2 = o :: cs) /\ Same H1 H2 /\ H2 D = some (.lst (((zs.take (i + 1)).filter p).map f)), fun σ'' H'' ⟨q1, q2, q3⟩ => ⟨zs.length - (i + 1), by omega, by omega, rfl, q1, q2, q3⟩, fun x H2 hy => ?_⟩
    obtain ⟨rfl, rfl⟩ := hw.yld H' hs i _ _ _ hx hy
    have hz' : zs[i]? = some zs[i] := by simp [hlt]
    have htk : zs.take (i + 1) = zs.take i ++ [zs[i]] := by rw [List.take_add_one, hz']; rfl
    show tc (some (ι zs[i]) :: cs) _ _
    refine htc i zs[i] _ _ hz' hs fun H5 s5 => ?_
    cases hp : p zs[i] with
    | true =>
      refine iteT (hte i zs[i] H5 _ hz' hp (hs.trans s5) fun H6 s6 => ?_)
      refine ⟨_, s6 _ _ (s5 _ _ hDv), ?_, ⟨_, rfl⟩, ((hs.trans s5).trans s6).upd hD, ?_⟩
      · rw [List.length_map]
        refine Nat.lt_of_le_of_lt (List.length_filter_le _ _) ?_
        rw [List.length_take]; omega
      · rw [upd_same, htk, List.filter_append, List.map_append]
        congr 2
        simp [hp]
    | false =>
      refine iteF ⟨⟨_, rfl⟩, hs.trans s5, ?_⟩
      rw [s5 _ _ hDv, htk, List.filter_append, List.map_append]
      simp [hp]
theorem lcb_map {α : Type} (zs : List α) (ι f : α -> V) {cs : St} (hw : Wk J H1 (zs.map ι)) (hcs : cst 1 cap σ = none :: cs) (hz : zs.length < sizeLine)
    (hte : ∀ (i : Nat) (z : α) (H' : Hp) (Kt : VK), zs[i]? = some z -> Same H1 H' -> (∀ H5, Same H' H5 -> Kt (f z) H5) -> te (some (ι z) :: cs) H' Kt)
    (hd : ∀ D H', Same H1 H' -> H1 D = none -> H' D = some (.lst (zs.map f)) -> Q (.ref D) H') : LCB 1 cap (gName 0) tYes te J σ H1 Q :=
  lcb_flat zs ι f (fun _ => true) hw hcs hz (fun i z H' Kt _ _ k => k H' (Same.refl _)) (fun i z H' Kt hz _ hs k => hte i z H' Kt hz hs k) fun D H' a b c => hd D H' a b (by rw [c, List.filter_eq_self.mpr fun _ _ => rfl])
structure RefsAt (H0 H : Hp) (D : Addr) (ps : List Addr) (xss : List (List V)) : Prop where
  len : ps.length = xss.length
  at_ : ∀ (i : Nat) (p : Addr) (xs : List V), ps[i]? = some p -> xss[i]? = some xs -> H p = some (.lst xs) /\ H0 p = none /\ p ≠ D
theorem lcb_refs {α : Type} (zs : List α) (ι : α -> V) (f : α -> List V) {cs : St} (hw : Wk J H1 (zs.map ι)) (hcs : cst 1 cap σ = none :: cs) (hz : zs.length < sizeLine)
    (hte : ∀ (i : Nat) (z : α) (H' : Hp) (Kt : VK), zs[i]? = some z -> Same H1 H' -> (∀ p H5, Same H' H5 -> H' p = none -> H5 p = some (.lst (f z)) -> Kt (.ref p) H5) -> te (some (ι z) :: cs) H' Kt)
    (hd : ∀ D ps H', Same H1 H' -> H1 D = none -> H' D = some (.lst (ps.map V.ref)) -> RefsAt H1 H' D ps (zs.map f) -> Q (.ref D) H') : LCB 1 cap (gName 0) tYes te J σ H1 Q := by
  intro D hD
  refine ⟨fun i m σ' H' => i <= zs.length /\ m = zs.length - i /\ (∃ o, σ' = o :: cs) /\ Same H1 H' /\ ∃ ps : List Addr, H' D = some (.lst (ps.map V.ref)) /\ RefsAt H1 H' D ps ((zs.take i).map f), ⟨zs.length, Nat.zero_le _, rfl, ⟨none, hcs⟩, same_new hD, [], by rw [upd_same]; rfl, ⟨rfl, fun i p xs e => by simp at e⟩⟩, ?_⟩
  rintro i m σ' H' ⟨hi, rfl, ⟨o, rfl⟩, hs, ps, hDv, hR⟩
  by_cases e : i = zs.length
  · subst e
    refine .inl ⟨by have := hw.stop H' hs; rw [List.length_map] at this; exact this, hd D ps H' hs hD hDv ?_⟩
    rw [List.take_length] at hR
    exact hR
  · have hlt : i < zs.length := by omega
    have hx : (zs.map ι)[i]? = some (ι zs[i]) := by simp [hlt]
    refine .inr ⟨hw.go H' hs i _ hx, fun σ2 H2 => (∃ o, σ2 = o :: cs) /\ Same H1 H2 /\ ∃ ps : List Addr, H2 D = some (.lst (ps.map V.ref)) /\ RefsAt H1 H2 D ps ((zs.take (i + 1)).map f), fun σ'' H'' ⟨q1, q2, q3⟩ => ⟨zs.length - (i + 1), by omega, by omega, rfl, q1, q2, q3⟩, fun x H2 hy => ?_⟩
    obtain ⟨rfl, rfl⟩ := hw.yld H' hs i _ _ _ hx hy
    have hz' : zs[i]? = some zs[i] := by simp [hlt]
    have htk : zs.take (i + 1) = zs.take i ++ [zs[i]] := by rw [List.take_add_one, hz']; rfl
    refine hte i zs[i] _ _ hz' hs fun p H5 s5 hp hp5 => ?_
    have hpD : p ≠ D := fun z => by rw [z, hDv] at hp; cases hp
    have lps : ps.length = i := by rw [hR.len, List.length_map, List.length_take]; omega
    refine ⟨_, s5 _ _ hDv, ?_, ⟨_, rfl⟩, (hs.trans s5).upd hD, ps ++ [p], ?_, ?_, fun j q xs ej ex => ?_⟩
    · rw [List.length_map, lps]; omega
    · rw [upd_same, List.map_append]; rfl
    · rw [List.length_append, lps, List.length_map, List.length_take]; simp; omega
    · by_cases hj : j < i
      · rw [List.getElem?_append_left (by omega)] at ej
        rw [htk, List.map_append, List.getElem?_append_left (by rw [List.length_map, List.length_take]; omega)] at ex
        obtain ⟨a1, a2, a3⟩ := hR.at_ j q xs ej ex
        exact ⟨by rw [upd_ne a3]; exact s5 _ _ a1, a2, a3⟩
      · have hji : j = i := by
          have := (List.getElem?_eq_some_iff.mp ej).1
          rw [List.length_append, lps] at this
          simp at this; omega
        subst hji
        rw [List.getElem?_append_right (by omega), lps, Nat.sub_self] at ej
        rw [htk, List.map_append, List.getElem?_append_right (by rw [List.length_map, List.length_take]; omega), List.length_map, List.length_take] at ex
        have e0 : j - min j zs.length = 0 := by omega
        rw [e0] at ex
        cases ej; cases ex
        refine ⟨by rw [upd_ne hpD]; exact hp5, ?_, hpD⟩
        cases hq : H1 p with
        | none => rfl
        | some u => rw [hs _ _ hq] at hp; cases hp
theorem filt {α : Type} (l : List α) : l.filter (fun _ => true) = l := List.filter_eq_self.mpr fun _ _ => rfl
structure Wk2 (J : It) (H1 : Hp) (xs : List (V × V)) : Prop where
  go : ∀ H', Same H1 H' -> ∀ (i : Nat) (x : V × V), xs[i]? = some x -> J.go i H'
  yld : ∀ H', Same H1 H' -> ∀ (i : Nat) (x : V × V) (y : V) (H2 : Hp), xs[i]? = some x -> J.yld i H' y H2 -> ∃ p, y = .ref p /\ H' p = none /\ H2 = upd H' p (.tup [x.1, x.2])
  stop : ∀ H', Same H1 H' -> J.stop xs.length H'
noncomputable def Src.Ok (S : Src) (H1 : Hp) (xs : List V) : Prop := ∀ H', Same H1 H' -> S.items H' xs
theorem src_lst {H1 : Hp} {a : Addr} {xs : List V} (h : H1 a = some (.lst xs)) : Src.Ok (.lst a) H1 xs := fun H' s => s _ _ h
theorem src_str {H1 : Hp} {l : List Nat} (h : ∀ c ∈ l, c < 128) : Src.Ok (.str (tx l)) H1 (l.map fun c => V.str (tx [c])) := fun H' s => by
  refine ⟨?_, rfl⟩
  show l.toArray.all (· < 128) = true
  simp only [List.all_toArray, List.all_eq_true, decide_eq_true_eq]
  exact h
theorem wk_zip {A B : Src} {xs ys : List V} (hA : A.Ok H1 xs) (hB : B.Ok H1 ys) (hl : xs.length = ys.length) : Wk2 (Itz A B) H1 (xs.zip ys) where
  go := fun H' s i x e => by
    obtain ⟨e1, e2⟩ := List.getElem?_zip_eq_some.mp e
    exact ⟨xs, ys, x.1, x.2, hA H' s, hB H' s, e1, e2⟩
  yld := fun H' s i x y H2 e q => by
    obtain ⟨e1, e2⟩ := List.getElem?_zip_eq_some.mp e
    obtain ⟨p, a, b, rfl, hp, rfl, q1, q2⟩ := q
    have z1 := q1 xs (hA H' s)
    have z2 := q2 ys (hB H' s)
    rw [e1] at z1; rw [e2] at z2
    cases z1; cases z2
    exact ⟨p, rfl, hp, rfl⟩
  stop := fun H' s => ⟨xs, hA H' s, by rw [List.length_zip]; omega⟩
noncomputable abbrev gPair (K : PySem.W.Frag) : TG := gTup K 2 (gCons (gName 0) (gCons (gName 1) gNil))
theorem lcb_pairs {K : PySem.W.Frag} {α : Type} (zs : List α) (ι κ f : α -> V) (p : α -> Bool) {cs : St} (hw : Wk2 J H1 (zs.map fun z => (ι z, κ z))) (hcs : cst 2 cap σ = none :: none :: cs) (hz : zs.length < sizeLine)
    (htc : ∀ (i : Nat) (z : α) (H' : Hp) (Kt : Bool -> Hp -> Prop), zs[i]? = some z -> Same H1 H' -> (∀ H5, Same H' H5 -> Kt (p z) H5) -> tc (some (ι z) :: some (κ z) :: cs) H' Kt)
    (hte : ∀ (i : Nat) (z : α) (H' : Hp) (Kt : VK), zs[i]? = some z -> p z = true -> Same H1 H' -> (∀ H5, Same H' H5 -> Kt (f z) H5) -> te (some (ι z) :: some (κ z) :: cs) H' Kt)
    (hd : ∀ D H', Same H1 H' -> H1 D = none -> H' D = some (.lst ((zs.filter p).map f)) -> Q (.ref D) H') : LCB 2 cap (gPair K) tc te J σ H1 Q := by
  intro D hD
  refine ⟨fun i m σ' H' => i <= zs.length /\ m = zs.length - i /\ (∃ o o', σ' = o :: o' :: cs) /\ Same H1 H' /\ H' D = some (.lst (((zs.take i).filter p).map f)), ⟨zs.length, Nat.zero_le _, rfl, ⟨none, none, hcs⟩, same_new hD, by rw [upd_same]; rfl⟩, ?_⟩
  rintro i m σ' H' ⟨hi, rfl, ⟨o, o', rfl⟩, hs, hDv⟩
  by_cases e : i = zs.length
  · subst e
    refine .inl ⟨by have := hw.stop H' hs; rw [List.length_map] at this; exact this, hd D H' hs hD ?_⟩
    rw [hDv, List.take_length]
  · have hlt : i < zs.length := by omega
    have hx : (zs.map fun z => (ι z, κ z))[i]? = some (ι zs[i], κ zs[i]) := by simp [hlt]
    refine .inr ⟨hw.go H' hs i _ hx, fun σ2 H2 => (∃ o o', σ2 = o :: o' :: cs) /\ Same H1 H2 /\ H2 D = some (.lst (((zs.take (i + 1)).filter p).map f)), fun σ'' H'' ⟨q1, q2, q3⟩ => ⟨zs.length - (i + 1), by omega, by omega, rfl, q1, q2, q3⟩, fun x H2 hy => ?_⟩
    obtain ⟨q, rfl, hq, rfl⟩ := hw.yld H' hs i _ _ _ hx hy
    have hz' : zs[i]? = some zs[i] := by simp [hlt]
    have htk : zs.take (i + 1) = zs.take i ++ [zs[i]] := by rw [List.take_add_one, hz']; rfl
    have hqs : Same H' (upd H' q (.tup [ι zs[i], κ zs[i]])) := same_new hq
    refine ⟨q, _, rfl, SqT.of upd_same, rfl, _, _, rfl, _, _, rfl, rfl, ?_⟩
    show tc (some (ι zs[i]) :: some (κ zs[i]) :: cs) _ _
    refine htc i zs[i] _ _ hz' (hs.trans hqs) fun H5 s5 => ?_
    have s5' := hqs.trans s5
    cases hp : p zs[i] with
    | true =>
      refine iteT (hte i zs[i] H5 _ hz' hp (hs.trans s5') fun H6 s6 => ?_)
      refine ⟨_, s6 _ _ (s5' _ _ hDv), ?_, ⟨_, _, rfl⟩, ((hs.trans s5').trans s6).upd hD, ?_⟩
      · rw [List.length_map]
        refine Nat.lt_of_le_of_lt (List.length_filter_le _ _) ?_
        rw [List.length_take]; omega
      · rw [upd_same, htk, List.filter_append, List.map_append]
        congr 2
        simp [hp]
    | false =>
      refine iteF ⟨⟨_, _, rfl⟩, hs.trans s5', ?_⟩
      rw [s5' _ _ hDv, htk, List.filter_append, List.map_append]
      simp [hp]
end
noncomputable abbrev gPairAt (K : PySem.W.Frag) (a b : Nat) : TG := gTup K 2 (gCons (gName a) (gCons (gName b) gNil))
theorem for_pairs {K : PySem.W.Frag} {a b : Nat} {J : It} {xs : List (V × V)} {tb : TS} {D : Ends} {σ : St} {H1 : Hp} (hw : Wk2 J H1 xs) (Pv : Nat -> St -> Hp -> Prop) (h0 : Pv 0 σ H1) (hsm : ∀ i σ H, Pv i σ H -> Same H1 H)
    (hs : ∀ (i : Nat) (x y : V) (p : Addr) (σ : St) (H : Hp), xs[i]? = some (x, y) -> Pv i σ H -> H p = none -> tb { D with nx := Pv (i + 1), ct := Pv (i + 1), bk := D.nx } ((σ.set a (some x)).set b (some y)) (upd H p (.tup [x, y]))) (hd : ∀ σ H, Pv xs.length σ H -> D.nx σ H) :
    ∃ W : Nat -> Nat -> St -> Hp -> Prop, (∃ m, W 0 m σ H1) /\ ∀ i m σ H, W i m σ H ->
      (J.stop i H /\ D.nx σ H) \/ (J.go i H /\ ∃ N : St -> Hp -> Prop, (∀ σ' H', N σ' H' -> ∃ m', m' < m /\ W (i + 1) m' σ' H') /\ ∀ x H', J.yld i H x H' -> gPairAt K a b x σ H' fun σ2 H2 => tb { D with nx := N, ct := N, bk := D.nx } σ2 H2) := by
  refine ⟨fun i m σ H => i <= xs.length /\ m = xs.length - i /\ Pv i σ H, ⟨xs.length, Nat.zero_le _, rfl, h0⟩, ?_⟩
  rintro i m σ H ⟨hi, rfl, hp⟩
  have s := hsm i σ H hp
  by_cases e : i = xs.length
  · subst e; exact .inl ⟨hw.stop H s, hd σ H hp⟩
  · have hlt : i < xs.length := by omega
    have hx : xs[i]? = some xs[i] := by simp [hlt]
    refine .inr ⟨hw.go H s i _ hx, Pv (i + 1), fun σ' H' q => ⟨xs.length - (i + 1), by omega, by omega, rfl, q⟩, fun x H' hy => ?_⟩
    obtain ⟨q, rfl, hq, rfl⟩ := hw.yld H s i _ _ _ hx hy
    refine ⟨q, _, rfl, SqT.of upd_same, rfl, _, _, rfl, _, _, rfl, rfl, ?_⟩
    exact hs i xs[i].1 xs[i].2 q σ H hx hp hq
section
variable {X : Cx} {scope : Scope}
theorem cs0 {ns : List Str} (hk : scope.kind = .function := by rfl) (h1 : ∀ y ∈ scope.names, y.2 ≠ .cell := by decide +kernel) (h2 : ∀ y ∈ scope.names, y.2 = .local -> scope.names.lookup y.1 = some .local := by decide +kernel)
    (h3 : ∀ y ∈ scope.names, y.2 ≠ .free := by decide +kernel) : CScope X scope ns ns.length [] :=
  ⟨hk, h1, h2, fun y hy e => absurd e (h3 y hy), rfl, fun j k e => by simp at e⟩
theorem cs1 {ns : List Str} {x : Str} {k : Nat} (hx : X.N[k]? = some x) (hc : X.env.kindOf x = some .cell \/ X.env.kindOf x = some .free) (hl : scope.names.lookup x = some .free) (h3 : ∀ y ∈ scope.names, y.2 = .free -> y.1 = x)
    (hk : scope.kind = .function := by rfl) (h1 : ∀ y ∈ scope.names, y.2 ≠ .cell := by decide +kernel) (h2 : ∀ y ∈ scope.names, y.2 = .local -> scope.names.lookup y.1 = some .local := by decide +kernel) : CScope X scope (ns ++ [x]) ns.length [k] where
  kind := hk
  nocell := h1
  names := h2
  frees := fun y hy e => by rw [h3 y hy e]; exact hc
  nlen := by simp
  caps := fun j k' e => by
    cases j with
    | zero =>
      cases e
      refine ⟨x, hx, by simp, ?_, hc, hl⟩
      rcases hc with z | z
      · exact .inr (.inl z)
      · exact .inr (.inr z)
    | succ j => simp at e
end
noncomputable def tCut (t u : TS) : TS := fun D σ H => ∃ W : St -> Hp -> Prop, t { D with nx := W } σ H /\ ∀ σ' H', W σ' H' -> u D σ' H'
theorem pss_cut {X : Cx} {st : Stmt} {rest : List Stmt} {t u : TS} (h1 : PS X st t) (h2 : PSs X rest u) : PSs X (st :: rest) (tCut t u) := by
  intro pins s σ H D I ⟨W, h, k⟩
  refine wpAny_execs_cons (thn (h1 pins s σ H { D with nx := W } I h) fun f s1 q => ?_)
  cases f with
  | next =>
    obtain ⟨σ', H', I', q⟩ := q
    exact h2 pins s1 σ' H' D I' (k σ' H' q)
  | ret v => exact q
  | brk => exact q
  | cont => exact q
theorem pgc (i : Nat) {X : Cx} {scope : Scope} {cl : List (Str × Addr)} {C : Addr} {ns : List Str} {fp : List Addr} {s : Shared} {H : Hp} {x : Str} {pos : Pos} (hN : ns.Nodup := by decide +kernel) (hi : ns[i]? = some x := by rfl)
    (hx : (ccx X scope cl C ns fp s H).env.scope.names.lookup x = some .local := by rfl) : PG (ccx X scope cl C ns fp s H) (.Name x pos) (gName i) := pg_name hN hi (.inl hx) (.inr hx)
theorem mt_joinK (K : PySem.W.Frag) {X : Cx} (hK : X.K = K := by rfl) : MtR X "str.join" (rJoin K) := by subst hK; exact mt_join
end L2
namespace GP
open PySem L2 GT GM
noncomputable abbrev sv (t : Tx) : V := V.str (tx t)
noncomputable abbrev svs (R : Ru) : List V := R.map sv
noncomputable abbrev ivs (v : List Int) : List V := v.map V.int
noncomputable abbrev RuAt (H : Hp) (a : Addr) (R : Ru) : Prop := H a = some (.lst (svs R))
noncomputable abbrev IntsAt (H : Hp) (a : Addr) (v : List Int) : Prop := H a = some (.lst (ivs v))
noncomputable def TabAt (H : Hp) (a : Addr) (T : List (List Int)) : Prop := ∃ ps : List Addr, H a = some (.lst (ps.map V.ref)) /\ ps.length = T.length /\ ∀ (i : Nat) (p : Addr) (l : List Int), ps[i]? = some p -> T[i]? = some l -> IntsAt H p l
theorem TabAt.same {H H' : Hp} {a : Addr} {T : List (List Int)} (h : TabAt H a T) (s : Same H H') : TabAt H' a T := by
  obtain ⟨ps, e, l, q⟩ := h
  exact ⟨ps, s _ _ e, l, fun i p v h1 h2 => s _ _ (q i p v h1 h2)⟩
noncomputable abbrev anyH (H : Hp) (Q : VK) (v : V) : Prop := ∀ H', Same H H' -> Q v H'
noncomputable abbrev newL (H : Hp) (Q : VK) (xs : List V) : Prop := ∀ p H', Same H H' -> H p = none -> H' p = some (.lst xs) -> Q (.ref p) H'
theorem sl_big {n : Nat} (h : n <= 100000) : n < sizeLine := Nat.lt_of_le_of_lt h (by decide)
theorem tx_le {t : Tx} {n : Nat} (h : t.length <= n) (hn : n <= 100000) : (tx t).length <= sizeLine := by
  rw [tx_len]; exact Nat.le_of_lt (sl_big (Nat.le_trans h hn))
theorem ok_asc {n : Nat} {x : Tx} (h : OkTx n x) (hn : n <= 26) : ∀ c ∈ x, c < 128 := fun c hc => by have := h c hc; omega
theorem lets_ok (n : Nat) : OkTx n (lets n) := fun c hc => mem_lets.mp hc
theorem lets_asc {n : Nat} (hn : n <= 26) : ∀ c ∈ lets n, c < 128 := ok_asc (lets_ok n) hn
inductive SpLetters (vs : List V) (H : Hp) (Q : VK) : Prop
  | mk (a xs) (h0 : vs = [.ref a]) (h1 : H a = some (.lst xs)) (h2 : xs.length <= 26) (h3 : Q (sv (lets xs.length)) H) : SpLetters vs H Q
noncomputable def spLetters : Sp := fun vs H Q _ => SpLetters vs H Q
inductive SpIsText (vs : List V) (H : Hp) (Q : VK) : Prop
  | mk (n : Nat) (x : Tx) (h0 : vs = [sv (lets n), sv x]) (h1 : n <= 26) (h2 : OkTx n x) (h3 : anyH H Q (.bl true)) : SpIsText vs H Q
noncomputable def spIsText : Sp := fun vs H Q _ => SpIsText vs H Q
inductive SpIsNum (vs : List V) (H : Hp) (Q : VK) : Prop
  | mk (m v : Int) (h0 : vs = [.int m, .int v]) (h1 : Q (.bl (decide (0 <= v /\ v <= m))) H) : SpIsNum vs H Q
noncomputable def spIsNum : Sp := fun vs H Q _ => SpIsNum vs H Q
inductive SpIsRules (vs : List V) (H : Hp) (Q : VK) : Prop
  | mk (a R) (h0 : vs = [.ref a]) (h1 : RuAt H a R) (h2 : OkRu R) (h3 : anyH H Q (.bl true)) : SpIsRules vs H Q
noncomputable def spIsRules : Sp := fun vs H Q _ => SpIsRules vs H Q
inductive SpCheckRules (vs : List V) (H : Hp) (Q : VK) : Prop
  | mk (a R) (h0 : vs = [.ref a]) (h1 : RuAt H a R) (h2 : OkRu R) (h3 : anyH H Q .non) : SpCheckRules vs H Q
noncomputable def spCheckRules : Sp := fun vs H Q _ => SpCheckRules vs H Q
inductive SpCheckRow (vs : List V) (H : Hp) (Q : VK) : Prop
  | mk (a R x) (h0 : vs = [.ref a, sv x]) (h1 : RuAt H a R) (h2 : OkRu R) (h3 : OkTx R.length x) (h4 : anyH H Q .non) : SpCheckRow vs H Q
noncomputable def spCheckRow : Sp := fun vs H Q _ => SpCheckRow vs H Q
noncomputable def spCheckTimes : Sp := fun vs H Q _ => ∃ t : Int, vs = [.int t] /\ 0 <= t /\ t <= 300 /\ Q .non H
inductive SpOnce (vs : List V) (H : Hp) (Q : VK) : Prop
  | mk (a R x) (h0 : vs = [.ref a, sv x]) (h1 : RuAt H a R) (h2 : OkRu R) (h3 : OkTx R.length x) (h4 : x.length <= 100000) (h5 : (once R x).length <= 100000) (h6 : anyH H Q (sv (once R x))) : SpOnce vs H Q
noncomputable def spOnce : Sp := fun vs H Q _ => SpOnce vs H Q
inductive SpCounted (vs : List V) (H : Hp) (Q : VK) : Prop
  | mk (n : Nat) (x : Tx) (h0 : vs = [sv (lets n), sv x]) (h1 : n <= 26) (h2 : newL H Q (ivs (cnt n x))) : SpCounted vs H Q
noncomputable def spCounted : Sp := fun vs H Q _ => SpCounted vs H Q
noncomputable def SmallPairs (u v : List Int) : Prop := ∀ p ∈ u.zip v, CMul p.1 p.2
inductive SpWeighed (vs : List V) (H : Hp) (Q : VK) : Prop
  | mk (a b u v) (h0 : vs = [.ref a, .ref b]) (h1 : IntsAt H a u) (h2 : IntsAt H b v) (h3 : u.length = v.length) (h4 : u.length <= 1000) (h5 : SmallPairs u v) (h6 : anyH H Q (.int (weigh u v))) : SpWeighed vs H Q
noncomputable def spWeighed : Sp := fun vs H Q _ => SpWeighed vs H Q
inductive SpTable (vs : List V) (H : Hp) (Q : VK) : Prop
  | mk (a R) (h0 : vs = [.ref a]) (h1 : RuAt H a R) (h2 : R.length <= 26) (h3 : ∀ p H', Same H H' -> H p = none -> TabAt H' p (table R) -> Q (.ref p) H') : SpTable vs H Q
noncomputable def spTable : Sp := fun vs H Q _ => SpTable vs H Q
structure Sq (T : List (List Int)) : Prop where
  top : T.length <= 1000
  rows : ∀ l ∈ T, l.length = T.length
  small : ∀ l ∈ T, ∀ e ∈ l, -(2 ^ 64) < e /\ e < 2 ^ 64
inductive SpNext (vs : List V) (H : Hp) (Q : VK) : Prop
  | mk (t h T v) (h0 : vs = [.ref t, .ref h]) (h1 : TabAt H t T) (h2 : Sq T) (h3 : IntsAt H h v) (h4 : v.length = T.length) (h5 : newL H Q (ivs (hnext T v))) : SpNext vs H Q
noncomputable def spNext : Sp := fun vs H Q _ => SpNext vs H Q
inductive SpAfter (vs : List V) (H : Hp) (Q : VK) : Prop
  | mk (a R x t) (h0 : vs = [.ref a, sv x, .int (t : Nat)]) (h1 : RuAt H a R) (h2 : OkRu R) (h3 : (∀ r ∈ R, r.length <= 100000)) (h4 : OkTx R.length x) (h5 : t <= 1000) (h6 : newL H Q (ivs (cnt R.length (grow R t x)))) : SpAfter vs H Q
noncomputable def spAfter : Sp := fun vs H Q _ => SpAfter vs H Q
inductive SpAsked (vs : List V) (H : Hp) (Q : VK) : Prop
  | mk (a R x t) (h0 : vs = [.ref a, sv x, .int (t : Nat)]) (h1 : RuAt H a R) (h2 : OkRu R) (h3 : OkTx R.length x) (h4 : t <= 300) (h5 : anyH H Q .non) : SpAsked vs H Q
noncomputable def spAsked : Sp := fun vs H Q _ => SpAsked vs H Q
noncomputable def spCheckLength : Sp := fun vs H Q _ => ∃ n : Int, vs = [.int n] /\ n <= 100000 /\ Q .non H
noncomputable def Short (R : Ru) (t : Nat) (x : Tx) : Prop := ∀ k, 1 <= k -> k <= t -> (grow R k x).length <= 100000
inductive SpWay (vs : List V) (H : Hp) (Q : VK) : Prop
  | mk (a R x t) (h0 : vs = [.ref a, sv x, .int (t : Nat)]) (h1 : RuAt H a R) (h2 : OkRu R) (h3 : (∀ r ∈ R, r.length <= 100000)) (h4 : OkTx R.length x) (h5 : t <= 300) (h6 : Short R t x) (h7 : anyH H Q .non) : SpWay vs H Q
noncomputable def spWay : Sp := fun vs H Q _ => SpWay vs H Q
inductive SpGrown (vs : List V) (H : Hp) (Q : VK) : Prop
  | mk (a R x t) (h0 : vs = [.ref a, sv x, .int (t : Nat)]) (h1 : RuAt H a R) (h2 : OkRu R) (h3 : (∀ r ∈ R, r.length <= 100000)) (h4 : OkTx R.length x) (h5 : x.length <= 100000) (h6 : t <= 300) (h7 : Short R t x) (h8 : anyH H Q (sv (grow R t x))) : SpGrown vs H Q
noncomputable def spGrown : Sp := fun vs H Q _ => SpGrown vs H Q
inductive SpCounts (vs : List V) (H : Hp) (Q : VK) : Prop
  | mk (a R x t) (h0 : vs = [.ref a, sv x, .int (t : Nat)]) (h1 : RuAt H a R) (h2 : OkRu R) (h3 : (∀ r ∈ R, r.length <= 100000)) (h4 : OkTx R.length x) (h5 : t <= 300) (h6 : newL H Q (ivs (cnt R.length (grow R t x)))) : SpCounts vs H Q
noncomputable def spCounts : Sp := fun vs H Q _ => SpCounts vs H Q
inductive SpLength (vs : List V) (H : Hp) (Q : VK) : Prop
  | mk (a R x t) (h0 : vs = [.ref a, sv x, .int (t : Nat)]) (h1 : RuAt H a R) (h2 : OkRu R) (h3 : (∀ r ∈ R, r.length <= 100000)) (h4 : OkTx R.length x) (h5 : t <= 300) (h6 : anyH H Q (.int ((grow R t x).length : Nat))) : SpLength vs H Q
noncomputable def spLength : Sp := fun vs H Q _ => SpLength vs H Q
theorem table_sq {R : Ru} (h : R.length <= 26) (hb : ∀ r ∈ R, r.length <= 100000) : Sq (table R) where
  top := by rw [table_length]; omega
  rows := table_rows R
  small := by
    intro l hl e he
    obtain ⟨r, hr, rfl⟩ := List.mem_map.mp hl
    obtain ⟨c, _, rfl⟩ := List.mem_map.mp he
    have h1 : r.count c <= r.length := List.count_le_length
    have h2 := hb r hr
    omega
end GP
namespace GP
open PySem L2 GT GM
structure Ru100 (R : Ru) : Prop where
  ok : OkRu R
  le : ∀ r ∈ R, r.length <= 100
theorem alph_eq : ("abcdefghijklmnopqrstuvwxyz" : Str) = tx (lets 26) := by decide +kernel
theorem tx_toList (l : List Nat) : (tx l).cps.toList = l := rfl
theorem getI {ns : List Int} {i : Nat} {y : V} (h : (ns.map V.int)[i]? = some y) : ∃ z, ns[i]? = some z /\ y = V.int z := by
  rw [List.getElem?_map] at h
  obtain ⟨z, e, q⟩ := Option.map_eq_some_iff.mp h
  exact ⟨z, e, q.symm⟩
structure Put (m i : Nat) (R : Ru) : Prop where
  len : R.length = m
  ok : ∀ r ∈ R, OkTx m r /\ r.length <= i
theorem Put.start (m : Nat) : Put m 0 (List.replicate m []) where
  len := by simp
  ok := fun r hr => by rw [List.eq_of_mem_replicate hr]; exact ⟨fun c hc => by simp at hc, Nat.le_refl _⟩
theorem Put.step {m i : Nat} {R : Ru} (h : Put m i R) {j : Nat} {c : Nat} (hj : j < m) (hc : 97 <= c /\ c < 97 + m) : Put m (i + 1) (R.set j (R.getD j [] ++ [c])) where
  len := by rw [List.length_set]; exact h.len
  ok := fun r hr => by
    have hjl : j < R.length := by rw [h.len]; exact hj
    rcases List.mem_or_eq_of_mem_set hr with q | q
    · obtain ⟨a, b⟩ := h.ok r q; exact ⟨a, by omega⟩
    · subst q
      have hm : R.getD j [] ∈ R := getD_mem hjl
      obtain ⟨a, b⟩ := h.ok _ hm
      refine ⟨a.append fun d hd => by simp at hd; subst hd; exact hc, ?_⟩
      rw [List.length_append, List.length_singleton]; omega
theorem Put.ru {m i : Nat} {R : Ru} (h : Put m i R) (h1 : 1 <= m) (h2 : m <= 26) (hi : i <= 100) : Ru100 R :=
  ⟨⟨by rw [h.len]; exact h1, by rw [h.len]; exact h2, fun r hr => by rw [h.len]; exact (h.ok r hr).1⟩, fun r hr => by have := (h.ok r hr).2; omega⟩
noncomputable def again (n : Nat) (R : Ru) : Ru := R.map fun r => (List.replicate n r).flatten.take 100
inductive SpLaw (K : PySem.W.Frag) (vs : List V) (H : Hp) (Q : VK) : Prop
  | mk (a : Addr) (ns : List Int) (h0 : vs = [.ref a]) (h1 : SqL K H a (ns.map V.int)) (h2 : ns.length <= 63) (h3 : ∀ H', Q (.bl true) H') : SpLaw K vs H Q
noncomputable def spLaw (K : PySem.W.Frag) : Sp := fun vs H Q _ => SpLaw K vs H Q
noncomputable def kept (n : Nat) (R : Ru) : Ru := R.map fun r => r.filter fun c => decide (c ∈ lets n)
theorem flat_single (l : Tx) : (l.map fun c => [c]).flatten = l := by
  induction l with
  | nil => rfl
  | cons c l ih => rw [List.map_cons, List.flatten_cons, ih]; rfl
end GP
namespace GR
open PySem
namespace F
theorem mro_reversed : mroOf (.type "reversed") = pure [.type "reversed", .type "object"] := by rw [mroOf_type]; kernel_rfl
theorem lookup_reversed_new : typeLookup (.type "reversed") "__new__" = pure (some (.builtin "reversed.__new__")) := by rw [typeLookup_type, builtinLookup_eq_fast]; kernel_rfl
theorem made_reversed : Bind.madeBy (.type "reversed") = pure (some "reversed.__new__") := madeBy_type mro_reversed lookup_reversed_new (by decide +kernel)
theorem plain_reversed_new : plainId "reversed.__new__" = true := by decide +kernel
theorem entry_reversed_new : entryFor table "reversed.__new__" = some Builtin.«reversed.__new__» := entryFor_of_tree (by kernel_rfl)
theorem typeCall_reversed_1 (a : Value) : checkTypeCall "reversed" ⟨[a], []⟩ = pure () := by kernel_rfl
theorem newCall_reversed_1 (a : Value) : checkBuiltinCall "reversed.__new__" ⟨[.type "reversed", a], []⟩ = pure () := by kernel_rfl
theorem sub_reversed : isSubtype (.type "reversed") (.type "reversed") = pure true := by rw [isSubtype_type]; kernel_rfl
theorem sub_revit : isSubtype (.type "list_reverseiterator") (.type "reversed") = pure false := by rw [isSubtype_type]; kernel_rfl
theorem notType : (Value.type "reversed" == Value.type "type") = false := by decide +kernel
theorem canCreate : ((Manifest.find? "reversed").bind (·.mro.findSome? fun t => (Manifest.find? t).bind fun b => if b.noNew then some true else if b.attrs.any (·.1 == "__new__") then some false else none)).getD false = false := by decide +kernel
end F
section
variable {prog : Program} {w : World} {A : Around} {E : Value -> Shared -> Prop} {s : Shared}
noncomputable def IsRev (h : Heap) (it l : Addr) (i : Int) : Prop := h.get? it = some { cls := .type "list_reverseiterator", data := .fields #[.ref l, rawInt i] }
theorem meets_reversed_new (l : Addr) (items : Array Value) (n : Nat) :
    Meets (Builtin.«reversed.__new__» ⟨[.type "reversed", .ref l], []⟩) (fun _ R s => s.heap.get? l = some { cls := .type "list", dict := none, data := .seq items n, slots := #[] } /\
      R (.ok (.ret (.ref s.heap.objs.size))) { s with heap := s.heap.push { cls := .type "list_reverseiterator", data := .fields #[.ref l, rawInt (((items.size : Nat) : Int) - 1)] } }) :=
  .of_wp fun prog w A R s h => by
    obtain ⟨hp, g, d, tk, os⟩ := s; obtain ⟨hl, h⟩ := h
    have hsub := F.sub_reversed
    have hT : (⟨hp, g, d, tk, os⟩ : Shared).TypeIs (.ref l) "list" := ⟨_, hl, rfl⟩
    have hlk := PySem.F.slot_list_reversed.lookup
    have hbd := PySem.F.slot_list_reversed.bind (.ref l)
    repeat (any_goals (first | assumption | wp_step))
    refine codeAny_mono (codeAny_call_builtin (R := wants (fun v s' => v = .ref hp.objs.size /\ s' = (⟨hp.push { cls := .type "list_reverseiterator", data := .fields #[.ref l, rawInt (((items.size : Nat) : Int) - 1)] }, g, d, tk, os⟩ : Shared)) (fun _ _ => False)) PySem.F.slot_list_reversed.plain PySem.F.entry_list_reversed (PySem.F.slot_list_reversed.check _ _ _ _ _ _ _ _ hT (PySem.F.args_list_reversed_1 _) (AutoListH.list___reversed___list_0 l items n prog w _ _ _ ⟨hl, ⟨rfl, rfl⟩⟩))) fun r s₁ hr => ?_
    cases r with
    | error e => exact hr.elim
    | ok fl =>
      cases fl with
      | ret v =>
        obtain ⟨rfl, rfl⟩ := hr
        exact wpAny_pure ⟨_, rfl, h⟩
      | _ => exact hr.elim
theorem call_reversed {l : Addr} {items : Array Value} {n : Nat} {Q : Value -> Shared -> Prop} (hl : s.heap.get? l = some { cls := .type "list", dict := none, data := .seq items n, slots := #[] })
    (h : Q (.ref s.heap.objs.size) { s with heap := s.heap.push { cls := .type "list_reverseiterator", data := .fields #[.ref l, rawInt (((items.size : Nat) : Int) - 1)] } }) :
    wpAny (model prog w) A (call (.type "reversed") [.ref l]) Q E s := by
  have hmro := F.mro_reversed
  have hmade := F.made_reversed
  have h1 := F.notType
  have h2 := F.canCreate
  have hct := F.typeCall_reversed_1 (.ref l)
  refine wpAny_call (codeAny_of_tree ?_)
  show wpAny _ _ (callAny (.type "reversed") _) _ _ _
  refine wpAny_pure ⟨Code.quiet_builtin _ (by decide +kernel), codeAny_builtin PySem.F.entry_type_call ?_⟩
  rw [Around.under_plain (weight_type_call_type "reversed" [.ref l] []) (units_type_call_type "reversed" [.ref l] [])]
  repeat (any_goals (first | assumption | wp_step))
  refine codeAny_mono (codeAny_call_builtin F.plain_reversed_new F.entry_reversed_new (wpAny_of_eq (F.newCall_reversed_1 _) (meets_reversed_new l items n prog w A.in1 (wants (fun v s' => v = .ref s.heap.objs.size /\ s' = { s with heap := s.heap.push { cls := .type "list_reverseiterator", data := .fields #[.ref l, rawInt (((items.size : Nat) : Int) - 1)] } }) E) s ⟨hl, ⟨rfl, rfl⟩⟩))) fun r s₁ hr => ?_
  cases r with
  | error e => exact hr
  | ok fl =>
    cases fl with
    | ret obj =>
      obtain ⟨rfl, rfl⟩ := hr
      have hT : Shared.TypeIs { s with heap := s.heap.push { cls := .type "list_reverseiterator", data := .fields #[.ref l, rawInt (((items.size : Nat) : Int) - 1)] } } (.ref s.heap.objs.size) "list_reverseiterator" := ⟨_, Heap.get?_push_size _ rfl, rfl⟩
      have hsub := F.sub_revit
      repeat (any_goals (first | assumption | wp_step))
    | _ => exact hr.elim
namespace F
theorem slot_next : Slot "list_reverseiterator" "__next__" "list_reverseiterator.__next__" :=
  .of (owner := "list_reverseiterator") (n := "__next__") (by rw [typeLookup_type, builtinLookup_eq_fast]; kernel_rfl) (by decide +kernel) (by decide +kernel) (by decide +kernel)
    (by first | exact .inl (by decide +kernel) | exact .inr (by decide +kernel)) (by rw [isSubtype_type]; kernel_rfl)
theorem slot_iter : Slot "list_reverseiterator" "__iter__" "list_reverseiterator.__iter__" :=
  .of (owner := "list_reverseiterator") (n := "__iter__") (by rw [typeLookup_type, builtinLookup_eq_fast]; kernel_rfl) (by decide +kernel) (by decide +kernel) (by decide +kernel)
    (by first | exact .inl (by decide +kernel) | exact .inr (by decide +kernel)) (by rw [isSubtype_type]; kernel_rfl)
theorem entry_next : entryFor table "list_reverseiterator.__next__" = some Builtin.«list_reverseiterator.__next__» := entryFor_of_tree (by kernel_rfl)
theorem entry_iter : entryFor table "list_reverseiterator.__iter__" = some Builtin.«dict_keyiterator.__iter__» :=
  entryFor_alias (id' := "dict_keyiterator.__iter__") (by kernel_rfl) (by first | rfl | decide +kernel) (by decide +kernel) (by kernel_rfl)
theorem args_next (a : Value) : argsOk "list_reverseiterator.__next__" ⟨[a], []⟩ := by unfold argsOk; kernel_rfl
theorem args_iter (a : Value) : argsOk "list_reverseiterator.__iter__" ⟨[a], []⟩ := by unfold argsOk; kernel_rfl
end F
theorem IsRev.typeIs {it l : Addr} {i : Int} (h : IsRev s.heap it l i) : s.TypeIs (.ref it) "list_reverseiterator" := ⟨_, h, rfl⟩
theorem rev_iter {it l : Addr} {i : Int} {Q : Value -> Shared -> Prop} (hit : IsRev s.heap it l i) (h : Q (.ref it) s) : wpAny (model prog w) A (pyIter (.ref it)) Q E s := by
  refine wpAny_pyIter_slot hit.typeIs F.slot_iter (wpAny_call_entry F.slot_iter hit.typeIs F.entry_iter ?_ (F.args_iter _))
  show wpAny _ _ (ret (.ref it)) _ _ s
  exact wpAny_pure ⟨_, rfl, "list_reverseiterator", _, hit.typeIs, F.slot_next.lookup, h⟩
theorem rev_next_item {it l : Addr} {i : Nat} {items : Array Value} {x : Value} {Q : Option Value -> Shared -> Prop} (hit : IsRev s.heap it l (i : Int)) (hl : s.heap.IsList l items) (hx : items[i]? = some x)
    (hQ : ∀ h', IsRev h' it l ((i : Int) - 1) -> Heap.SameBut it s.heap h' -> Q (some x) { s with heap := h' }) : wpAny (model prog w) A (pyNext (.ref it)) Q E s := by
  have hit' : s.heap.get? it = some { cls := .type "list_reverseiterator", data := .fields #[.ref l, rawInt (i : Int)] } := hit
  obtain ⟨ol, hol, _, nl, hdl⟩ := hl
  unfold pyNext
  refine wpAny_bind (wpAny_attempt (wpAny_callSpecial?_slot (name := Str.ofString "__next__") hit.typeIs F.slot_next
    (wpAny_call_entry F.slot_next hit.typeIs F.entry_next ?_ (F.args_next _))))
  show wpAny _ _ (field (.ref it) 1 >>= _) _ _ s
  refine wpAny_bind (wpAny_field hit' rfl (x := rawInt (i : Int)) rfl ?_)
  show wpAny _ _ (if (i : Int) < 0 then _ else _) _ _ s
  rw [if_neg (by omega)]
  show wpAny _ _ (field (.ref it) 0 >>= _) _ _ s
  refine wpAny_bind (wpAny_field hit' rfl (x := .ref l) rfl ?_)
  show wpAny _ _ (seqItems? (.ref l) >>= _) _ _ s
  refine wpAny_bind (wpAny_seqItems hol hdl ?_)
  simp only [Int.toNat_natCast, hx]
  refine wpAny_bind (wpAny_setField_rec hit' (by simp) fun h' hz hs => ?_)
  replace hz : IsRev h' it l ((i : Int) - 1) := hz
  exact wpAny_pure ⟨_, rfl, wpAny_pure (hQ h' hz hs)⟩
theorem rev_next_end {it l : Addr} {Q : Option Value -> Shared -> Prop} (hh : A.handled = none) (hit : IsRev s.heap it l (-1))
    (hQ : ∀ h', (∀ b o, s.heap.get? b = some o -> h'.get? b = some o) -> Q none { s with heap := h' }) : wpAny (model prog w) A (pyNext (.ref it)) Q E s := by
  have hit' : s.heap.get? it = some { cls := .type "list_reverseiterator", data := .fields #[.ref l, rawInt (-1)] } := hit
  unfold pyNext
  refine wpAny_bind (wpAny_attempt (wpAny_callSpecial?_slot (name := Str.ofString "__next__") hit.typeIs F.slot_next
    (wpAny_call_entry F.slot_next hit.typeIs F.entry_next ?_ (F.args_next _))))
  show wpAny _ _ (field (.ref it) 1 >>= _) _ _ s
  refine wpAny_bind (wpAny_field hit' rfl (x := rawInt (-1)) rfl ?_)
  show wpAny _ _ (if (-1 : Int) < 0 then _ else _) _ _ s
  rw [if_pos (by decide)]
  refine wpAny_bind (wpAny_rule ?_)
  refine wpAny_bind ?_
  show wpAny _ _ (newExc (.type "StopIteration") [] >>= _) _ _ _
  refine wpAny_bind ?_
  simp only [newExc, newTuple]
  refine wpAny_bind (wpAny_newObj_type ?_ (by size_fits))
  refine wpAny_bind (m := firstArgMember _ _) (wpAny_of_eq (a := Value.none) (by first | rfl | (simp only [firstArgMember]; rfl)) ?_)
  refine wpAny_newObj_type ?_ (by size_fits)
  simp only [raiseNew]
  refine wpAny_bind (wpAny_handled ?_)
  rw [show A.in1.handled = none from hh]
  refine wpAny_bind (wpAny_pure (wpAny_throw ?_))
  refine wpAny_bind (wpAny_isInstance (T := "StopIteration") (b := true) ⟨_, Heap.get?_push_size _ rfl, rfl⟩ isSubtype_stop ?_)
  exact wpAny_pure (hQ _ fun b o e => Heap.get?_push_of_some _ (Heap.get?_push_of_some _ e))
end
end GR
namespace L2
open PySem PySem.Spec PyProof.Rows GT GR
section
variable {X : Cx}
noncomputable def Itv (a : Addr) (n : Nat) : It :=
  ⟨fun i H => i < n /\ ∃ xs, H a = some (.lst xs) /\ xs.length = n, fun i H x H' => H' = H /\ ∀ xs, H a = some (.lst xs) -> xs[n - 1 - i]? = some x, fun i H => i = n⟩
theorem turn_rev {P : Program} {w : World} {K : PySem.W.Frag} {tg : Expr} (a it : Addr) (n : Nat) : Turn P w K tg (Itv a n) [it] it (fun i h => IsRev h it a ((n : Int) - 1 - (i : Int))) where
  mem := by simp
  obj := fun i h st b hb => by
    have e : b = it := by simpa using hb
    subst e
    exact ⟨_, st, fun v z => nomatch z⟩
  keep := fun i h h' st k => k it (by simp) _ st
  item := by
    intro X hP hw hK hc i pins s σ H E I hf st hg
    subst hP hw hK
    obtain ⟨hi, xs, hx, hn⟩ := hg
    obtain ⟨its, rv, pl, hz⟩ := I.list (SqL.of (K := X.K) hx)
    have hl := rv.length
    have hj : n - 1 - i < xs.length := by omega
    obtain ⟨u, hu, ru⟩ := rv.get (i := n - 1 - i) (x := xs[n - 1 - i]) (by simp [hj])
    have ej : ((n : Int) - 1 - (i : Int)) = ((n - 1 - i : Nat) : Int) := by omega
    have st' : IsRev s.heap it a ((n - 1 - i : Nat) : Int) := by rw [<- ej]; exact st
    obtain ⟨f0, f1, f2, f3, f4, f5⟩ := hf it (by simp)
    refine rev_next_item st' pl.isList (x := u) (by simpa using hu) fun h' hr sb => ?_
    have I1 : Inv X pins σ H { s with heap := h' } := I.turned (t' := s.toks) (fun b o hb e => (sb.2 b hb).trans e) f0 f1 f3 f4 f5
    have hr' : IsRev h' it a ((n : Int) - 1 - ((i + 1 : Nat) : Int)) := by
      have e : ((n - 1 - i : Nat) : Int) - 1 = (n : Int) - 1 - ((i + 1 : Nat) : Int) := by omega
      rw [<- e]; exact hr
    refine ⟨u, rfl, go_of (s := { s with heap := h' }) (n := "list_reverseiterator") hr' rfl rfl (by decide) ⟨xs[n - 1 - i], H, I1, ru, ⟨rfl, fun ys hy => ?_⟩, hr', fun b hb => (hf b hb).1⟩⟩
    rw [hx] at hy; cases hy
    simp [hj]
  done := by
    intro X hP hw hK hc i pins s σ H E I hf st hg
    subst hP hw hK
    have hg : i = n := hg
    subst hg
    have st' : IsRev s.heap it a (-1) := by
      have e : ((i : Nat) : Int) - 1 - (i : Int) = -1 := by omega
      rw [<- e]; exact st
    exact rev_next_end (I.ok.hd hc) st' fun h' k => ⟨rfl, I.kept (t' := s.toks) k⟩
  self := fun _ _ _ _ _ st h => rev_iter st h
noncomputable def iRev (ta : TA) : TI := fun σ H R => ta σ H fun vs H1 => Ex2 fun a xs => vs = [.ref a] /\ H1 a = some (.lst xs) /\ R (Itv a xs.length) H1
theorem pi_rev {tg a : Expr} {ta : TA} {p pos : Pos} (hg : Gl X "reversed") (hm : X.mg "reversed" = none) (ha : PA X [a] ta) (hs : starEach [a] X.env = [(false, eval a X.env)] := by rfl) : PI X tg (.Call (.Name "reversed" p) [a] [] pos) (iRev ta) := by
  intro pins s σ H R I h
  refine Call_ (ld_blt I hg hm (show bootBuiltins "reversed" = some (.type "reversed") from by decide +kernel) (PyProof.Rows.callWith_type1 (thn (ha pos pins s σ H _ I h) fun us s1 ⟨vs, H1, I1, r1, q1⟩ => ?_) hs rfl))
  obtain ⟨l, xs, e, hl, q⟩ := q1
  subst e
  obtain ⟨u, rfl, ru⟩ := vals1 r1
  cases ru
  obtain ⟨its, n, rv, hob, hz⟩ := I1.lst hl
  refine call_reversed hob (rev_iter (l := l) (i := ((its.toArray.size : Nat) : Int) - 1) (Heap.get?_push_size _ rfl) ?_)
  have en : its.toArray.size = xs.length := by rw [List.size_toArray]; exact rv.length.symm
  refine ⟨s1.heap.objs.size, [s1.heap.objs.size], _, _, H1, rfl, I1.kept (t' := s1.toks) fun b o e => Heap.get?_push_of_some _ e, turn_rev l _ xs.length, ?_, fun b hb => ?_, q⟩
  · show IsRev _ _ _ _
    rw [<- en]
    have e : ((its.toArray.size : Nat) : Int) - 1 - ((0 : Nat) : Int) = ((its.toArray.size : Nat) : Int) - 1 := by omega
    rw [e]
    exact Heap.get?_push_size _ rfl
  · have e : b = s1.heap.objs.size := by simpa using hb
    subst e
    exact I1.fpOk (Nat.le_refl _) (I1.hok.fresh (Nat.le_refl _))
noncomputable def Itr3 (lo c : Int) (n : Nat) : It := ⟨fun i _ => i < n, fun i H x H' => H' = H /\ x = .int (lo + (i : Int) * c), fun i _ => n <= i⟩
theorem turn_range3 {P : Program} {w : World} {K : PySem.W.Frag} {tg : Expr} (it : Addr) (lo c : Int) (n : Nat) : Turn P w K tg (Itr3 lo c n) [it] it (fun i h => IsRangeIter h it (lo + (i : Nat) * c) ((n : Int) - (i : Nat)) c) where
  mem := by simp
  obj := fun i h st b hb => by
    have e : b = it := by simpa using hb
    subst e
    exact ⟨_, st, fun v z => by
      have z' : Data.fields _ = Data.cell v := z
      cases z'⟩
  keep := fun i h h' st k => k it (by simp) _ st
  item := by
    intro X hP hw hK hc i pins s σ H E I hf st hg
    subst hP hw hK
    obtain ⟨f0, f1, f2, f3, f4, f5⟩ := hf it (by simp)
    have W := Walks.range (prog := X.prog) (w := X.w) (I.ok.hd hc) it lo c n
    refine W.item i s _ _ hg st fun v h' tk hv st' kk => ?_
    obtain ⟨t, rfl⟩ := hv
    have I1 : Inv X pins σ H { s with heap := h', toks := tk } := I.turned (fun b o hb e => kk b o (by simpa using hb) e) f0 f1 f3 f4 f5
    exact ⟨_, rfl, go_of (s := { s with heap := h', toks := tk }) (n := "range_iterator") st' rfl rfl (by decide) ⟨.int (lo + i * c), H, I1, ⟨t, rfl⟩, ⟨rfl, rfl⟩, st', fun b hb => (hf b hb).1⟩⟩
  done := by
    intro X hP hw hK hc i pins s σ H E I hf st hg
    subst hP hw hK
    obtain ⟨f0, f1, f2, f3, f4, f5⟩ := hf it (by simp)
    exact wpAny_pyNext_range_end (I.ok.hd hc) st (by have : n <= i := hg; omega) fun h' eb => ⟨rfl, I.turned (t' := s.toks) (fun b o hb e => eb b o hb e) f0 f1 f3 f4 f5⟩
  self := fun _ _ _ _ _ st h => wpAny_pyIter_rangeiter st h
noncomputable def rn (lo hi c : Int) : Nat := (Builtin.Range.rangeSize lo hi c).toNat
theorem rs_bounds {i j c : Int} (h0 : 0 <= i) (h1 : 0 <= j) (h2 : j < 2 ^ 29) (hc : 1 <= c) : 0 <= Builtin.Range.rangeSize i j c /\ Builtin.Range.rangeSize i j c < 2 ^ 29 := by
  unfold Builtin.Range.rangeSize
  rw [if_pos (by omega)]
  split
  · have a1 : 0 <= (j - i - 1) / c := Int.ediv_nonneg (by omega) (by omega)
    have a2 : (j - i - 1) / c <= j - i - 1 := Int.ediv_le_self _ (by omega)
    omega
  · omega
theorem small3 {i j c : Int} (h0 : 0 <= i) (h0' : i < 2 ^ 29) (h1 : 0 <= j) (h2 : j < 2 ^ 29) (hc : 1 <= c) (hc' : c < 2 ^ 29) : Builtin.Range.small i j c = true := by
  obtain ⟨a1, a2⟩ := rs_bounds h0 h1 h2 hc
  unfold Builtin.Range.small
  generalize Builtin.Range.rangeSize i j c = r at a1 a2
  simp only [Builtin.Range.rangeFitsLong, Bool.and_eq_true, Bool.or_eq_true, decide_eq_true_eq, beq_iff_eq, show c > 0 by omega, if_true]
  omega
noncomputable def iRng3 (ta : TA) : TI := fun σ H R => ta σ H fun vs H1 => Ex3 fun (i j c : Int) => vs = [.int i, .int j, .int c] /\ (0 <= i /\ i < 2 ^ 29 /\ 0 <= j /\ j < 2 ^ 29 /\ 1 <= c /\ c < 2 ^ 29) /\ R (Itr3 i c (rn i j c)) H1
theorem pi_range3 {tg a b c : Expr} {ta : TA} {p pos : Pos} (hg : Gl X "range") (hm : X.mg "range" = none) (ha : PA X [a, b, c] ta) (hs : starEach [a, b, c] X.env = [(false, eval a X.env), (false, eval b X.env), (false, eval c X.env)] := by rfl)
    (hs2 : starEach [b, c] X.env = [(false, eval b X.env), (false, eval c X.env)] := by rfl) : PI X tg (.Call (.Name "range" p) [a, b, c] [] pos) (iRng3 ta) := by
  intro pins s σ H R I h
  refine Call_ (ld_blt I hg hm boot_range (PyProof.Rows.callWith_type1 (thn (ha pos pins s σ H _ I h) fun us s1 ⟨vs, H1, I1, r1, q1⟩ => ?_) (by rw [hs, hs2]) (by rw [hs2]; rfl)))
  obtain ⟨i, j, k, e, ⟨q1, q2, q3, q4, q5, q6⟩, q⟩ := q1
  subst e
  cases r1 with
  | cons r rr =>
    cases rr with
    | cons r' rr =>
      cases rr with
      | cons r'' rr =>
        cases rr
        obtain ⟨t, rfl⟩ := r
        obtain ⟨t', rfl⟩ := r'
        obtain ⟨t'', rfl⟩ := r''
        refine call_range_3 (by omega) ?_ (Or.inl (PyProof.noPylong_small (by omega)))
        have I2 : Inv X pins σ H1 { s1 with heap := s1.heap.push { cls := .type "range", data := .fields #[.int i t, .int j t', .int k t''] } } := I1.kept (t' := s1.toks) fun b o e => Heap.get?_push_of_some _ e
        refine wpAny_pyIter_range (IsRange.new ..) ?_ ?_
        · exact small3 q1 q2 q3 q4 q5 q6
        · refine ⟨_, [_], _, _, H1, rfl, I2.kept (t' := s1.toks) fun b o e => Heap.get?_push_of_some _ e, turn_range3 _ i k (rn i j k), ?_, fun b hb => ?_, q⟩
          · have e1 : i + ((0 : Nat) : Int) * k = i := by simp
            have e2 : ((rn i j k : Nat) : Int) - ((0 : Nat) : Int) = Builtin.Range.rangeSize i j k := by
              have := (rs_bounds (c := k) q1 q3 q4 q5).1
              unfold rn
              omega
            show IsRangeIter _ _ (i + ((0 : Nat) : Int) * k) (((rn i j k : Nat) : Int) - ((0 : Nat) : Int)) k
            rw [e1, e2]
            exact Heap.get?_push_size _ rfl
          · have e : b = (s1.heap.push { cls := .type "range", data := .fields #[.int i t, .int j t', .int k t''] }).objs.size := by simpa using hb
            subst e
            exact I2.fpOk (Nat.le_refl _) (I2.hok.fresh (Nat.le_refl _))
end
end L2
namespace GM
theorem grow_append (R : Ru) : ∀ k x y, grow R k (x ++ y) = grow R k x ++ grow R k y
  | 0, _, _ => rfl
  | k + 1, x, y => by show grow R k (once R (x ++ y)) = _; rw [once_append, grow_append R k]; rfl
theorem grow_nil (R : Ru) : ∀ k, grow R k [] = []
  | 0 => rfl
  | k + 1 => by show grow R k (once R []) = _; rw [once_nil, grow_nil R k]
theorem once_one (R : Ru) (c : Nat) : once R [c] = R.getD (c - 97) [] := by rw [once_cons, once_nil, List.append_nil]
theorem grow_one (R : Ru) (k c : Nat) : grow R (k + 1) [c] = grow R k (R.getD (c - 97) []) := by show grow R k (once R [c]) = _; rw [once_one]
theorem grow_len_sum (R : Ru) (k : Nat) : ∀ x : Tx, ((grow R k x).length : Int) = (x.map fun c => ((grow R k [c]).length : Int)).sum
  | [] => by rw [grow_nil]; rfl
  | c :: x => by
    have e : c :: x = [c] ++ x := rfl
    rw [e, grow_append, List.length_append, List.map_append, List.sum_append, <- grow_len_sum R k x]
    simp
noncomputable def szs (R : Ru) : Nat -> List Int
  | 0 => List.replicate R.length 1
  | k + 1 => (table R).map fun l => weigh l (szs R k)
theorem szs_length (R : Ru) : ∀ k, (szs R k).length = R.length
  | 0 => by simp [szs]
  | k + 1 => by simp [szs, table]
theorem weigh_map {n : Nat} {x : Tx} (hx : OkTx n x) (f : Nat -> Int) : weigh (cnt n x) ((lets n).map f) = (x.map f).sum := by
  unfold weigh
  rw [zipWith_cnt x _ 0 (by rw [List.length_map, lets_length]) (· * ·)]
  have e : ((lets n).map fun c => (x.count c : Int) * ((lets n).map f).getD (c - 97) 0) = (lets n).map fun c => (x.count c : Int) * f c := by
    refine List.map_congr_left fun c hc => ?_
    have hc' := mem_lets.mp hc
    rw [List.getD_eq_getElem?_getD, List.getElem?_map, lets_get (show c - 97 < n by omega)]
    have : 97 + (c - 97) = c := by omega
    rw [this]; rfl
  show List.sum ((lets n).map fun c => (x.count c : Int) * ((lets n).map f).getD (c - 97) 0) = _
  rw [e, sum_by_letters f hx]
theorem map_lets {α : Type} (R : Ru) (g : Tx -> α) : R.map g = (lets R.length).map fun c => g (R.getD (c - 97) []) := by
  apply List.ext_getElem?
  intro k
  by_cases h : k < R.length
  · rw [List.getElem?_map, List.getElem?_map, lets_get h, List.getElem?_eq_getElem h]
    have : 97 + k - 97 = k := by omega
    simp [this, List.getD_eq_getElem?_getD, List.getElem?_eq_getElem h]
  · rw [List.getElem?_eq_none (by rw [List.length_map]; omega), List.getElem?_eq_none (by rw [List.length_map, lets_length]; omega)]
theorem szs_eq {R : Ru} (hR : OkRu R) : ∀ k, szs R k = (lets R.length).map fun c => ((grow R k [c]).length : Int)
  | 0 => by
    apply List.ext_getElem?
    intro j
    by_cases h : j < R.length
    · rw [List.getElem?_map, lets_get h]; simp [szs, h, grow]
    · rw [List.getElem?_eq_none (by rw [szs_length]; omega), List.getElem?_eq_none (by rw [List.length_map, lets_length]; omega)]
  | k + 1 => by
    unfold szs table
    rw [List.map_map, map_lets R]
    refine List.map_congr_left fun c hc => ?_
    have hc' := mem_lets.mp hc
    show weigh (cnt R.length (R.getD (c - 97) [])) (szs R k) = _
    rw [szs_eq hR k, weigh_map (hR.all _ (getD_mem (by omega))), <- grow_len_sum, grow_one]
theorem weigh_szs {R : Ru} (hR : OkRu R) (k : Nat) {x : Tx} (hx : OkTx R.length x) : weigh (cnt R.length x) (szs R k) = ((grow R k x).length : Int) := by
  rw [szs_eq hR k, weigh_map hx, <- grow_len_sum]
theorem szs_get {R : Ru} (hR : OkRu R) (k : Nat) {c : Nat} (h1 : 97 <= c) (h2 : c < 97 + R.length) : (szs R k)[c - 97]? = some ((grow R k [c]).length : Int) := by
  rw [szs_eq hR, List.getElem?_map, lets_get (by omega)]
  have : 97 + (c - 97) = c := by omega
  rw [this]; rfl
noncomputable def up (R : Ru) (k : Nat) (x : Tx) (i : Nat) : Nat := (grow R k (x.take i)).length
theorem up_zero (R : Ru) (k : Nat) (x : Tx) : up R k x 0 = 0 := by unfold up; rw [List.take_zero, grow_nil]; rfl
theorem up_succ {R : Ru} {k : Nat} {x : Tx} {i c : Nat} (h : x[i]? = some c) : up R k x (i + 1) = up R k x i + (grow R k [c]).length := by
  unfold up
  rw [List.take_add_one, h, Option.toList_some, grow_append, List.length_append]
theorem up_all {R : Ru} {k : Nat} {x : Tx} {i : Nat} (h : x.length <= i) : up R k x i = (grow R k x).length := by unfold up; rw [List.take_of_length_le h]
structure Lies (R : Ru) (k : Nat) (x : Tx) (p i c : Nat) : Prop where
  at_ : x[i]? = some c
  lo : up R k x i <= p
  hi : p < up R k x (i + 1)
theorem grow_split {R : Ru} {k : Nat} {x : Tx} {i c : Nat} (h : x[i]? = some c) : grow R k x = grow R k (x.take i) ++ (grow R k [c] ++ grow R k (x.drop (i + 1))) := by
  have hi := (List.getElem?_eq_some_iff.mp h).1
  have e : x = x.take i ++ ([c] ++ x.drop (i + 1)) := by
    have h2 : x.drop i = [c] ++ x.drop (i + 1) := by
      rw [List.drop_eq_getElem_cons hi]
      have := (List.getElem?_eq_some_iff.mp h).2
      rw [this]; rfl
    rw [<- h2, List.take_append_drop]
  rw [<- grow_append, <- grow_append, <- e]
inductive IsWay (R : Ru) : Nat -> Tx -> Nat -> List (Nat × Tx) -> Prop
  | zero {y : Tx} {p i c : Nat} (h : Lies R 0 y p i c) : IsWay R 0 y p [(c, y.take i)]
  | succ {k : Nat} {y : Tx} {p i c : Nat} {w : List (Nat × Tx)} (h : Lies R (k + 1) y p i c) (t : IsWay R k (R.getD (c - 97) []) (p - up R (k + 1) y i) w) : IsWay R (k + 1) y p ((c, y.take i) :: w)
theorem up_id (R : Ru) (y : Tx) (i : Nat) (h : i <= y.length) : up R 0 y i = i := by
  show (y.take i).length = i
  rw [List.length_take]; omega
theorem Lies.zero {R : Ru} {y : Tx} {p i c : Nat} (h : Lies R 0 y p i c) : i = p := by
  have hi := (List.getElem?_eq_some_iff.mp h.at_).1
  have h1 := h.lo
  have h2 := h.hi
  rw [up_id R y i (by omega)] at h1
  rw [up_id R y (i + 1) (by omega)] at h2
  omega
theorem IsWay.letter {R : Ru} {k : Nat} {y : Tx} {p : Nat} {w : List (Nat × Tx)} (h : IsWay R k y p w) : ∃ c t, w.getLast? = some (c, t) /\ (grow R k y)[p]? = some c := by
  induction h with
  | @zero y p i c h =>
    have e := h.zero
    subst e
    exact ⟨c, _, rfl, h.at_⟩
  | @succ k y p i c w h t ih =>
    obtain ⟨d, u, e1, e2⟩ := ih
    refine ⟨d, u, ?_, ?_⟩
    · rw [List.getLast?_cons, e1]; rfl
    · have hlo := h.lo
      have hhi := h.hi
      rw [up_succ h.at_] at hhi
      rw [grow_split (R := R) (k := k + 1) h.at_, List.getElem?_append_right hlo]
      show (grow R (k + 1) [c] ++ _)[p - up R (k + 1) y i]? = _
      rw [List.getElem?_append_left (by omega), grow_one]
      exact e2
noncomputable def fold (R : Ru) (Z : Tx) (w : List (Nat × Tx)) : Tx := w.foldl (fun Z p => once R Z ++ p.2) Z
theorem IsWay.first {R : Ru} {k : Nat} {y : Tx} {p : Nat} {w : List (Nat × Tx)} (h : IsWay R k y p w) : ∀ Z, fold R Z w = grow R k (once R Z) ++ (grow R k y).take p := by
  induction h with
  | @zero y p i c h =>
    intro Z
    have e := h.zero
    subst e
    rfl
  | @succ k y p i c w h t ih =>
    intro Z
    show fold R (once R Z ++ y.take i) w = _
    rw [ih, once_append, grow_append]
    have hlo := h.lo
    have hhi := h.hi
    rw [up_succ h.at_] at hhi
    have hg : (grow R (k + 1) y).take p = grow R (k + 1) (y.take i) ++ (grow R k (R.getD (c - 97) [])).take (p - up R (k + 1) y i) := by
      rw [grow_split (R := R) (k := k + 1) h.at_, List.take_append, List.take_of_length_le hlo, List.take_append_of_le_length (by show p - up R (k + 1) y i <= _; omega), grow_one]
      rfl
    rw [hg, <- List.append_assoc]
    rfl
theorem IsWay.ok {R : Ru} (hR : OkRu R) {k : Nat} {y : Tx} {p : Nat} {w : List (Nat × Tx)} (h : IsWay R k y p w) : OkTx R.length y -> ∀ q ∈ w, OkTx R.length q.2 /\ 97 <= q.1 /\ q.1 < 97 + R.length := by
  induction h with
  | @zero y p i c h =>
    intro hy q hq
    simp at hq; subst hq
    exact ⟨fun d hd => hy d (List.mem_of_mem_take hd), hy c (List.mem_of_getElem? h.at_)⟩
  | @succ k y p i c w h t ih =>
    intro hy q hq
    have hc := hy c (List.mem_of_getElem? h.at_)
    rcases List.mem_cons.mp hq with e | e
    · subst e
      exact ⟨fun d hd => hy d (List.mem_of_mem_take hd), hc⟩
    · exact ih (hR.all _ (getD_mem (by omega))) q e
theorem fold_ok {R : Ru} (hR : OkRu R) : ∀ (w : List (Nat × Tx)) {Z : Tx}, OkTx R.length Z -> (∀ q ∈ w, OkTx R.length q.2) -> OkTx R.length (fold R Z w)
  | [], _, h, _ => h
  | q :: w, Z, h, hw => fold_ok hR w ((OkTx.once hR h).append (hw q List.mem_cons_self)) fun q' hq' => hw q' (List.mem_cons_of_mem _ hq')
theorem added_cnt (n : Nat) (x y : Tx) : List.zipWith (· + ·) (cnt n x) (cnt n y) = cnt n (x ++ y) := (cnt_append n x y).symm
end GM
namespace L2
open PySem PySem.Spec PyProof.Rows GT
theorem lcb_objs {cap : List Nat} {te : TE} {J : It} {σ : St} {H1 : Hp} {Q : VK} {α : Type} (zs : List α) (ι : α -> V) (ψ : Hp -> Addr -> α -> Prop) {cs : St} (hw : Wk J H1 (zs.map ι)) (hcs : cst 1 cap σ = none :: cs) (hz : zs.length < sizeLine)
    (hte : ∀ (i : Nat) (z : α) (H' : Hp) (Kt : VK), zs[i]? = some z -> Same H1 H' -> (∀ p H5, Same H' H5 -> H' p = none -> (∀ H6, (∀ b o, H' b = none -> H5 b = some o -> H6 b = some o) -> ψ H6 p z) -> Kt (.ref p) H5) -> te (some (ι z) :: cs) H' Kt)
    (hd : ∀ D (ps : List Addr) H', Same H1 H' -> H1 D = none -> H' D = some (.lst (ps.map V.ref)) -> ps.length = zs.length -> (∀ (i : Nat) p z, ps[i]? = some p -> zs[i]? = some z -> ∀ H6, Same H' H6 -> ψ H6 p z) -> Q (.ref D) H') : LCB 1 cap (gName 0) tYes te J σ H1 Q := by
  intro D hD
  refine ⟨fun i m σ' H' => i <= zs.length /\ m = zs.length - i /\ (∃ o, σ' = o :: cs) /\ Same H1 H' /\ ∃ ps : List Addr, H' D = some (.lst (ps.map V.ref)) /\ ps.length = i /\ ∀ (j : Nat) p z, ps[j]? = some p -> zs[j]? = some z -> ∀ H6, (∀ b o, b ≠ D -> H' b = some o -> H6 b = some o) -> ψ H6 p z,
    ⟨zs.length, Nat.zero_le _, rfl, ⟨none, hcs⟩, same_new hD, [], by rw [upd_same]; rfl, rfl, fun j p z e => by simp at e⟩, ?_⟩
  rintro i m σ' H' ⟨hi, rfl, ⟨o, rfl⟩, hs, ps, hDv, lps, hR⟩
  by_cases e : i = zs.length
  · subst e
    refine .inl ⟨by have := hw.stop H' hs; rw [List.length_map] at this; exact this, hd D ps H' hs hD hDv lps fun j p z h1 h2 H6 s6 => hR j p z h1 h2 H6 fun b o _ q => s6 b o q⟩
  · have hlt : i < zs.length := by omega
    have hx : (zs.map ι)[i]? = some (ι zs[i]) := by simp [hlt]
    refine .inr ⟨hw.go H' hs i _ hx, fun σ2 H2 => (∃ o, σ2 = o :: cs) /\ Same H1 H2 /\ ∃ ps : List Addr, H2 D = some (.lst (ps.map V.ref)) /\ ps.length = i + 1 /\ ∀ (j : Nat) p z, ps[j]? = some p -> zs[j]? = some z -> ∀ H6, (∀ b o, b ≠ D -> H2 b = some o -> H6 b = some o) -> ψ H6 p z, fun σ'' H'' ⟨q1, q2, q3⟩ => ⟨zs.length - (i + 1), by omega, by omega, rfl, q1, q2, q3⟩, fun x H2 hy => ?_⟩
    obtain ⟨rfl, rfl⟩ := hw.yld H' hs i _ _ _ hx hy
    have hz' : zs[i]? = some zs[i] := by simp [hlt]
    refine hte i zs[i] _ _ hz' hs fun p H5 s5 hp hψ => ?_
    refine ⟨_, s5 _ _ hDv, ?_, ⟨_, rfl⟩, (hs.trans s5).upd hD, ps ++ [p], ?_, ?_, fun j q z ej ez H6 h6 => ?_⟩
    · rw [List.length_map, lps]; omega
    · rw [upd_same, List.map_append]; rfl
    · rw [List.length_append, lps]; rfl
    · have h6' : ∀ b o, b ≠ D -> H5 b = some o -> H6 b = some o := fun b o hb q => h6 b o hb (by rw [upd_ne hb]; exact q)
      by_cases hj : j < i
      · rw [List.getElem?_append_left (by omega)] at ej
        exact hR j q z ej ez H6 fun b o hb w => h6' b o hb (s5 b o w)
      · have hji : j = i := by
          have := (List.getElem?_eq_some_iff.mp ej).1
          rw [List.length_append, lps] at this
          simp at this; omega
        subst hji
        rw [List.getElem?_append_right (by omega), lps, Nat.sub_self] at ej
        rw [hz'] at ez
        cases ej; cases ez
        refine hψ H6 fun b o hn w => h6' b o (fun z => ?_) w
        rw [z, hDv] at hn; cases hn
end L2
namespace GP
open PySem L2 GT GM
inductive SpAdded (vs : List V) (H : Hp) (Q : VK) : Prop
  | mk (a b u v) (h0 : vs = [.ref a, .ref b]) (h1 : IntsAt H a u) (h2 : IntsAt H b v) (h3 : u.length = v.length) (h4 : u.length <= 1000) (h5 : newL H Q (ivs (List.zipWith (· + ·) u v))) : SpAdded vs H Q
noncomputable def spAdded : Sp := fun vs H Q _ => SpAdded vs H Q
noncomputable def sizesL (R : Ru) (t : Nat) : List (List Int) := (List.range (t + 1)).map (szs R)
noncomputable def nb (x : Tx) : Nat := (x.length + 255) / 256
noncomputable def marksL (n : Nat) (x : Tx) : List (List Int) := (List.range (nb x + 1)).map fun j => cnt n (x.take (256 * j))
noncomputable def FTab (H0 H : Hp) (a : Addr) (T : List (List Int)) : Prop := H0 a = none /\ ∃ ps : List Addr, H a = some (.lst (ps.map V.ref)) /\ ps.length = T.length /\ ∀ (i : Nat) (p : Addr) (l : List Int), ps[i]? = some p -> T[i]? = some l -> IntsAt H p l /\ H0 p = none
theorem FTab.tab {H0 H : Hp} {a : Addr} {T : List (List Int)} (h : FTab H0 H a T) : TabAt H a T := by
  obtain ⟨_, ps, e, l, q⟩ := h
  exact ⟨ps, e, l, fun i p v h1 h2 => (q i p v h1 h2).1⟩
theorem FTab.new {H0 H H6 : Hp} {a : Addr} {T : List (List Int)} (h : FTab H0 H a T) (k : ∀ b o, H0 b = none -> H b = some o -> H6 b = some o) : TabAt H6 a T := by
  obtain ⟨n, ps, e, l, q⟩ := h
  exact ⟨ps, k _ _ n e, l, fun i p v h1 h2 => k _ _ (q i p v h1 h2).2 (q i p v h1 h2).1⟩
theorem FTab.back {H0 H1 H : Hp} {a : Addr} {T : List (List Int)} (h : FTab H1 H a T) (k : ∀ b, H1 b = none -> H0 b = none) : FTab H0 H a T := by
  obtain ⟨n, ps, e, l, q⟩ := h
  exact ⟨k _ n, ps, e, l, fun i p v h1 h2 => ⟨(q i p v h1 h2).1, k _ (q i p v h1 h2).2⟩⟩
inductive SpSizes (vs : List V) (H : Hp) (Q : VK) : Prop
  | mk (a R t) (h0 : vs = [.ref a, .int (t : Nat)]) (h1 : RuAt H a R) (h2 : OkRu R) (h3 : (∀ r ∈ R, r.length <= 100000)) (h4 : t <= 300) (h5 : ∀ p H', Same H H' -> FTab H H' p (sizesL R t) -> Q (.ref p) H') : SpSizes vs H Q
noncomputable def spSizes : Sp := fun vs H Q _ => SpSizes vs H Q
inductive SpMarks (vs : List V) (H : Hp) (Q : VK) : Prop
  | mk (n : Nat) (x : Tx) (h0 : vs = [sv (lets n), sv x]) (h1 : n <= 26) (h2 : x.length <= 100000) (h3 : ∀ p H', Same H H' -> FTab H H' p (marksL n x) -> Q (.ref p) H') : SpMarks vs H Q
noncomputable def spMarks : Sp := fun vs H Q _ => SpMarks vs H Q
noncomputable def mfl (n : Nat) (x : Tx) (m : Addr) : List (Str × V) := putF "marks" (.ref m) (putF "text" (sv x) (putF "letters" (sv (lets n)) []))
theorem ml : ¬ (("letters" : Str) = "marks") := by decide +kernel
theorem mt : ¬ (("text" : Str) = "marks") := by decide +kernel
theorem lt_ : ¬ (("letters" : Str) = "text") := by decide +kernel
theorem mfl_letters (n : Nat) (x : Tx) (m : Addr) : (mfl n x m).lookup ("letters" : Str) = some (sv (lets n)) := by
  unfold mfl; rw [lookup_putF, if_neg ml, lookup_putF, if_neg lt_, lookup_putF, if_pos rfl]
theorem mfl_text (n : Nat) (x : Tx) (m : Addr) : (mfl n x m).lookup ("text" : Str) = some (sv x) := by
  unfold mfl; rw [lookup_putF, if_neg mt, lookup_putF, if_pos rfl]
theorem mfl_marks (n : Nat) (x : Tx) (m : Addr) : (mfl n x m).lookup ("marks" : Str) = some (.ref m) := by
  unfold mfl; rw [lookup_putF, if_pos rfl]
theorem mfl_no (n : Nat) (x : Tx) (m : Addr) {f : Str} (h1 : ¬ f = "letters") (h2 : ¬ f = "text") (h3 : ¬ f = "marks") : (mfl n x m).lookup f = none := by
  unfold mfl; rw [lookup_putF, if_neg h3, lookup_putF, if_neg h2, lookup_putF, if_neg h1]; rfl
structure MkAt (C : Addr) (H : Hp) (p : Addr) (n : Nat) (x : Tx) : Prop where
  ob : ∃ dx m, H p = some (.ins C dx (mfl n x m)) /\ TabAt H m (marksL n x)
theorem MkAt.same {C : Addr} {H H' : Hp} {p : Addr} {n : Nat} {x : Tx} (h : MkAt C H p n x) (s : Same H H') : MkAt C H' p n x := by
  obtain ⟨dx, m, e, t⟩ := h.ob
  exact ⟨dx, m, s _ _ e, t.same s⟩
inductive SpMkInit (C : Addr) (vs : List V) (H : Hp) (Q : VK) : Prop
  | mk (p dx n x) (h0 : vs = [.ref p, sv (lets n), sv x]) (h1 : H p = some (.ins C dx [])) (h2 : n <= 26) (h3 : x.length <= 100000) (h4 : ∀ m H', H' p = some (.ins C dx (mfl n x m)) -> FTab H H' m (marksL n x) -> (∀ b o, H b = some o -> b ≠ p -> H' b = some o) -> Q .non H') : SpMkInit C vs H Q
noncomputable def spMkInit (C : Addr) : Sp := fun vs H Q _ => SpMkInit C vs H Q
inductive SpAhead (C : Addr) (vs : List V) (H : Hp) (Q : VK) : Prop
  | mk (p n x i) (h0 : vs = [.ref p, .int (i : Nat)]) (h1 : MkAt C H p n x) (h2 : n <= 26) (h3 : x.length <= 100000) (h4 : i <= x.length) (h5 : newL H Q (ivs (cnt n (x.take i)))) : SpAhead C vs H Q
noncomputable def spAhead (C : Addr) : Sp := fun vs H Q _ => SpAhead C vs H Q
structure In (R : Ru) (k : Nat) (H : Hp) (b : Addr) (x : Tx) (p : Nat) : Prop where
  ok : OkRu R
  le : x.length <= 100000
  tx : OkTx R.length x
  sz : IntsAt H b (szs R k)
  lt : p < (grow R k x).length
inductive SpBlock (C : Addr) (vs : List V) (H : Hp) (Q : VK) : Prop
  | mk (q b R k x p) (h0 : vs = [.ref q, .ref b, .int (p : Nat)]) (h1 : MkAt C H q R.length x) (h2 : In R k H b x p) (h3 : ∀ j : Nat, j < nb x -> up R k x (256 * j) <= p -> anyH H Q (.int (j : Nat))) : SpBlock C vs H Q
noncomputable def spBlock (C : Addr) : Sp := fun vs H Q _ => SpBlock C vs H Q
inductive SpIndex (C : Addr) (vs : List V) (H : Hp) (Q : VK) : Prop
  | mk (q b R k x p) (h0 : vs = [.ref q, .ref b, .int (p : Nat)]) (h1 : MkAt C H q R.length x) (h2 : In R k H b x p) (h3 : ∀ i c : Nat, Lies R k x p i c -> anyH H Q (.int (i : Nat))) : SpIndex C vs H Q
noncomputable def spIndex (C : Addr) : Sp := fun vs H Q _ => SpIndex C vs H Q
inductive SpCheckPlace (vs : List V) (H : Hp) (Q : VK) : Prop
  | mk (p l : Int) (h0 : vs = [.int p, .int l]) (h1 : 0 <= p) (h2 : p <= l) (h3 : Q .non H) : SpCheckPlace vs H Q
noncomputable def spCheckPlace : Sp := fun vs H Q _ => SpCheckPlace vs H Q
noncomputable def WayAt (H : Hp) (a : Addr) (n : Nat) (w : List (Nat × Tx)) : Prop := ∃ ts : List Addr, H a = some (.lst (ts.map V.ref)) /\ ts.length = w.length /\ ∀ (i : Nat) (t : Addr) (c : Nat) (y : Tx), ts[i]? = some t -> w[i]? = some (c, y) -> ∃ q, H t = some (.tup [sv [c], .ref q]) /\ IntsAt H q (cnt n y)
theorem WayAt.same {H H' : Hp} {a : Addr} {n : Nat} {w : List (Nat × Tx)} (h : WayAt H a n w) (s : Same H H') : WayAt H' a n w := by
  obtain ⟨ts, e, l, q⟩ := h
  exact ⟨ts, s _ _ e, l, fun i t c y h1 h2 => by obtain ⟨z, a1, a2⟩ := q i t c y h1 h2; exact ⟨z, s _ _ a1, s _ _ a2⟩⟩
inductive SpWayTo (vs : List V) (H : Hp) (Q : VK) : Prop
  | mk (a R x t p) (h0 : vs = [.ref a, sv x, .int (t : Nat), .int (p : Nat)]) (h1 : RuAt H a R) (h2 : OkRu R) (h3 : (∀ r ∈ R, r.length <= 100000)) (h4 : OkTx R.length x) (h5 : x.length <= 100000) (h6 : t <= 300) (h7 : p < (grow R t x).length) (h8 : ∀ w q H', IsWay R t x p w -> Same H H' -> H q = none -> WayAt H' q R.length w -> Q (.ref q) H') : SpWayTo vs H Q
noncomputable def spWayTo : Sp := fun vs H Q _ => SpWayTo vs H Q
inductive SpLetter (vs : List V) (H : Hp) (Q : VK) : Prop
  | mk (a R x t p) (h0 : vs = [.ref a, sv x, .int (t : Nat), .int (p : Nat)]) (h1 : RuAt H a R) (h2 : OkRu R) (h3 : (∀ r ∈ R, r.length <= 100000)) (h4 : OkTx R.length x) (h5 : x.length <= 100000) (h6 : t <= 300) (h7 : p < (grow R t x).length) (h8 : ∀ c, (grow R t x)[p]? = some c -> anyH H Q (sv [c])) : SpLetter vs H Q
noncomputable def spLetter : Sp := fun vs H Q _ => SpLetter vs H Q
inductive SpFirst (vs : List V) (H : Hp) (Q : VK) : Prop
  | mk (a R x t p) (h0 : vs = [.ref a, sv x, .int (t : Nat), .int (p : Nat)]) (h1 : RuAt H a R) (h2 : OkRu R) (h3 : (∀ r ∈ R, r.length <= 100000)) (h4 : OkTx R.length x) (h5 : x.length <= 100000) (h6 : t <= 300) (h7 : p <= (grow R t x).length) (h8 : newL H Q (ivs (cnt R.length ((grow R t x).take p)))) : SpFirst vs H Q
noncomputable def spFirst : Sp := fun vs H Q _ => SpFirst vs H Q
end GP
namespace L2
open PySem PySem.Spec PyProof.Rows GT
theorem for_range3 {lo c : Int} {n : Nat} {g : TG} {tb : TS} {D : Ends} {σ : St} {H : Hp} (Pv : Nat -> St -> Hp -> Prop) (h0 : Pv 0 σ H) (hs : ∀ i σ H, i < n -> Pv i σ H -> g (.int (lo + (i : Int) * c)) σ H fun σ2 H2 => tb { D with nx := Pv (i + 1), ct := Pv (i + 1), bk := D.nx } σ2 H2) (hd : ∀ σ H, Pv n σ H -> D.nx σ H) :
    ∃ W : Nat -> Nat -> St -> Hp -> Prop, (∃ m, W 0 m σ H) /\ ∀ i m σ H, W i m σ H ->
      ((Itr3 lo c n).stop i H /\ D.nx σ H) \/ ((Itr3 lo c n).go i H /\ ∃ N : St -> Hp -> Prop, (∀ σ' H', N σ' H' -> ∃ m', m' < m /\ W (i + 1) m' σ' H') /\ ∀ x H', (Itr3 lo c n).yld i H x H' -> g x σ H' fun σ2 H2 => tb { D with nx := N, ct := N, bk := D.nx } σ2 H2) := by
  refine ⟨fun i m σ H => i <= n /\ m = n - i /\ Pv i σ H, ⟨n, Nat.zero_le _, rfl, h0⟩, ?_⟩
  rintro i m σ H ⟨hi, rfl, hp⟩
  by_cases e : i = n
  · subst e; exact .inl ⟨Nat.le_refl _, hd σ H hp⟩
  · have hlt : i < n := by omega
    refine .inr ⟨hlt, Pv (i + 1), fun σ' H' q => ⟨n - (i + 1), by omega, by omega, rfl, q⟩, fun x H' hy => ?_⟩
    obtain ⟨rfl, rfl⟩ := hy
    exact hs i σ _ hlt hp
end L2
namespace GP
open PySem L2 GT GM
theorem rn_nb (x : Tx) : rn 0 (x.length : Int) 256 = nb x := by
  unfold rn nb
  rw [Builtin.Range.rangeSize]
  rw [if_pos (by decide)]
  split <;> omega
theorem cnt_take {n : Nat} {x : Tx} {a b : Nat} (h : a <= b) : List.zipWith (· + ·) (cnt n (x.take a)) (cnt n ((x.take b).drop a)) = cnt n (x.take b) := by
  rw [added_cnt]
  congr 1
  have : x.take a = (x.take b).take a := by rw [List.take_take, Nat.min_eq_left h]
  rw [this, List.take_append_drop]
theorem marksL_get {n : Nat} {x : Tx} {j : Nat} (h : j <= nb x) : (marksL n x)[j]? = some (cnt n (x.take (256 * j))) := by
  unfold marksL
  rw [List.getElem?_map, List.getElem?_range (by omega)]
  rfl
theorem marksL_len (n : Nat) (x : Tx) : (marksL n x).length = nb x + 1 := by simp [marksL]
theorem nb_all (x : Tx) : x.length <= 256 * nb x := by unfold nb; omega
theorem TabAt.get {H : Hp} {a : Addr} {T : List (List Int)} (h : TabAt H a T) {j : Nat} {l : List Int} (e : T[j]? = some l) : ∃ (xs : List V) (p : Addr), H a = some (.lst xs) /\ xs.length = T.length /\ xs[j]? = some (.ref p) /\ IntsAt H p l := by
  obtain ⟨ps, h1, h2, h3⟩ := h
  have hj : j < ps.length := by have := (List.getElem?_eq_some_iff.mp e).1; omega
  exact ⟨_, ps[j], h1, by rw [List.length_map]; exact h2, by simp [hj], h3 j ps[j] l (by simp [hj]) e⟩
theorem ok_take {n : Nat} {x : Tx} (h : OkTx n x) (i : Nat) : OkTx n (x.take i) := fun c hc => h c (List.mem_of_mem_take hc)
theorem cnt_small {n : Nat} {x : Tx} (h : x.length <= 100000) {v : List Int} : SmallPairs (cnt n x) v := fun z hz => by
  left
  obtain ⟨c, _, hc⟩ := List.mem_map.mp (List.of_mem_zip hz).1
  rw [<- hc]
  have q1 : x.count c <= x.length := List.count_le_length
  omega
theorem lets_ix {n c : Nat} (h1 : 97 <= c) (h2 : c < 97 + n) : (lets n)[c - 97]? = some c /\ ∀ k, k < c - 97 -> (lets n)[k]? ≠ some c := by
  refine ⟨by rw [lets_get (by omega)]; congr 1; omega, fun k hk => by rw [lets_get (by omega)]; intro e; have := Option.some.inj e; omega⟩
end GP
namespace L2
open PySem PySem.Spec PyProof.Rows GT
theorem for_rev {a : Addr} {xs : List V} {g : TG} {tb : TS} {D : Ends} {σ : St} {H : Hp} (Pv : Nat -> St -> Hp -> Prop) (h0 : Pv 0 σ H) (hl : ∀ i σ H, Pv i σ H -> H a = some (.lst xs)) (hs : ∀ (i : Nat) (x : V) (σ : St) (H : Hp), i < xs.length -> xs[xs.length - 1 - i]? = some x -> Pv i σ H -> g x σ H fun σ2 H2 => tb { D with nx := Pv (i + 1), ct := Pv (i + 1), bk := D.nx } σ2 H2) (hd : ∀ σ H, Pv xs.length σ H -> D.nx σ H) :
    ∃ W : Nat -> Nat -> St -> Hp -> Prop, (∃ m, W 0 m σ H) /\ ∀ i m σ H, W i m σ H ->
      ((Itv a xs.length).stop i H /\ D.nx σ H) \/ ((Itv a xs.length).go i H /\ ∃ N : St -> Hp -> Prop, (∀ σ' H', N σ' H' -> ∃ m', m' < m /\ W (i + 1) m' σ' H') /\ ∀ x H', (Itv a xs.length).yld i H x H' -> g x σ H' fun σ2 H2 => tb { D with nx := N, ct := N, bk := D.nx } σ2 H2) := by
  refine ⟨fun i m σ H => i <= xs.length /\ m = xs.length - i /\ Pv i σ H, ⟨xs.length, Nat.zero_le _, rfl, h0⟩, ?_⟩
  rintro i m σ H ⟨hi, rfl, hp⟩
  have hx := hl i σ H hp
  by_cases e : i = xs.length
  · subst e; exact .inl ⟨rfl, hd σ H hp⟩
  · have hlt : i < xs.length := by omega
    refine .inr ⟨⟨hlt, xs, hx, rfl⟩, Pv (i + 1), fun σ' H' q => ⟨xs.length - (i + 1), by omega, by omega, rfl, q⟩, fun x H' hy => ?_⟩
    obtain ⟨rfl, hy⟩ := hy
    exact hs i x σ _ hlt (hy xs hx) hp
end L2
namespace L2
open PySem PySem.Spec PyProof.Rows GT
section
variable {X : Cx}
theorem op_isnotB : OpR X (compareOp .IsNot) (fun x y H Q => Ex2 fun b c => x = .bl b /\ y = .bl c /\ Q (.bl (b != c)) H) := by
  intro pins s σ H x y v u Q I rx ry h
  obtain ⟨b, c, rfl, rfl, q⟩ := h
  cases rx; cases ry
  exact isnot_bool ⟨.bl (b != c), H, I, rfl, q⟩
theorem pe_cls {x : Str} {C : Addr} {pos : Pos} (hg : Gl X x) (hm : X.mg x = some (.ref C)) (hd : (x == ("__debug__" : Str)) = false := by decide) : PE X (.Name x pos) (tC (.ref C)) := pe_glob hg hm rfl hd
end
end L2
namespace L2
open PySem PySem.Spec PyProof.Rows GT
theorem vals_strs : ∀ {vs : List Value} {ss : List Str}, StrsAre vs ss -> Vals (ss.map V.str) vs
  | _, _, .nil => .nil
  | _, _, .cons x t h => .cons ⟨t, rfl⟩ (vals_strs h)
theorem strsAre_ix : ∀ {vs : List Value} {ss : List Str}, vs.length = ss.length -> (∀ (j : Nat) (v : Value) (x : Str), vs[j]? = some v -> ss[j]? = some x -> ∃ t, v = .str x t) -> StrsAre vs ss
  | [], [], _, _ => .nil
  | v :: vs, x :: ss, hl, h => by
    obtain ⟨t, rfl⟩ := h 0 v x rfl rfl
    exact .cons x t (strsAre_ix (Nat.succ.inj hl) fun j v x a b => h (j + 1) v x a b)
section
variable {prog : Program} {w : World} {A : Around} {E : Value -> Shared -> Prop} {s : Shared}
theorem sort_new {vs : List Value} {ss : List Str} {Q : Value -> Shared -> Prop} (hS : StrsAre vs ss) (h64 : vs.length < 64)
    (h : ∀ (h' : Heap) (D : Addr) (vs' : List Value) (ss' : List Str) (e : Nat), (∀ b o, s.heap.get? b = some o -> h'.get? b = some o) -> s.heap.objs.size <= D -> h'.get? D = some (seqObj "list" vs'.toArray e) -> StrsAre vs' ss' -> ss'.Perm ss -> Q (.ref D) { s with heap := h' }) :
    wpAny (model prog w) A (newList vs >>= fun l => holding [l] (call (.builtin "list.sort") [l]) >>= fun _ => ret l) (fun fin s' => ∃ v, fin = Fin.done (Flow.ret v) /\ Q v s') E s := by
  refine wpAny_bind (wpAny_newList ?_ (by rw [sizeLine_eq]; omega))
  have hoL : (s.heap.push (seqObj "list" vs.toArray 0)).get? s.heap.objs.size = some (seqObj "list" vs.toArray 0) := Heap.get?_push_size _ rfl
  show wpAny _ _ _ _ _ { s with heap := s.heap.push (seqObj "list" vs.toArray 0) }
  refine wpAny_bind (wpAny_holding (wpAny_call_entry slot_list_sort ⟨_, hoL, rfl⟩ entry_list_sort (list_sort_treeK strKind_oneLt hoL hS.keysOf (fun v₁ v₂ rest e => keyKind_strs (by rw [<- e]; exact hS)) h64 fun st' a1 a2 => ⟨_, rfl, ?_⟩) (args_list_sort _)))
  obtain ⟨ss', h1, h2, _⟩ := sorted_out_str hS a1 a2
  obtain ⟨e, he⟩ := sortedHeap_at (out := (arrOf st').map (·.2)) hoL
  refine wpAny_pure ⟨_, rfl, h _ _ ((arrOf st').map (·.2)).toList ss' e (fun b o hb => ?_) (Nat.le_refl _) ?_ h1 h2⟩
  · have hlt := Heap.lt_size hb
    rw [sortedHeap_old (Nat.ne_of_lt hlt) (by rw [size_push']; exact Nat.lt_succ_of_lt hlt)]
    exact Heap.get?_push_of_some _ hb
  · exact he
end
section
variable {X : Cx}
theorem call_sortedD (hc : X.calm = true) : CallR X (.builtin "sorted") (fun xs H Q => Ex3 fun (p : Addr) (kvs : List (Key × V)) (ss : List Str) => xs = [.ref p] /\ H p = some (.dK kvs) /\ kvs.map (·.1) = ss.map Sum.inr /\ ss.length < 64 /\ ∀ (q : Addr) (ss' : List Str), H q = none -> ss'.Perm ss -> Q (.ref q) (upd H q (.lst (ss'.map V.str)))) := by
  intro pins s σ H xs us Q I r h
  obtain ⟨p, kvs, ss, rfl, hp, hk, h64, q⟩ := h
  obtain ⟨u, rfl, ru⟩ := vals1 r
  cases ru
  obtain ⟨hz, hsys, vs, kv, hd⟩ := I.hok p _ hp
  obtain ⟨ep, hat⟩ := hd.dictAt
  have hl1 := Paired.length kv
  have hl2 : kvs.length = ss.length := by rw [<- List.length_map (f := (·.1)), hk, List.length_map]
  refine Calls.call_function_entry kind_sorted plain_sorted entry_sorted (args_sorted1 _) ?_
  unfold Builtin.«sorted»
  refine wpAny_bind (m := checkCount "sorted" 1 1 _) (wpAny_pure ?_)
  have hh : X.A.in1.handled = none := by simpa using I.ok.hd hc
  refine wpAny_bind (PySem.W.kdu_collect (A := X.A.in1) (PySem.W.kdl_dict hsys) hh hat (by rw [<- hl1]; exact hz) fun h' tk acc hk' hacc => ?_)
  have hS : StrsAre acc.toList ss := by
    refine strsAre_ix (by rw [Array.length_toList, hacc.1, <- hl1, hl2]) fun j v x hv hx => ?_
    obtain ⟨k, y, e1, e2⟩ := hacc.2 j v (by rw [<- Array.getElem?_toList]; exact hv)
    have hj1 : j < ss.length := (List.getElem?_eq_some_iff.mp hx).1
    have hjv : j < vs.length := (List.getElem?_eq_some_iff.mp e1).1
    have hjk : j < kvs.length := by omega
    have pr := (Paired.get kv j hjk hjv).1
    have ek : vs[j] = (k, y) := (List.getElem?_eq_some_iff.mp e1).2
    have ex : ss[j] = x := (List.getElem?_eq_some_iff.mp hx).2
    have e3 : kvs[j].1 = Sum.inr ss[j] := by
      have := congrArg (fun l => l[j]?) hk
      simp only [List.getElem?_map, List.getElem?_eq_getElem hjk, List.getElem?_eq_getElem hj1, Option.map_some, Option.some.injEq] at this
      exact this
    rw [e3, ek, ex] at pr
    subst pr
    have e2' : keyIs (Sum.inr x) v = true := e2
    rcases keyIs_shape e2' with ⟨i, t, e, _⟩ | ⟨z, t, e, rfl⟩
    · cases e
    · cases e; exact ⟨t, rfl⟩
  have hlen : acc.toList.length < 64 := by rw [Array.length_toList, hacc.1, <- hl1, hl2]; exact h64
  refine sort_new (s := { s with heap := h', toks := tk }) hS hlen fun h2 D vs' ss' e k2 hD hDv hS' hperm => ?_
  have I2 : Inv X pins σ H { s with heap := h', toks := tk } := I.kept (t' := tk) hk'
  refine ⟨.ref D, _, I2.laid (a := D) (o := .lst (ss'.map V.str)) (t' := tk) k2 hD ⟨?_, vs', e, vals_strs hS', hDv⟩, rfl, q D ss' (I2.hok.fresh hD) hperm⟩
  rw [List.length_map, hperm.length_eq, sizeLine_eq]
  omega
end
end L2
namespace GM
noncomputable def Met (R : Ru) (c t e : Nat) : Prop := ∃ j, j <= t /\ e ∈ grow R j [c]
theorem mem_rule {R : Ru} {e g j c : Nat} (h : e ∈ grow R j [c]) (hg : g ∈ R.getD (e - 97) []) : g ∈ grow R (j + 1) [c] := by
  rw [grow_succ']
  unfold once
  exact List.mem_flatMap.mpr ⟨e, h, hg⟩
theorem of_rule {R : Ru} {g j c : Nat} (h : g ∈ grow R (j + 1) [c]) : ∃ e, e ∈ grow R j [c] /\ g ∈ R.getD (e - 97) [] := by
  rw [grow_succ'] at h
  unfold once at h
  exact List.mem_flatMap.mp h
theorem Met.mono {R : Ru} {c t s e : Nat} (h : Met R c t e) (hts : t <= s) : Met R c s e := by
  obtain ⟨j, hj, he⟩ := h
  exact ⟨j, Nat.le_trans hj hts, he⟩
theorem Met.step {R : Ru} {c t e g : Nat} (h : Met R c t e) (hg : g ∈ R.getD (e - 97) []) : Met R c (t + 1) g := by
  obtain ⟨j, hj, he⟩ := h
  exact ⟨j + 1, Nat.succ_le_succ hj, mem_rule he hg⟩
theorem stall {R : Ru} {c t : Nat} (h : ∀ e, Met R c (t + 1) e -> Met R c t e) : ∀ s e, Met R c s e -> Met R c t e := by
  intro s
  induction s with
  | zero => intro e he; exact he.mono (Nat.zero_le _)
  | succ s ih =>
    rintro e ⟨j, hj, he⟩
    by_cases hjs : j <= s
    · exact ih e ⟨j, hjs, he⟩
    · have : j = s + 1 := by omega
      subst this
      obtain ⟨f, hf, hef⟩ := of_rule he
      exact h e ((ih f ⟨s, Nat.le_refl _, hf⟩).step hef)
theorem countP_more {α : Type} {p q : α -> Bool} : ∀ {l : List α}, (∀ x, p x = true -> q x = true) -> (∃ x ∈ l, q x = true /\ p x = false) -> l.countP p + 1 <= l.countP q
  | [], _, ⟨x, hx, _⟩ => by simp at hx
  | a :: l, h, ⟨x, hx, h1, h2⟩ => by
    have hle : l.countP p <= l.countP q := List.countP_mono_left fun x _ hp => h x hp
    rcases List.mem_cons.mp hx with rfl | hx
    · rw [List.countP_cons_of_pos h1, List.countP_cons_of_neg (by rw [h2]; exact Bool.false_ne_true)]
      omega
    · have ih := countP_more (l := l) h ⟨x, hx, h1, h2⟩
      by_cases hq : q a = true
      · rw [List.countP_cons_of_pos hq]
        by_cases hp : p a = true
        · rw [List.countP_cons_of_pos hp]; omega
        · rw [List.countP_cons_of_neg hp]; omega
      · have hp : ¬ p a = true := fun z => hq (h a z)
        rw [List.countP_cons_of_neg hq, List.countP_cons_of_neg hp]; exact ih
open Classical in
theorem all_or_stall {R : Ru} (hR : OkRu R) {c : Nat} (hc : 97 <= c /\ c < 97 + R.length) : ∀ t, t + 1 <= (lets R.length).countP (fun e => decide (Met R c t e)) \/ ∃ s, s < t /\ ∀ e, Met R c (s + 1) e -> Met R c s e := by
  intro t
  induction t with
  | zero =>
    left
    have : 0 < (lets R.length).countP (fun e => decide (Met R c 0 e)) := List.countP_pos_iff.mpr ⟨c, mem_lets.mpr hc, by simp only [decide_eq_true_eq]; exact ⟨0, Nat.le_refl _, List.mem_singleton.mpr rfl⟩⟩
    omega
  | succ t ih =>
    rcases ih with ih | ⟨s, hs, h⟩
    · by_cases hst : ∀ e, Met R c (t + 1) e -> Met R c t e
      · exact .inr ⟨t, Nat.lt_succ_self _, hst⟩
      · left
        obtain ⟨e, he⟩ := Classical.not_forall.mp hst
        obtain ⟨h1, h2⟩ := Classical.not_imp.mp he
        have hel : e ∈ lets R.length := by
          obtain ⟨j, _, hj⟩ := h1
          exact mem_lets.mpr (OkTx.grow hR (fun d hd => by rw [List.mem_singleton.mp hd]; exact hc) e hj)
        have := countP_more (l := lets R.length) (p := fun e => decide (Met R c t e)) (q := fun e => decide (Met R c (t + 1) e)) (fun x hx => by simp only [decide_eq_true_eq] at hx ⊢; exact hx.mono (Nat.le_succ _)) ⟨e, hel, by simp only [decide_eq_true_eq]; exact h1, by simp only [decide_eq_false_iff_not]; exact h2⟩
        omega
    · exact .inr ⟨s, Nat.lt_succ_of_lt hs, h⟩
theorem shut {R : Ru} (hR : OkRu R) {c d : Nat} (hc : 97 <= c /\ c < 97 + R.length) (hd : 97 <= d /\ d < 97 + R.length) (hn : ¬ Met R c (R.length - 1) d) {e g : Nat} (he : Met R c (R.length - 1) e) (hg : g ∈ R.getD (e - 97) []) : Met R c (R.length - 1) g := by
  classical
  have h1 := hR.pos
  rcases all_or_stall hR hc (R.length - 1) with h | ⟨s, hs, h⟩
  · exfalso
    have hle : (lets R.length).countP (fun e => decide (Met R c (R.length - 1) e)) <= (lets R.length).length := List.countP_le_length
    have heq : (lets R.length).countP (fun e => decide (Met R c (R.length - 1) e)) = (lets R.length).length := by rw [lets_length] at hle ⊢; omega
    have := List.countP_eq_length.mp heq d (mem_lets.mpr hd)
    simp only [decide_eq_true_eq] at this
    exact hn this
  · exact (stall h _ g (he.step hg)).mono (by omega)
end GM
namespace GP
open PySem L2 GT GM
noncomputable abbrev Let (n c : Nat) : Prop := 97 <= c /\ c < 97 + n
theorem Let.ok {n c : Nat} (h : Let n c) : OkTx n [c] := fun d hd => by rw [List.mem_singleton.mp hd]; exact h
inductive SpInit1 (C : Addr) (f : Str) (vs : List V) (H : Hp) (Q : VK) : Prop
  | mk (p dx v) (h0 : vs = [.ref p, v]) (h1 : H p = some (.ins C dx [])) (h2 : Q .non (upd H p (.ins C dx (putF f v [])))) : SpInit1 C f vs H Q
noncomputable def spInit1 (C : Addr) (f : Str) : Sp := fun vs H Q _ => SpInit1 C f vs H Q
inductive SpTimes (C : Addr) (vs : List V) (H : Hp) (Q : VK) : Prop
  | mk (p dx m a R c d) (h0 : vs = [.ref p, .ref a, sv [c], sv [d]]) (h1 : H p = some (.ins C dx (putF "many" (.int m) []))) (h2 : RuAt H a R) (h3 : OkRu R) (h4 : (∀ r ∈ R, r.length <= 100000)) (h5 : Let R.length c) (h6 : Let R.length d) (h7 : anyH H Q (.bl (decide (0 <= m /\ m <= (R.length : Int) /\ d ∈ grow R m.toNat [c])))) : SpTimes C vs H Q
noncomputable def spTimes (C : Addr) : Sp := fun vs H Q _ => SpTimes C vs H Q
inductive SpCheckLetter (vs : List V) (H : Hp) (Q : VK) : Prop
  | mk (a R c) (h0 : vs = [.ref a, sv [c]]) (h1 : RuAt H a R) (h2 : OkRu R) (h3 : Let R.length c) (h4 : anyH H Q .non) : SpCheckLetter vs H Q
noncomputable def spCheckLetter : Sp := fun vs H Q _ => SpCheckLetter vs H Q
structure ShutIs (R : Ru) (L : Tx) (c d : Nat) : Prop where
  ok : OkTx R.length L
  le : L.length <= 26
  one : c ∈ L
  not : d ∉ L
  shut : ∀ e ∈ L, ∀ g ∈ R.getD (e - 97) [], g ∈ L
inductive SpComes (CT CS : Addr) (vs : List V) (H : Hp) (Q : VK) : Prop
  | mk (a R c d) (h0 : vs = [.ref a, sv [c], sv [d]]) (h1 : RuAt H a R) (h2 : OkRu R) (h3 : (∀ r ∈ R, r.length <= 100000)) (h4 : Let R.length c) (h5 : Let R.length d) (h6 : (∀ t p dx H', t < R.length -> d ∈ grow R t [c] -> Same H H' -> H p = none -> H' p = some (.ins CT dx (putF "many" (.int (t : Nat)) [])) -> Q (.ref p) H')) (h7 : (∀ L p dx H', ShutIs R L c d -> Same H H' -> H p = none -> H' p = some (.ins CS dx (putF "letters" (sv L) [])) -> Q (.ref p) H')) : SpComes CT CS vs H Q
noncomputable def spComes (CT CS : Addr) : Sp := fun vs H Q _ => SpComes CT CS vs H Q
theorem putF_get (f : Str) (v : V) : (putF f v []).lookup f = some v := by rw [lookup_putF, if_pos rfl]
theorem nd_len : ∀ {l m : List Str}, l.Nodup -> (∀ k ∈ l, k ∈ m) -> l.length <= m.length
  | [], m, _, _ => Nat.zero_le _
  | a :: l, m, nd, h => by
    have ha := h a List.mem_cons_self
    have nd' := List.nodup_cons.mp nd
    have ih := nd_len (l := l) (m := m.erase a) nd'.2 fun k hk => (List.mem_erase_of_ne (fun z => nd'.1 (by rw [<- z]; exact hk))).mpr (h k (List.mem_cons_of_mem _ hk))
    rw [List.length_erase_of_mem ha] at ih
    have : 0 < m.length := List.length_pos_of_mem ha
    rw [List.length_cons]; omega
theorem sgn_in {L x : Tx} (h : ∀ c ∈ x, c ∈ L) : (sgn x).length <= (sgn L).length :=
  nd_len (sgn_nodup x) fun k hk => by
    obtain ⟨c, hc, rfl⟩ := (mem_sgn x k).mp hk
    exact (mem_sgn L _).mpr ⟨c, h c hc, rfl⟩
theorem cnt_ix {n : Nat} {x : Tx} {d : Nat} (hd : Let n d) : (ivs (cnt n x))[d - 97]? = some (V.int (x.count d : Nat)) := by
  unfold ivs cnt
  rw [List.map_map, List.getElem?_map, lets_get (by omega)]
  have : 97 + (d - 97) = d := by omega
  rw [this]
  rfl
end GP
namespace L2
open PySem PySem.Spec PyProof.Rows GT
theorem for_pairs2 {K : PySem.W.Frag} {a b : Nat} {J : It} {xs : List (V × V)} {tb : TS} {D : Ends} {σ : St} {Hw H1 : Hp} (hw : Wk2 J Hw xs) (Pv : Nat -> St -> Hp -> Prop) (h0 : Pv 0 σ H1) (hsm : ∀ i σ H, Pv i σ H -> Same Hw H)
    (hs : ∀ (i : Nat) (x y : V) (p : Addr) (σ : St) (H : Hp), xs[i]? = some (x, y) -> Pv i σ H -> H p = none -> tb { D with nx := Pv (i + 1), ct := Pv (i + 1), bk := D.nx } ((σ.set a (some x)).set b (some y)) (upd H p (.tup [x, y]))) (hd : ∀ σ H, Pv xs.length σ H -> D.nx σ H) :
    ∃ W : Nat -> Nat -> St -> Hp -> Prop, (∃ m, W 0 m σ H1) /\ ∀ i m σ H, W i m σ H ->
      (J.stop i H /\ D.nx σ H) \/ (J.go i H /\ ∃ N : St -> Hp -> Prop, (∀ σ' H', N σ' H' -> ∃ m', m' < m /\ W (i + 1) m' σ' H') /\ ∀ x H', J.yld i H x H' -> gPairAt K a b x σ H' fun σ2 H2 => tb { D with nx := N, ct := N, bk := D.nx } σ2 H2) := by
  refine ⟨fun i m σ H => i <= xs.length /\ m = xs.length - i /\ Pv i σ H, ⟨xs.length, Nat.zero_le _, rfl, h0⟩, ?_⟩
  rintro i m σ H ⟨hi, rfl, hp⟩
  have s := hsm i σ H hp
  by_cases e : i = xs.length
  · subst e; exact .inl ⟨hw.stop H s, hd σ H hp⟩
  · have hlt : i < xs.length := by omega
    have hx : xs[i]? = some xs[i] := by simp [hlt]
    refine .inr ⟨hw.go H s i _ hx, Pv (i + 1), fun σ' H' q => ⟨xs.length - (i + 1), by omega, by omega, rfl, q⟩, fun x H' hy => ?_⟩
    obtain ⟨q, rfl, hq, rfl⟩ := hw.yld H s i _ _ _ hx hy
    refine ⟨q, _, rfl, SqT.of upd_same, rfl, _, _, rfl, _, _, rfl, rfl, ?_⟩
    exact hs i xs[i].1 xs[i].2 q σ H hx hp hq
noncomputable def but (H : Hp) (c : Addr) : Hp := fun b => if b = c then none else H b
theorem but_ne {H : Hp} {c b : Addr} (h : b ≠ c) : but H c b = H b := by unfold but; rw [if_neg h]
theorem but_some {H : Hp} {c b : Addr} {o : HO} (h : but H c b = some o) : b ≠ c /\ H b = some o := by
  unfold but at h
  split at h
  · cases h
  · rename_i hb; exact ⟨hb, h⟩
end L2
namespace GP
open PySem L2 GT GM
noncomputable def dL (ks : Tx) : List (Key × V) := ks.map fun e => (Sum.inr (tx [e]), V.bl true)
theorem key_inj {a b : Nat} (h : (Sum.inr (tx [a]) : Key) = Sum.inr (tx [b])) : a = b := (List.cons.inj (tx_inj (Sum.inr.inj h))).1
theorem dL_any (ks : Tx) (e : Nat) : ((dL ks).any fun kv => decide (kv.1 = (Sum.inr (tx [e]) : Key))) = decide (e ∈ ks) := by
  rw [Bool.eq_iff_iff, List.any_eq_true, decide_eq_true_eq]
  constructor
  · rintro ⟨kv, h1, h2⟩
    obtain ⟨g, hg, rfl⟩ := List.mem_map.mp h1
    rw [decide_eq_true_eq] at h2
    rw [<- key_inj h2]; exact hg
  · intro h
    exact ⟨_, List.mem_map.mpr ⟨e, h, rfl⟩, by rw [decide_eq_true_eq]⟩
theorem dL_put (ks : Tx) (e : Nat) : putK (dL ks) (Sum.inr (tx [e])) (V.bl true) = dL (if e ∈ ks then ks else ks ++ [e]) := by
  unfold putK
  rw [dL_any]
  by_cases h : e ∈ ks
  · rw [if_pos (decide_eq_true h), if_pos h]
    unfold dL
    rw [List.map_map]
    refine List.map_congr_left fun g _ => ?_
    show (if (Sum.inr (tx [g]) : Key) = Sum.inr (tx [e]) then _ else _) = _
    split <;> rfl
  · rw [if_neg (by rw [decide_eq_true_eq]; exact h), if_neg h]
    unfold dL
    rw [List.map_append]; rfl
end GP
namespace L2
open PySem PySem.Spec PyProof.Rows GT
section
variable {X : Cx}
theorem pi_listK (K : PySem.W.Frag) {tg l : Expr} {tl : TE} (hl : PE X l tl) (hK : X.K = K := by rfl) : PI X tg l (iList K tl) := by subst hK; exact pi_list hl
inductive SumK (K : PySem.W.Frag) (xs : List V) (H : Hp) (Q : VK) : Prop
  | mk (p : Addr) (ns : List Int) (e : xs = [.ref p]) (c : true = true) (h : SqL K H p (ns.map V.int)) (q : Q (.int ns.sum) H) : SumK K xs H Q
theorem call_sumKK (K : PySem.W.Frag) (hc : X.calm = true := by rfl) (hK : X.K = K := by rfl) : CallR X (.builtin "sum") (SumK K) := by
  subst hK
  intro pins s σ H xs us Q I r h
  obtain ⟨p, ns, e, _, h, q⟩ := h
  exact call_sum pins s σ H xs us Q I r ⟨p, ns, e, hc, h, q⟩
inductive AllK (K : PySem.W.Frag) (xs : List V) (H : Hp) (Q : VK) : Prop
  | mk (p : Addr) (bs : List Bool) (e : xs = [.ref p]) (c : true = true) (h : SqL K H p (bs.map V.bl)) (q : Q (.bl (bs.all id)) H) : AllK K xs H Q
theorem call_allKK (K : PySem.W.Frag) (hc : X.calm = true := by rfl) (hK : X.K = K := by rfl) : CallR X (.builtin "all") (AllK K) := by
  subst hK
  intro pins s σ H xs us Q I r h
  obtain ⟨p, ns, e, _, h, q⟩ := h
  exact call_all pins s σ H xs us Q I r ⟨p, ns, e, hc, h, q⟩
inductive LenK (K : PySem.W.Frag) (xs : List V) (H : Hp) (Q : VK) : Prop
  | mk (p : Addr) (ys : List V) (e : xs = [.ref p]) (h : SqL K H p ys \/ SqT K H p ys) (q : Q (.int ys.length) H) : LenK K xs H Q
theorem call_lenKK (K : PySem.W.Frag) (hK : X.K = K := by rfl) : CallR X (.builtin "len") (LenK K) := by
  subst hK
  intro pins s σ H xs us Q I r h
  obtain ⟨p, ns, e, h, q⟩ := h
  exact call_len_seq pins s σ H xs us Q I r ⟨p, ns, e, h, q⟩
inductive LenS (xs : List V) (H : Hp) (Q : VK) : Prop
  | mk (z : Str) (e : xs = [.str z]) (h : z.length <= sizeLine) (q : Q (.int z.length) H) : LenS xs H Q
theorem call_lenSS : CallR X (.builtin "len") LenS := by
  intro pins s σ H xs us Q I r h
  obtain ⟨z, e, h, q⟩ := h
  exact call_len_str pins s σ H xs us Q I r ⟨z, e, h, q⟩
inductive IxL (K : PySem.W.Frag) (x y : V) (H : Hp) (Q : VK) : Prop
  | mk (p : Addr) (xs : List V) (i : Int) (v : V) (e : x = .ref p) (f : y = .int i) (h : SqL K H p xs) (g : atI xs i = some v) (q : Q v H) : IxL K x y H Q
theorem ix_listKK (K : PySem.W.Frag) (hK : X.K = K := by rfl) : IxR X (IxL K) := by
  subst hK
  intro value slice pins s σ H x y v u Q I rx ry h hs
  obtain ⟨p, xs, i, v, e, f, h, g, q⟩ := h
  exact ix_list value slice pins s σ H x y _ _ Q I rx ry ⟨p, xs, i, v, e, f, h, g, q⟩ hs
inductive IxS (x y : V) (H : Hp) (Q : VK) : Prop
  | mk (z : Str) (i : Int) (c : Nat) (e : x = .str z) (f : y = .int i) (h : z.length <= sizeLine) (g : atI z.cps.toList i = some c) (q : Q (.str ⟨#[c]⟩) H) : IxS x y H Q
theorem ix_strS : IxR X IxS := by
  intro value slice pins s σ H x y v u Q I rx ry h hs
  obtain ⟨z, i, c, e, f, h, g, q⟩ := h
  exact ix_str value slice pins s σ H x y _ _ Q I rx ry ⟨z, i, c, e, f, h, g, q⟩ hs
inductive Appd (x : V) (vs : List V) (H : Hp) (Q : VK) : Prop
  | mk (l : Addr) (xs : List V) (y : V) (e : x = .ref l) (f : vs = [y]) (h : H l = some (.lst xs)) (z : xs.length < sizeLine) (q : Q .non (upd H l (.lst (xs ++ [y])))) : Appd x vs H Q
theorem mt_appendS : MtM X "list.append" Appd := by
  intro pins s σ H x vs v us Q I rx rv h
  obtain ⟨l, xs, y, e, f, h, z, q⟩ := h
  exact mt_append pins s σ H x vs v us Q I rx rv ⟨l, xs, y, e, f, h, z, q⟩
theorem op_neLK (K : PySem.W.Frag) (hu : X.A.units + 1 < cLine) (hK : X.K = K := by rfl) : OpR X (compareOp .NotEq) (rSame K false) := by subst hK; exact op_neL hu
theorem op_eqLK (K : PySem.W.Frag) (hu : X.A.units + 1 < cLine) (hK : X.K = K := by rfl) : OpR X (compareOp .Eq) (rSame K true) := by subst hK; exact op_eqL hu
inductive IsiK (K : PySem.W.Frag) (xs : List V) (H : Hp) (Q : VK) : Prop
  | mk (x c : V) (t cv : Value) (b : Bool) (e : xs = [x, c]) (f : ClsV c cv) (g : TyOf K H x t) (h : PySem.W.kitOne K t cv = some b) (q : Q (.bl b) H) : IsiK K xs H Q
theorem call_isiKK (K : PySem.W.Frag) (hK : X.K = K := by rfl) : CallR X (.builtin "isinstance") (IsiK K) := by
  subst hK
  intro pins s σ H xs us Q I r h
  obtain ⟨x, c, t, cv, b, e, f, g, h, q⟩ := h
  exact call_isinst pins s σ H xs us Q I r ⟨x, c, t, cv, b, e, f, g, h, q⟩
theorem ix_tupK (K : PySem.W.Frag) (hK : X.K = K := by rfl) : IxR X (rIxT K) := by subst hK; exact ix_tup
inductive FldK (K : PySem.W.Frag) (f : Str) (x : V) (H : Hp) (Q : VK) : Prop
  | mk (a C dx : Addr) (fs : List (Str × V)) (v : V) (e : x = .ref a) (h : H a = some (.ins C dx fs)) (c : Cls K C) (n : NoAttr K C f) (l : fs.lookup f = some v) (q : Q v H) : FldK K f x H Q
noncomputable def tFldK (K : PySem.W.Frag) (ta : TE) (f : Str) : TE := fun σ H Q => ta σ H fun x H1 => FldK K f x H1 Q
theorem pe_fldKK (K : PySem.W.Frag) {e : Expr} {f : Str} {ta : TE} {pos : Pos} (he : PE X e ta) (hb : attributeBase e f X.env (eval e X.env) = eval e X.env) (hK : X.K = K := by rfl) : PE X (.Attribute e f pos) (tFldK K ta f) := by
  subst hK
  intro pins s σ H Q I h
  refine attr_of hb (thn (he pins s σ H _ I h) fun u s1 ⟨x, H1, I1, rx, q1⟩ => ?_)
  obtain ⟨a, C, dx, fs, v, ex, ea, c, n, l, q⟩ := q1
  subst ex
  obtain rfl : u = Value.ref a := rx
  exact getattr_ok I1 ea c n l fun u' s2 I2 ru => ⟨v, H1, I2, ru, q⟩
theorem pg_tupK (K : PySem.W.Frag) {es : List Expr} {k : Nat} {t : TGs} {n : Nat} {pos : Pos} (hc : X.calm = true) (h : PGs X es t) (hn : (assignEach es X.env).length = n := by rfl) (hst : (assignEach es X.env).findIdx? (·.1) = none := by rfl) (hK : X.K = K := by rfl) : PG X (.Tuple es k pos) (gTup K n t) := by subst hK; exact pg_tup hc h hn hst
theorem pe_bmK (K : PySem.W.Frag) {o e : Expr} {es : List Expr} {to : TE} {t : TA} {name : Str} {apos cpos : Pos} {T id : String} {r : V -> List V -> Hp -> VK -> Prop} (pa : PlainAttrs T) (slot : Slot T name id) (hty : typeOf (.builtin id) = pure (.type "method_descriptor")) (hm : MtR X id r) (ho : PE X o to) (ha : PA X (e :: es) t)
    (hbase : attributeBase o name X.env (eval o X.env) = eval o X.env := by rfl)
    (hfew : ((backTo cpos (starEach (e :: es) X.env)).all (fun x => !x.1) && (backToKw cpos (keywordEach [] X.env)).all (fun x => x.1.isSome)
      && decide ((e :: es).length + ([] : List Keyword).length + (if ([] : List Keyword).isEmpty then 0 else 1) < 30)) = true := by rfl)
    (hline : (apos.endLine == cpos.line) = true := by rfl) (hs : starEach (e :: es) X.env = (false, eval e X.env) :: starEach es X.env := by rfl) (hplain : (backTo cpos (starEach es X.env)).any (·.1) = false := by rfl) (hK : X.K = K := by rfl) :
    PE X (.Call (.Attribute o name apos) (e :: es) [] cpos) (tBM K T r to t) := by subst hK; exact pe_bm pa slot hty hm ho ha hbase hfew hline hs hplain
end
end L2
namespace GS
open PySem PySem.Spec PyProof.Rows
section
variable {prog : Program} {w : World} {A : Around} {E : Value -> Shared -> Prop} {s : Shared}
noncomputable def SetL (prog : Program) (w : World) (h : Heap) (a : Addr) (S : Str -> Bool) (n : Nat) : Prop :=
  ∃ o es ep t, h.get? a = some o /\ o.ExactSet /\ o.data = .set es ep t /\ ElemsOf (strKind prog w) es.toList /\ (∀ k, S k = true ↔ ∃ e ∈ es.toList, (strKind prog w).is k e.2 = true) /\ es.size < scanBound /\ t.fits es.size = true /\ es.size = n
    /\ t.led = !w.params.followText "set-order" /\ (0 < n -> t.plain = false)
theorem SetL.setOf {h : Heap} {a : Addr} {S : Str -> Bool} {n : Nat} (x : SetL prog w h a S n) : h.SetOf (strKind prog w) a S n := by
  obtain ⟨o, es, ep, t, h1, h2, h3, h4, h5, h6, h7, h8, _⟩ := x
  exact ⟨o, es, ep, t, h1, h2, h3, h4, h5, h6, h7, h8⟩
theorem SetL.congr {h : Heap} {a : Addr} {S S' : Str -> Bool} {n n' : Nat} (x : SetL prog w h a S n) (e : ∀ k, S k = S' k) (en : n = n') : SetL prog w h a S' n' := by
  have : S = S' := funext e
  subst this; subst en; exact x
theorem SetL.keep {h h' : Heap} {a : Addr} {S : Str -> Bool} {n : Nat} (x : SetL prog w h a S n) (k : ∀ o, h.get? a = some o -> h'.get? a = some o) : SetL prog w h' a S n := by
  obtain ⟨o, es, ep, t, h1, r⟩ := x
  exact ⟨o, es, ep, t, k _ h1, r⟩
end
end GS
namespace GS
open PySem PySem.Spec PyProof.Rows
section
variable {prog : Program} {w : World} {A : Around} {E : Value -> Shared -> Prop}
theorem erase_perm {α : Type} : ∀ {l : List α} {i : Nat} (h : i < l.length), (l[i] :: l.eraseIdx i).Perm l
  | x :: xs, 0, _ => List.Perm.refl _
  | x :: xs, i + 1, h => by
    have h' : i < xs.length := Nat.lt_of_succ_lt_succ h
    show (xs[i] :: x :: xs.eraseIdx i).Perm (x :: xs)
    exact (List.Perm.swap _ _ _).trans (List.Perm.cons _ (erase_perm h'))
end
end GS
namespace GS
open PySem PySem.Spec PyProof.Rows
namespace F2
theorem slot_next : Slot "set_iterator" "__next__" "set_iterator.__next__" :=
  .of (owner := "set_iterator") (n := "__next__") (by rw [typeLookup_type, builtinLookup_eq_fast]; kernel_rfl) (by decide +kernel) (by decide +kernel) (by decide +kernel)
    (by first | exact .inl (by decide +kernel) | exact .inr (by decide +kernel)) (by rw [isSubtype_type]; kernel_rfl)
theorem slot_iter : Slot "set_iterator" "__iter__" "set_iterator.__iter__" :=
  .of (owner := "set_iterator") (n := "__iter__") (by rw [typeLookup_type, builtinLookup_eq_fast]; kernel_rfl) (by decide +kernel) (by decide +kernel) (by decide +kernel)
    (by first | exact .inl (by decide +kernel) | exact .inr (by decide +kernel)) (by rw [isSubtype_type]; kernel_rfl)
theorem entry_next : entryFor table "set_iterator.__next__" = some Builtin.«set_iterator.__next__» := entryFor_of_tree (by kernel_rfl)
theorem entry_iter : entryFor table "set_iterator.__iter__" = some Builtin.«dict_keyiterator.__iter__» :=
  entryFor_alias (id' := "dict_keyiterator.__iter__") (by kernel_rfl) (by first | rfl | decide +kernel) (by decide +kernel) (by kernel_rfl)
theorem args_next (a : Value) : argsOk "set_iterator.__next__" ⟨[a], []⟩ := by unfold argsOk; kernel_rfl
theorem args_iter (a : Value) : argsOk "set_iterator.__iter__" ⟨[a], []⟩ := by unfold argsOk; kernel_rfl
end F2
noncomputable def SAt (h : Heap) (a : Addr) (es : Array (Int × Value)) (ep : Nat) (t : SetTable) : Prop := ∃ o, h.get? a = some o /\ o.data = .set es ep t /\ t.fits es.size = true
end GS
namespace GS
open PySem PySem.Spec PyProof.Rows
theorem pick_go {α : Type} (next : Nat -> Nat) : ∀ (fuel k : Nat) (left : List α) (out : Array α), fuel = left.length -> (pickOrder.go next fuel k left out).toList.Perm (out.toList ++ left)
  | 0, k, [], out, _ => by unfold pickOrder.go; simp
  | fuel + 1, k, x :: xs, out, h => by
    unfold pickOrder.go
    have hi : next k % (x :: xs).length < (x :: xs).length := Nat.mod_lt _ (by simp)
    rw [List.getElem?_eq_getElem hi]
    dsimp only
    have hl : fuel = ((x :: xs).eraseIdx (next k % (x :: xs).length)).length := by rw [List.length_eraseIdx_of_lt hi, <- h]; rfl
    refine (pick_go next fuel (k + 1) _ _ hl).trans ?_
    rw [Array.toList_push, List.append_assoc]
    exact List.Perm.append_left _ (erase_perm hi)
theorem pick_perm {α : Type} (next : Nat -> Nat) (xs : Array α) : (pickOrder next xs).toList.Perm xs.toList := by
  have := pick_go next xs.size 0 xs.toList #[] (by simp)
  simpa [pickOrder] using this
section
variable {prog : Program} {w : World} {A : Around} {E : Value -> Shared -> Prop} {s : Shared} {it a : Addr} {es : Array (Int × Value)} {ep : Nat} {t : SetTable}
noncomputable def TAt (h : Heap) (p : Addr) (pl : List Nat) : Prop := ∃ o, h.get? p = some o /\ o.data = .seq (pl.map fun (i : Nat) => rawInt i).toArray
end
end GS
namespace GS
open PySem PySem.Spec PyProof.Rows
section
variable {prog : Program} {w : World} {A : Around} {I a p : Addr} {es : Array (Int × Value)} {ep : Nat} {t : SetTable}
theorem SAt.keep {h h' : Heap} (x : SAt h a es ep t) (k : ∀ o, h.get? a = some o -> h'.get? a = some o) : SAt h' a es ep t := by
  obtain ⟨o, h1, r⟩ := x
  exact ⟨o, k _ h1, r⟩
theorem TAt.keep {h h' : Heap} {pl : List Nat} (x : TAt h p pl) (k : ∀ o, h.get? p = some o -> h'.get? p = some o) : TAt h' p pl := by
  obtain ⟨o, h1, r⟩ := x
  exact ⟨o, k _ h1, r⟩
end
end GS
namespace GP
open PySem L2 GT GM
noncomputable def PairAt (n : Nat) (H : Hp) (v : V) : Prop := ∃ q c d, v = .ref q /\ H q = some (.tup [sv [c], sv [d]]) /\ Let n c /\ Let n d
theorem PairAt.same {n : Nat} {H H' : Hp} {v : V} (h : PairAt n H v) (s : Same H H') : PairAt n H' v := by
  obtain ⟨q, c, d, e, h1, r⟩ := h
  exact ⟨q, c, d, e, s _ _ h1, r⟩
noncomputable def FoundAt (CT CS : Addr) (R : Ru) (c d : Nat) (H : Hp) (p dx : Addr) : Prop := (∃ t : Nat, t < R.length /\ d ∈ grow R t [c] /\ H p = some (.ins CT dx (putF "many" (.int (t : Nat)) []))) \/ (∃ L, ShutIs R L c d /\ H p = some (.ins CS dx (putF "letters" (sv L) [])))
theorem FoundAt.same {CT CS : Addr} {R : Ru} {c d : Nat} {H H' : Hp} {p dx : Addr} (h : FoundAt CT CS R c d H p dx) (s : Same H H') : FoundAt CT CS R c d H' p dx := by
  rcases h with ⟨t, h1, h2, h3⟩ | ⟨L, h1, h2⟩
  · exact .inl ⟨t, h1, h2, s _ _ h3⟩
  · exact .inr ⟨L, h1, s _ _ h2⟩
end GP
namespace GM
noncomputable def sumN : Nat -> (Nat -> Int) -> Int
  | 0, _ => 0
  | m + 1, f => sumN m f + f m
theorem sumN_congr : ∀ {m : Nat} {f g : Nat -> Int}, (∀ i, i < m -> f i = g i) -> sumN m f = sumN m g
  | 0, _, _, _ => rfl
  | m + 1, f, g, h => by
    show sumN m f + f m = sumN m g + g m
    rw [sumN_congr fun i hi => h i (Nat.lt_succ_of_lt hi), h m (Nat.lt_succ_self _)]
theorem sumN_zero : ∀ (m : Nat), sumN m (fun _ => 0) = 0
  | 0 => rfl
  | m + 1 => by show sumN m (fun _ => 0) + 0 = 0; rw [sumN_zero m]; rfl
theorem sumN_zero' {m : Nat} {f : Nat -> Int} (h : ∀ i, i < m -> f i = 0) : sumN m f = 0 := (sumN_congr h).trans (sumN_zero m)
theorem sumN_add : ∀ (m : Nat) (f g : Nat -> Int), sumN m (fun i => f i + g i) = sumN m f + sumN m g
  | 0, _, _ => rfl
  | m + 1, f, g => by
    show sumN m (fun i => f i + g i) + (f m + g m) = (sumN m f + f m) + (sumN m g + g m)
    rw [sumN_add m f g]; omega
theorem sumN_mul (c : Int) : ∀ (m : Nat) (f : Nat -> Int), sumN m (fun i => c * f i) = c * sumN m f
  | 0, _ => by show (0 : Int) = c * 0; rw [Int.mul_zero]
  | m + 1, f => by
    show sumN m (fun i => c * f i) + c * f m = c * (sumN m f + f m)
    rw [sumN_mul c m f, Int.mul_add]
theorem sumN_mulr (c : Int) (m : Nat) (f : Nat -> Int) : sumN m (fun i => f i * c) = sumN m f * c := by
  rw [Int.mul_comm, <- sumN_mul]
  exact sumN_congr fun i _ => Int.mul_comm _ _
theorem sumN_swap : ∀ (n m : Nat) (f : Nat -> Nat -> Int), sumN n (fun i => sumN m (fun k => f i k)) = sumN m (fun k => sumN n (fun i => f i k))
  | 0, m, f => (sumN_zero m).symm
  | n + 1, m, f => by
    show sumN n (fun i => sumN m (fun k => f i k)) + sumN m (fun k => f n k) = sumN m (fun k => sumN n (fun i => f i k) + f n k)
    rw [sumN_swap n m f, sumN_add]
noncomputable def skip (p j : Nat) : Nat := if j < p then j else j + 1
theorem skip_sum : ∀ (m p : Nat) (f : Nat -> Int), p <= m -> sumN (m + 1) f = f p + sumN m (fun j => f (skip p j))
  | 0, p, f, h => by
    have : p = 0 := by omega
    subst this
    show 0 + f 0 = f 0 + 0
    omega
  | m + 1, p, f, h => by
    show sumN (m + 1) f + f (m + 1) = f p + (sumN m (fun j => f (skip p j)) + f (skip p m))
    by_cases hp : p = m + 1
    · subst hp
      have e : sumN (m + 1) f = sumN (m + 1) (fun j => f (skip (m + 1) j)) := sumN_congr fun i hi => by unfold skip; rw [if_pos hi]
      rw [e]
      show sumN m (fun j => f (skip (m + 1) j)) + f (skip (m + 1) m) + f (m + 1) = _
      omega
    · have hpm : p <= m := by omega
      rw [skip_sum m p f hpm]
      have e : skip p m = m + 1 := by unfold skip; rw [if_neg (by omega)]
      rw [e]; omega
theorem dep : ∀ (n : Nat) (v : Nat -> Nat -> Int), ∃ c : Nat -> Int, (∃ i, i <= n /\ c i ≠ 0) /\ ∀ k, k < n -> sumN (n + 1) (fun i => c i * v i k) = 0
  | 0, v => ⟨fun _ => 1, ⟨0, Nat.le_refl _, by decide⟩, fun k hk => absurd hk (Nat.not_lt_zero _)⟩
  | n + 1, v => by
    by_cases hp : ∃ p, p <= n + 1 /\ v p n ≠ 0
    · obtain ⟨p, hpn, hv⟩ := hp
      obtain ⟨d, ⟨j, hj, hdj⟩, hd⟩ := dep n (fun j k => v p n * v (skip p j) k - v (skip p j) n * v p k)
      have key : ∀ k, k < n + 1 -> sumN (n + 1) (fun j => d j * (v p n * v (skip p j) k - v (skip p j) n * v p k)) = 0 := fun k hk => by
        by_cases hkn : k = n
        · subst hkn
          refine sumN_zero' fun i _ => ?_
          rw [Int.mul_comm (v (skip p i) k) (v p k), Int.sub_self, Int.mul_zero]
        · exact hd k (by omega)
      refine ⟨fun i => if i = p then - sumN (n + 1) (fun j => d j * v (skip p j) n) else if i < p then d i * v p n else d (i - 1) * v p n, ⟨skip p j, by unfold skip; split <;> omega, ?_⟩, fun k hk => ?_⟩
      · have hne : skip p j ≠ p := by unfold skip; split <;> omega
        show (if skip p j = p then _ else if skip p j < p then d (skip p j) * v p n else d (skip p j - 1) * v p n) ≠ 0
        rw [if_neg hne]
        unfold skip
        by_cases hjp : j < p
        · rw [if_pos hjp, if_pos hjp]; exact Int.mul_ne_zero hdj hv
        · rw [if_neg hjp, if_neg (by omega)]; exact Int.mul_ne_zero hdj hv
      · rw [skip_sum (n + 1) p _ hpn]
        show (if p = p then - sumN (n + 1) (fun j => d j * v (skip p j) n) else _) * v p k + _ = 0
        rw [if_pos rfl]
        have e : sumN (n + 1) (fun j => (if skip p j = p then - sumN (n + 1) (fun j => d j * v (skip p j) n) else if skip p j < p then d (skip p j) * v p n else d (skip p j - 1) * v p n) * v (skip p j) k) = sumN (n + 1) (fun j => d j * (v p n * v (skip p j) k)) := sumN_congr fun i hi => by
          have hne : skip p i ≠ p := by unfold skip; split <;> omega
          rw [if_neg hne]
          have e2 : (if skip p i < p then d (skip p i) * v p n else d (skip p i - 1) * v p n) = d i * v p n := by
            by_cases hip : i < p
            · have e3 : skip p i = i := by unfold skip; rw [if_pos hip]
              rw [e3, if_pos hip]
            · have e3 : skip p i = i + 1 := by unfold skip; rw [if_neg hip]
              rw [e3, if_neg (by omega), Nat.add_sub_cancel]
          rw [e2, Int.mul_assoc]
        rw [e, Int.neg_mul, <- sumN_mulr]
        have e4 := key k hk
        have e5 : sumN (n + 1) (fun j => d j * (v p n * v (skip p j) k - v (skip p j) n * v p k)) = sumN (n + 1) (fun j => d j * (v p n * v (skip p j) k)) - sumN (n + 1) (fun j => d j * v (skip p j) n * v p k) := by
          have := sumN_add (n + 1) (fun j => d j * (v p n * v (skip p j) k - v (skip p j) n * v p k)) (fun j => d j * v (skip p j) n * v p k)
          have e6 : sumN (n + 1) (fun j => d j * (v p n * v (skip p j) k - v (skip p j) n * v p k) + d j * v (skip p j) n * v p k) = sumN (n + 1) (fun j => d j * (v p n * v (skip p j) k)) := sumN_congr fun i _ => by
            rw [Int.mul_sub, <- Int.mul_assoc (d i) (v (skip p i) n) (v p k)]; omega
          rw [e6] at this
          omega
        rw [e5] at e4
        omega
    · obtain ⟨c, ⟨i, hi, hci⟩, hc⟩ := dep n v
      refine ⟨fun i => if i <= n then c i else 0, ⟨i, by omega, by show (if i <= n then c i else 0) ≠ 0; rw [if_pos hi]; exact hci⟩, fun k hk => ?_⟩
      show sumN (n + 1) (fun i => (if i <= n then c i else 0) * v i k) + (if n + 1 <= n then c (n + 1) else 0) * v (n + 1) k = 0
      rw [if_neg (by omega), Int.zero_mul, Int.add_zero]
      by_cases hkn : k = n
      · subst hkn
        refine sumN_zero' fun i hi => ?_
        have : v i k = 0 := Classical.byContradiction fun z => hp ⟨i, by omega, z⟩
        rw [this, Int.mul_zero]
      · rw [<- hc k (by omega)]
        exact sumN_congr fun i hi => by rw [if_pos (by omega)]
theorem recur {n : Nat} {A w : Nat -> Nat -> Int} {g : Nat -> Int} (hw : ∀ t k, k < n -> w (t + 1) k = sumN n (fun m => A k m * w t m)) (h0 : ∀ t, t < n -> sumN n (fun k => g k * w t k) = 0) : ∀ t, sumN n (fun k => g k * w t k) = 0 := by
  obtain ⟨c, ⟨i0, hi0, hc0⟩, hc⟩ := dep n w
  have later : ∀ s k, k < n -> sumN (n + 1) (fun i => c i * w (i + s) k) = 0 := by
    intro s
    induction s with
    | zero => intro k hk; exact hc k hk
    | succ s ih =>
      intro k hk
      have e : sumN (n + 1) (fun i => c i * w (i + (s + 1)) k) = sumN (n + 1) (fun i => sumN n (fun m => A k m * (c i * w (i + s) m))) := sumN_congr fun i _ => by
        show c i * w (i + s + 1) k = _
        rw [hw (i + s) k hk, <- sumN_mul]
        exact sumN_congr fun m _ => by rw [<- Int.mul_assoc, <- Int.mul_assoc, Int.mul_comm (c i)]
      rw [e, sumN_swap]
      refine sumN_zero' fun m hm => ?_
      rw [sumN_mul, ih m hm, Int.mul_zero]
  have later2 : ∀ s, sumN (n + 1) (fun i => c i * sumN n (fun k => g k * w (i + s) k)) = 0 := by
    intro s
    have e : sumN (n + 1) (fun i => c i * sumN n (fun k => g k * w (i + s) k)) = sumN (n + 1) (fun i => sumN n (fun k => g k * (c i * w (i + s) k))) := sumN_congr fun i _ => by
      rw [<- sumN_mul]
      exact sumN_congr fun k _ => by rw [<- Int.mul_assoc, <- Int.mul_assoc, Int.mul_comm (c i)]
    rw [e, sumN_swap]
    refine sumN_zero' fun k hk => ?_
    rw [sumN_mul, later s k hk, Int.mul_zero]
  have top : ∃ T, T <= n /\ c T ≠ 0 /\ ∀ i, T < i -> i <= n -> c i = 0 := by
    have : ∀ m, (∃ i, i <= n /\ c i ≠ 0 /\ n - i <= m) -> ∃ T, T <= n /\ c T ≠ 0 /\ ∀ i, T < i -> i <= n -> c i = 0 := by
      intro m
      induction m with
      | zero =>
        rintro ⟨i, h1, h2, h3⟩
        exact ⟨i, h1, h2, fun j h4 h5 => by omega⟩
      | succ m ih =>
        rintro ⟨i, h1, h2, h3⟩
        by_cases hx : ∃ j, i < j /\ j <= n /\ c j ≠ 0
        · obtain ⟨j, h4, h5, h6⟩ := hx
          exact ih ⟨j, h5, h6, by omega⟩
        · exact ⟨i, h1, h2, fun j h4 h5 => Classical.byContradiction fun z => hx ⟨j, h4, h5, z⟩⟩
    exact this n ⟨i0, hi0, hc0, by omega⟩
  obtain ⟨T, hT, hcT, htop⟩ := top
  intro t
  induction t using Nat.strongRecOn with
  | _ t ih =>
    by_cases htn : t < n
    · exact h0 t htn
    · have h := later2 (t - T)
      rw [skip_sum n T _ hT] at h
      have z : sumN n (fun j => c (skip T j) * sumN n (fun k => g k * w (skip T j + (t - T)) k)) = 0 := sumN_zero' fun j hj => by
        by_cases hjT : j < T
        · have e : skip T j = j := by unfold skip; rw [if_pos hjT]
          rw [e, ih (j + (t - T)) (by omega), Int.mul_zero]
        · have e : skip T j = j + 1 := by unfold skip; rw [if_neg hjT]
          rw [e, htop (j + 1) (by omega) (by omega), Int.zero_mul]
      rw [z, Int.add_zero, show T + (t - T) = t by omega] at h
      exact (Int.mul_eq_zero.mp h).resolve_left hcT
end GM
namespace GM
noncomputable def gap (u v : List Int) : List Int := List.zipWith (· - ·) u v
theorem gap_length {u v : List Int} (h : u.length = v.length) : (gap u v).length = u.length := by unfold gap; rw [List.length_zipWith]; omega
theorem sumN_list : ∀ (n : Nat) (f : Nat -> Int), sumN n f = ((List.range n).map f).sum
  | 0, _ => rfl
  | n + 1, f => by
    show sumN n f + f n = _
    rw [List.range_succ, List.map_append, List.sum_append, <- sumN_list n f]
    simp
theorem weigh_sumN {n : Nat} {u v : List Int} (hu : u.length = n) (hv : v.length = n) : weigh u v = sumN n (fun k => u.getD k 0 * v.getD k 0) := by
  rw [sumN_list]
  unfold weigh
  congr 1
  apply List.ext_getElem?
  intro k
  by_cases hk : k < n
  · rw [List.getElem?_zipWith, List.getElem?_map, List.getElem?_range hk, List.getElem?_eq_getElem (show k < u.length by omega), List.getElem?_eq_getElem (show k < v.length by omega)]
    simp [List.getD_eq_getElem?_getD, List.getElem?_eq_getElem (show k < u.length by omega), List.getElem?_eq_getElem (show k < v.length by omega)]
  · rw [List.getElem?_eq_none (by rw [List.length_zipWith]; omega), List.getElem?_eq_none (by rw [List.length_map, List.length_range]; omega)]
theorem weigh_gap : ∀ {u v w : List Int}, u.length = v.length -> weigh (gap u v) w = weigh u w - weigh v w
  | [], [], w, _ => by cases w <;> rfl
  | a :: u, b :: v, [], _ => rfl
  | a :: u, b :: v, c :: w, h => by
    show ((a - b) * c + weigh (gap u v) w) = (a * c + weigh u w) - (b * c + weigh v w)
    rw [weigh_gap (Nat.succ.inj h), Int.sub_mul]; omega
theorem alike {R : Ru} (hR : OkRu R) {x y : Tx} (hx : OkTx R.length x) (hy : OkTx R.length y) (h : ∀ t, t < R.length -> (grow R t x).length = (grow R t y).length) (t : Nat) : (grow R t x).length = (grow R t y).length := by
  have hl : (cnt R.length x).length = (cnt R.length y).length := by rw [cnt_length, cnt_length]
  have key : ∀ t, sumN R.length (fun k => (gap (cnt R.length x) (cnt R.length y)).getD k 0 * (szs R t).getD k 0) = ((grow R t x).length : Int) - ((grow R t y).length : Int) := fun t => by
    rw [<- weigh_sumN (by rw [gap_length hl, cnt_length]) (szs_length R t), weigh_gap hl, weigh_szs hR t hx, weigh_szs hR t hy]
  have := recur (n := R.length) (A := fun k m => ((table R).getD k []).getD m 0) (w := fun t k => (szs R t).getD k 0) (g := fun k => (gap (cnt R.length x) (cnt R.length y)).getD k 0)
    (fun t k hk => by
      have hkT : k < (table R).length := by rw [table_length]; exact hk
      have e : (szs R (t + 1)).getD k 0 = weigh ((table R).getD k []) (szs R t) := by
        show ((table R).map fun l => weigh l (szs R t)).getD k 0 = _
        rw [List.getD_eq_getElem?_getD, List.getElem?_map, List.getElem?_eq_getElem hkT, List.getD_eq_getElem?_getD, List.getElem?_eq_getElem hkT]; rfl
      rw [e]
      refine weigh_sumN ?_ (szs_length R t)
      rw [List.getD_eq_getElem?_getD, List.getElem?_eq_getElem hkT]
      show ((table R)[k]).length = _
      rw [table_rows R _ (List.getElem_mem hkT), table_length])
    (fun t ht => by rw [key t, h t ht]; omega) t
  rw [key t] at this
  omega
end GM
namespace GP
open PySem L2 GT GM
noncomputable abbrev LenEq (R : Ru) (x y : Tx) (t : Nat) : Prop := (grow R t x).length = (grow R t y).length
end GP
namespace GQ
noncomputable def G : Nat -> Nat -> Nat
  | 0, i => i
  | n + 1, i => G n (i * 5 + 1)
theorem G_add : ∀ m n i, G (m + n) i = G n (G m i)
  | 0, n, i => by rw [Nat.zero_add]; rfl
  | m + 1, n, i => by
    rw [show m + 1 + n = (m + n) + 1 by omega]
    show G (m + n) (i * 5 + 1) = G n (G m (i * 5 + 1))
    exact G_add m n _
theorem G_shift : ∀ n i d, G n (i + d) = G n i + 5 ^ n * d
  | 0, i, d => by simp [G]
  | n + 1, i, d => by
    show G n ((i + d) * 5 + 1) = G n (i * 5 + 1) + 5 ^ (n + 1) * d
    rw [show (i + d) * 5 + 1 = (i * 5 + 1) + 5 * d by omega, G_shift n, Nat.pow_succ, Nat.mul_assoc]
noncomputable def B : Nat -> Nat
  | 0 => 1
  | k + 1 => 2 * ((1 + 2 * B k) * B k)
theorem B_odd : ∀ k, ∃ c, B k = 2 ^ k * (2 * c + 1)
  | 0 => ⟨0, rfl⟩
  | k + 1 => by
    obtain ⟨c, e⟩ := B_odd k
    refine ⟨c + (2 * c + 1) * B k, ?_⟩
    show 2 * ((1 + 2 * B k) * B k) = _
    rw [Nat.pow_succ]
    generalize 2 ^ k = p at *
    generalize B k = b at *
    subst e
    grind
theorem G_pow : ∀ k i, G (2 ^ k) i = (1 + 4 * B k) * i + B k
  | 0, i => by show i * 5 + 1 = (1 + 4 * 1) * i + 1; omega
  | k + 1, i => by
    rw [Nat.pow_succ, Nat.mul_two, G_add, G_pow k, G_pow k]
    show _ = (1 + 4 * (2 * ((1 + 2 * B k) * B k))) * i + 2 * ((1 + 2 * B k) * B k)
    generalize B k = b
    grind
theorem G_half (k i : Nat) : ∃ d, G (2 ^ k) i = (i + 2 ^ k) + 2 ^ (k + 1) * d := by
  obtain ⟨c, e⟩ := B_odd k
  rw [G_pow]
  refine ⟨2 * (2 * c + 1) * i + c, ?_⟩
  rw [e, Nat.pow_succ]
  generalize 2 ^ k = p
  grind
theorem five_odd : ∀ n, ∃ c, 5 ^ n = 2 * c + 1
  | 0 => ⟨0, rfl⟩
  | n + 1 => by
    obtain ⟨c, e⟩ := five_odd n
    exact ⟨5 * c + 2, by rw [Nat.pow_succ, e]; omega⟩
theorem G_all : ∀ k i t, ∃ n, n < 2 ^ k /\ G n i % 2 ^ k = t % 2 ^ k
  | 0, i, t => ⟨0, by decide, by simp [Nat.mod_one]⟩
  | k + 1, i, t => by
    obtain ⟨n, hn, e⟩ := G_all k i t
    have hp : 0 < 2 ^ k := Nat.pow_pos (by decide)
    have h2 : 2 ^ (k + 1) = 2 ^ k * 2 := Nat.pow_succ ..
    have key : ∀ a b : Nat, a % 2 ^ k = b % 2 ^ k -> a % 2 ^ (k + 1) = b % 2 ^ (k + 1) \/ (a + 2 ^ k) % 2 ^ (k + 1) = b % 2 ^ (k + 1) := by
      intro a b h
      rw [h2, Nat.mod_mul, Nat.mod_mul, Nat.mod_mul, h, Nat.add_mod_right, Nat.add_div_right _ hp, h]
      have r1 : a / 2 ^ k % 2 = 0 \/ a / 2 ^ k % 2 = 1 := by omega
      have r2 : b / 2 ^ k % 2 = 0 \/ b / 2 ^ k % 2 = 1 := by omega
      have r3 : (a / 2 ^ k).succ % 2 = 1 - a / 2 ^ k % 2 := by omega
      rw [r3]
      rcases r1 with r1 | r1 <;> rcases r2 with r2 | r2 <;> rw [r1, r2] <;> simp
    rcases key _ _ e with h | h
    · exact ⟨n, by omega, h⟩
    · refine ⟨2 ^ k + n, by omega, ?_⟩
      rw [<- h, G_add]
      obtain ⟨d, hd⟩ := G_half k i
      obtain ⟨c, hc⟩ := five_odd n
      rw [hd, Nat.add_assoc, G_shift, hc]
      have : G n i + (2 * c + 1) * (2 ^ k + 2 ^ (k + 1) * d) = (G n i + 2 ^ k) + 2 ^ (k + 1) * (c + (2 * c + 1) * d) := by
        rw [h2]
        generalize 2 ^ k = p
        grind
      rw [this, Nat.add_mul_mod_self_left]
end GQ
namespace GQ
open PySem
noncomputable def walk (mask : Nat) : Nat -> Nat -> Nat -> Nat × Nat
  | 0, i, p => (i, p)
  | n + 1, i, p => walk mask n (SetTable.leap mask i p).1 (SetTable.leap mask i p).2
theorem walk_add (mask : Nat) : ∀ m n i p, walk mask (m + n) i p = walk mask n (walk mask m i p).1 (walk mask m i p).2
  | 0, n, i, p => by rw [Nat.zero_add]; rfl
  | m + 1, n, i, p => by
    rw [show m + 1 + n = (m + n) + 1 by omega]
    exact walk_add mask m n _ _
theorem walk_p (mask : Nat) : ∀ n i p, (walk mask n i p).2 = p / 32 ^ n
  | 0, i, p => by simp [walk]
  | n + 1, i, p => by
    show (walk mask n _ (p / 32)).2 = _
    rw [walk_p mask n, Nat.div_div_eq_div_mul, Nat.pow_succ, Nat.mul_comm]
theorem walk_lt (mask : Nat) : ∀ n i p, i < mask + 1 -> (walk mask n i p).1 < mask + 1
  | 0, i, p, h => h
  | n + 1, i, p, h => walk_lt mask n _ _ (Nat.mod_lt _ (Nat.succ_pos _))
theorem walk_G (mask : Nat) : ∀ n i, i < mask + 1 -> (walk mask n i 0).1 = G n i % (mask + 1)
  | 0, i, h => (Nat.mod_eq_of_lt h).symm
  | n + 1, i, h => by
    have e : SetTable.leap mask i 0 = ((i * 5 + 1) % (mask + 1), 0) := by simp [SetTable.leap]
    show (walk mask n (SetTable.leap mask i 0).1 (SetTable.leap mask i 0).2).1 = _
    rw [e, walk_G mask n _ (Nat.mod_lt _ (Nat.succ_pos _))]
    show G n _ % _ = G n (i * 5 + 1) % _
    have := G_shift n ((i * 5 + 1) % (mask + 1)) ((mask + 1) * ((i * 5 + 1) / (mask + 1)))
    rw [Nat.mod_add_div] at this
    rw [this, Nat.mul_left_comm, Nat.add_mul_mod_self_left]
theorem walk_all {mask k : Nat} (hm : mask + 1 = 2 ^ k) {i p : Nat} (hi : i < mask + 1) (hp : p < 2 ^ 65) (t : Nat) (ht : t < mask + 1) : ∃ n, n < mask + 15 /\ (walk mask n i p).1 = t := by
  have h13 : (walk mask 13 i p).2 = 0 := by
    rw [walk_p]
    exact Nat.div_eq_of_lt (by rw [show (32 : Nat) ^ 13 = 2 ^ 65 from by decide]; exact hp)
  obtain ⟨n, hn, e⟩ := G_all k (walk mask 13 i p).1 t
  refine ⟨13 + n, by omega, ?_⟩
  rw [walk_add, h13, walk_G mask n _ (walk_lt mask 13 i p hi), hm, e, <- hm, Nat.mod_eq_of_lt ht]
theorem run_ge (mask i : Nat) : i <= SetTable.runEnd mask i := by unfold SetTable.runEnd; split <;> omega
theorem free_none {mask : Nat} {owner : Array (Option Nat)} : ∀ fuel i p, SetTable.layClean.free mask owner fuel i p = none -> ∀ n, n < fuel -> (owner.getD (walk mask n i p).1 (some 0)).isNone = false
  | 0, _, _, _, n, h => by omega
  | fuel + 1, i, p, h, n, hn => by
    unfold SetTable.layClean.free at h
    split at h
    · cases h
    · rename_i hf
      cases n with
      | zero =>
        have := List.find?_eq_none.mp hf 0 (List.mem_range.mpr (by have := run_ge mask i; omega))
        rw [Nat.add_zero] at this
        exact Bool.eq_false_iff.mpr this
      | succ n => exact free_none fuel _ _ h n (by omega)
theorem free_some {mask : Nat} {owner : Array (Option Nat)} : ∀ fuel i p j, SetTable.layClean.free mask owner fuel i p = some j -> (owner.getD j (some 0)).isNone = true
  | 0, _, _, j, h => by unfold SetTable.layClean.free at h; cases h
  | fuel + 1, i, p, j, h => by
    unfold SetTable.layClean.free at h
    split at h
    · rename_i k hk
      cases h
      have := List.find?_some (p := fun k => (owner.getD (i + k) (some 0)).isNone) hk
      exact this
    · exact free_some fuel _ _ j h
theorem free_ok {mask k : Nat} (hm : mask + 1 = 2 ^ k) {owner : Array (Option Nat)} (hs : owner.size = mask + 1) (hfree : ∃ j, j < mask + 1 /\ owner.getD j (some 0) = none) (h : Int) :
    ∃ j, SetTable.layClean.free mask owner (SetTable.turns mask) (SetTable.bits h % (mask + 1)) (SetTable.bits h) = some j /\ j < mask + 1 /\ owner.getD j none = none := by
  cases hf : SetTable.layClean.free mask owner (SetTable.turns mask) (SetTable.bits h % (mask + 1)) (SetTable.bits h) with
  | none =>
    obtain ⟨t, ht, e⟩ := hfree
    have hb : SetTable.bits h < 2 ^ 65 := by
      unfold SetTable.bits
      have h1 := Int.emod_lt_of_pos h (show (0 : Int) < 2 ^ 64 by decide)
      have h2 := Int.emod_nonneg h (show (2 ^ 64 : Int) ≠ 0 by decide)
      omega
    obtain ⟨n, hn, e2⟩ := walk_all hm (i := SetTable.bits h % (mask + 1)) (p := SetTable.bits h) (Nat.mod_lt _ (Nat.succ_pos _)) hb t ht
    have := free_none _ _ _ hf n hn
    rw [e2, e] at this
    cases this
  | some j =>
    have h1 := free_some _ _ _ _ hf
    have hj : j < owner.size := by
      refine Classical.byContradiction fun hn => ?_
      rw [Array.getD, dif_neg hn] at h1
      cases h1
    refine ⟨j, rfl, by omega, ?_⟩
    have e : owner.getD j (some 0) = owner.getD j none := by rw [Array.getD, Array.getD, dif_pos hj, dif_pos hj]
    rw [e] at h1
    exact Option.isNone_iff_eq_none.mp h1
end GQ
namespace GQ
open PySem
theorem fm_congr {α : Type} {f g : Nat -> Option α} : ∀ {l : List Nat}, (∀ i ∈ l, g i = f i) -> l.filterMap g = l.filterMap f
  | [], _ => rfl
  | a :: l, h => by
    rw [List.filterMap_cons, List.filterMap_cons, h a List.mem_cons_self, fm_congr fun i hi => h i (List.mem_cons_of_mem _ hi)]
theorem fm_set {α : Type} {f g : Nat -> Option α} {j : Nat} {c : α} (hj : f j = none) (gj : g j = some c) (hg : ∀ i, i ≠ j -> g i = f i) : ∀ {l : List Nat}, l.Nodup -> j ∈ l -> (l.filterMap g).Perm (c :: l.filterMap f)
  | [], _, h => by simp at h
  | a :: l, nd, h => by
    have nd' := List.nodup_cons.mp nd
    by_cases ha : a = j
    · subst ha
      rw [List.filterMap_cons_some gj, List.filterMap_cons_none hj]
      refine List.Perm.cons _ (List.Perm.of_eq (fm_congr fun i hi => hg i fun z => nd'.1 (z ▸ hi)))
    · have hl : j ∈ l := by
        rcases List.mem_cons.mp h with z | z
        · exact absurd z.symm ha
        · exact z
      have ih := fm_set hj gj hg nd'.2 hl
      cases hf : f a with
      | none => rw [List.filterMap_cons_none hf, List.filterMap_cons_none (by rw [hg a ha]; exact hf)]; exact ih
      | some b =>
        rw [List.filterMap_cons_some hf, List.filterMap_cons_some (by rw [hg a ha]; exact hf)]
        exact (List.Perm.cons b ih).trans (List.Perm.swap ..)
theorem fm_full {α : Type} {f : Nat -> Option α} : ∀ {l : List Nat}, (∀ j ∈ l, f j ≠ none) -> (l.filterMap f).length = l.length
  | [], _ => rfl
  | a :: l, h => by
    obtain ⟨b, hb⟩ := Option.ne_none_iff_exists'.mp (h a List.mem_cons_self)
    rw [List.filterMap_cons_some hb, List.length_cons, List.length_cons, fm_full fun j hj => h j (List.mem_cons_of_mem _ hj)]
structure Own (mask c : Nat) (owner : Array (Option Nat)) : Prop where
  size : owner.size = mask + 1
  perm : ((List.range (mask + 1)).filterMap fun j => owner.getD j none).Perm (List.range c)
noncomputable def stepL (mask : Nat) (acc : Option (Array (Option Nat) × Nat)) (h : Int) : Option (Array (Option Nat) × Nat) := do
  let (owner, k) <- acc
  let j <- SetTable.layClean.free mask owner (SetTable.turns mask) (SetTable.bits h % (mask + 1)) (SetTable.bits h)
  pure (owner.setIfInBounds j (some k), k + 1)
theorem step_ok {mask k : Nat} (hm : mask + 1 = 2 ^ k) : ∀ (l : List Int) (owner : Array (Option Nat)) (c : Nat), Own mask c owner -> c + l.length <= mask -> ∃ owner', l.foldl (stepL mask) (some (owner, c)) = some (owner', c + l.length) /\ Own mask (c + l.length) owner'
  | [], owner, c, o, _ => ⟨owner, rfl, o⟩
  | h :: l, owner, c, o, hl => by
    rw [List.length_cons] at hl
    have hfree : ∃ j, j < mask + 1 /\ owner.getD j (some 0) = none := by
      refine Classical.byContradiction fun hn => ?_
      have : ((List.range (mask + 1)).filterMap fun j => owner.getD j none).length = (List.range (mask + 1)).length := fm_full fun j hj => by
        have hj' := List.mem_range.mp hj
        have e : owner.getD j (some 0) = owner.getD j none := by
          have : j < owner.size := by rw [o.size]; exact hj'
          rw [Array.getD, Array.getD, dif_pos this, dif_pos this]
        exact fun z => hn ⟨j, hj', by rw [e]; exact z⟩
      rw [o.perm.length_eq, List.length_range, List.length_range] at this
      omega
    obtain ⟨j, hj, hjl, hjn⟩ := free_ok hm o.size hfree h
    have o' : Own mask (c + 1) (owner.setIfInBounds j (some c)) := by
      refine ⟨by rw [Array.size_setIfInBounds]; exact o.size, ?_⟩
      have hjs : j < owner.size := by rw [o.size]; exact hjl
      refine (fm_set (f := fun j => owner.getD j none) (j := j) (c := c) hjn ?_ ?_ List.nodup_range (List.mem_range.mpr hjl)).trans ?_
      · simp [Array.getD_eq_getD_getElem?, hjs]
      · intro i hi
        simp [Array.getD_eq_getD_getElem?, Array.getElem?_setIfInBounds, Ne.symm hi]
      · rw [List.range_succ (n := c)]
        exact (List.Perm.cons c o.perm).trans (by simpa using (List.perm_append_comm (l₁ := [c]) (l₂ := List.range c)))
    obtain ⟨owner', e, o2⟩ := step_ok hm l _ (c + 1) o' (by omega)
    refine ⟨owner', ?_, by rw [List.length_cons]; rw [show c + (l.length + 1) = c + 1 + l.length by omega]; exact o2⟩
    rw [List.foldl_cons, List.length_cons, show c + (l.length + 1) = c + 1 + l.length by omega, <- e]
    congr 1
    simp [stepL, hj]
theorem lay_ok {mask k : Nat} (hm : mask + 1 = 2 ^ k) (hashes : Array Int) (hn : hashes.size <= mask) : ∃ owner, SetTable.layClean mask hashes = some owner /\ Own mask hashes.size owner := by
  have o0 : Own mask 0 (Array.replicate (mask + 1) none) := by
    refine ⟨by simp, ?_⟩
    have : ((List.range (mask + 1)).filterMap fun j => (Array.replicate (mask + 1) (none : Option Nat)).getD j none) = [] := by
      rw [List.filterMap_eq_nil_iff]
      intro j hj
      simp [Array.getD_eq_getD_getElem?, List.mem_range.mp hj]
    rw [this]; exact List.Perm.refl _
  obtain ⟨owner, e, o⟩ := step_ok hm hashes.toList _ 0 o0 (by rw [Array.length_toList]; omega)
  refine ⟨owner, ?_, by rw [Array.length_toList, Nat.zero_add] at o; exact o⟩
  unfold SetTable.layClean
  rw [<- Array.foldl_toList]
  show Option.map _ (hashes.toList.foldl (stepL mask) _) = _
  rw [e]; rfl
end GQ
namespace GS
open PySem PySem.Spec PyProof.Rows
section
variable {prog : Program} {w : World} {K : Type} [DecidableEq K] [BEq K] [LawfulBEq K] {knd : KeyKind prog w K} {A : Around} {E : Value -> Shared -> Prop} {s : Shared}
theorem setWalk2 {a : Addr} {o : Obj} {es : Array (Int × Value)} {ep : Nat} {t : SetTable} {Q : Array (Int × Value) -> Shared -> Prop} (ho : s.heap.get? a = some o) (hd : o.data = .set es ep t) (hf : t.fits es.size = true)
    (hc : (w.params.followText "set-order" || (t.led && t.plain) || decide (es.size <= 1)) = true)
    (h : ∀ es' : Array (Int × Value), es'.toList.Perm es.toList -> Q es' s) : wpAny (model prog w) A (setWalk a) Q E s := by
  unfold setWalk setsByText
  refine wpAny_bind (wpAny_setState_of ho hd hf ?_)
  dsimp only
  refine wpAny_bind (wpAny_bind (wpAny_askSetting (wpAny_pure ?_)))
  dsimp only
  cases hb : w.params.followText "set-order" with
  | true =>
    show wpAny _ _ (if Params.followText w.params "set-order" = true then _ else _) _ _ _
    rw [hb, if_pos rfl]
    exact wpAny_bind (wpAny_askSetting (wpAny_pure (h _ (pick_perm _ es))))
  | false =>
    show wpAny _ _ (if Params.followText w.params "set-order" = true then _ else _) _ _ _
    rw [hb, if_neg Bool.false_ne_true]
    rw [hb] at hc
    have hdr : (!t.plain && decide (es.size > 1)) = false := by
      cases h1 : t.plain <;> cases h2 : decide (es.size <= 1) <;> simp_all
    have hml : (!t.led && decide (es.size > 1)) = false := by
      cases h1 : t.led <;> cases h2 : decide (es.size <= 1) <;> simp_all
    show wpAny _ _ (if (!t.plain && decide (es.size > 1)) = true then _ else _) _ _ _
    rw [hdr, if_neg Bool.false_ne_true]
    refine wpAny_bind ?_
    show wpAny _ _ (if (!t.led && decide (es.size > 1)) = true then _ else _) _ _ _
    rw [hml, if_neg Bool.false_ne_true]
    exact wpAny_pure (wpAny_pure (h es (List.Perm.refl _)))
theorem walkUnseen2 {a b f : Addr} {S S' S'' : K -> Bool} {n n' n'' : Nat} {o : Obj} {es : Array (Int × Value)} {ep : Nat} {t : SetTable} {Q : Array (Int × Value) -> Shared -> Prop}
    (ho : s.heap.get? a = some o) (hd : o.data = .set es ep t) (hf : t.fits es.size = true) (ha : s.heap.SetOf knd a S n) (hb : s.heap.SetOf knd b S' n') (hr : s.heap.SetOf knd f S'' n'')
    (h : ∀ (es' : Array (Int × Value)) (h' : Heap), es'.toList.Perm es.toList -> h'.SetOf knd f S'' n'' -> Heap.SameBut f s.heap h' -> Q es' { s with heap := h' }) :
    wpAny (model prog w) A (setWalkUnseen a [b, f] (some f)) Q E s := by
  unfold setWalkUnseen setsByText
  refine wpAny_bind (wpAny_setState_of ho hd hf ?_)
  dsimp only
  refine wpAny_bind (wpAny_bind (wpAny_askSetting (wpAny_pure ?_)))
  dsimp only
  show wpAny _ _ (if (Params.followText w.params "set-order" || (t.led && t.plain) || decide (es.size <= 1)) = true then _ else _) _ _ _
  cases hc : (Params.followText w.params "set-order" || (t.led && t.plain) || decide (es.size <= 1)) with
  | true =>
    rw [if_pos rfl]
    exact wpAny_mono (setWalk2 ho hd hf hc fun es' he => h es' s.heap he hr (.refl ..)) (fun _ _ q => q) fun _ _ e => e
  | false =>
    rw [if_neg Bool.false_ne_true]
    refine wpAny_bind (setsQuiet_true (knd := knd) [a, b, f] (fun c hc => ?_) ?_)
    · simp at hc
      rcases hc with rfl | rfl | rfl
      · exact ⟨_, _, ha⟩
      · exact ⟨_, _, hb⟩
      · exact ⟨_, _, hr⟩
    · simp only [Bool.not_true, Bool.false_eq_true, if_false]
      refine wpAny_bind (wpAny_rule ?_)
      obtain ⟨of, ef, epf, tf, hof, hexf, hdf, helf, hmf, hbf, hff, hnf⟩ := id hr
      refine wpAny_bind (wpAny_setState_of hof hdf hff ?_)
      dsimp only
      split
      · refine wpAny_bind (wpAny_storeSet_of hof hdf ?_ (fits_of_scanBound hbf))
        obtain ⟨_, hS2⟩ := SetOf_store (knd := knd) (t' := { tf with led := tf.led && t.led, plain := tf.plain && t.plain }) hof hexf hdf helf hmf hbf (by cases tf; exact hff)
        rw [hnf] at hS2
        exact wpAny_pure (h es _ (List.Perm.refl _) hS2 (Heap.SameBut.update ..))
      · exact wpAny_pure (h es s.heap (List.Perm.refl _) hr (.refl ..))
end
section
variable {prog : Program} {w : World} {A : Around} {E : Value -> Shared -> Prop} {s : Shared}
theorem strKind_shape2 {k : Str} {v : Value} (h : (PySem.strKind prog w).is k v = true) : ∃ t, v = .str k t := by
  cases v with
  | str z t =>
    have : z = k := by simpa [PySem.strKind, Value.isStrOf] using h
    subst this; exact ⟨t, rfl⟩
  | _ => simp [PySem.strKind, Value.isStrOf] at h
set_option maxHeartbeats 400000 in
theorem sub_near {a b : Addr} {S S' : Str -> Bool} {n n' : Nat} {Q : Value -> Shared -> Prop} (ha : s.heap.SetOf (strKind prog w) a S n) (hb : s.heap.SetOf (strKind prog w) b S' n') (hn : n / 4 <= n')
    (h : ∀ h' m, h'.SetOf (strKind prog w) s.heap.objs.size (fun k => S k && !S' k) m -> (∀ c o, s.heap.get? c = some o -> h'.get? c = some o) -> Q (.ref s.heap.objs.size) { s with heap := h' }) :
    wpAny (model prog w) A (binaryOp .Sub (.ref a) (.ref b)) Q E s := by
  refine wpAny_binaryOp_same (T := "set") ha.typeIs hb.typeIs PySem.F.fills_set_sub PySem.F.slot_set_sub ?_
  refine wpAny_call_entry PySem.F.slot_set_sub ha.typeIs FB.entry_set_sub ?_ (PySem.F.args_set_sub_2 _ _)
  have t1 := ha.typeIs
  have t2 := hb.typeIs
  show wpAny _ _ (Builtin.Frozenset.slot1 "__sub__" ⟨[.ref a, .ref b], []⟩ >>= _) _ _ _
  refine wpAny_bind (m := Builtin.Frozenset.slot1 "__sub__" ⟨[.ref a, .ref b], []⟩) (wpAny_pure ?_)
  show wpAny _ _ ((Builtin.Frozenset.isAnySet (.ref a) <&&> Builtin.Frozenset.isAnySet (.ref b)) >>= _) _ _ _
  refine wpAny_bind (wpAny_bind (isAny t1 ?_))
  show wpAny _ _ (Builtin.Frozenset.isAnySet (.ref b)) _ _ _
  refine isAny t2 ?_
  simp only [Bool.not_true, Bool.false_eq_true, if_false]
  refine wpAny_bind (m := Builtin.Frozenset.addrOf (.ref a)) (wpAny_pure ?_)
  refine wpAny_bind ?_
  unfold Builtin.Frozenset.difference
  refine wpAny_bind (isAny t2 ?_)
  simp only [Bool.not_true, Bool.false_eq_true, if_false, Bool.false_and, if_true]
  refine wpAny_bind (m := Builtin.Frozenset.addrOf (.ref b)) (wpAny_pure ?_)
  obtain ⟨oa, ea, epa, ta, hoa, hexa, hda, hela, hma, hba, hfa, hna⟩ := id ha
  obtain ⟨ob, eb, epb, tb, hob, hexb, hdb, helb, hmb, hbb, hfb, hnb⟩ := id hb
  unfold Builtin.Frozenset.sizeOf
  refine wpAny_bind (wpAny_bind (wpAny_setEntries_of hob hdb hfb (wpAny_pure ?_)))
  refine wpAny_bind (wpAny_bind (wpAny_setEntries_of hoa hda hfa (wpAny_pure ?_)))
  rw [if_neg (by rw [hna, hnb]; omega)]
  refine wpAny_bind (wpAny_bind ?_)
  refine wpAny_isInstance t1 sub_set_self (wpAny_pure ?_)
  simp only [if_true]
  refine wpAny_bind (wpAny_newSet_of (knd := strKind prog w) fun led hS0 => ?_)
  refine wpAny_bind (m := Builtin.Frozenset.addrOf (.ref s.heap.objs.size)) (wpAny_pure ?_)
  have up : ∀ c o, s.heap.get? c = some o -> (s.heap.push { cls := .type "set", dict := none, data := .set #[] 0 (.fresh 0 0 led) }).get? c = some o := fun c o e => Heap.get?_push_of_some _ e
  generalize hH : s.heap.push { cls := .type "set", dict := none, data := .set #[] 0 (.fresh 0 0 led) } = H1 at up hS0
  have la : a < s.heap.objs.size := Heap.lt_size hoa
  have lb : b < s.heap.objs.size := Heap.lt_size hob
  have ha1 : H1.SetOf (strKind prog w) a S n := ⟨oa, ea, epa, ta, up _ _ hoa, hexa, hda, hela, hma, hba, hfa, hna⟩
  have hb1 : H1.SetOf (strKind prog w) b S' n' := ⟨ob, eb, epb, tb, up _ _ hob, hexb, hdb, helb, hmb, hbb, hfb, hnb⟩
  refine wpAny_bind (wpAny_setEpoch_of (up _ _ hoa) hda hfa ?_)
  refine wpAny_bind (wpAny_holding (wpAny_bind (walkUnseen2 (s := { s with heap := H1 }) (up _ _ hoa) hda hfa ha1 hb1 hS0 fun es' h' hperm hS1 sb => ?_)))
  have hext : ∀ c o, s.heap.get? c = some o -> h'.get? c = some o := fun c o e => sb.extBut _ _ (Nat.ne_of_lt (Heap.lt_size e)) (up c o e)
  refine wpAny_bind (PySem.MeetsSeq2.wpAny_forIn_array _ (fun rest _ s' => (∀ e ∈ rest, e ∈ ea.toList) /\ ∃ (h2 : Heap) (T : Str -> Bool) (m : Nat), s' = { s with heap := h2 } /\ (∀ c o, s.heap.get? c = some o -> h2.get? c = some o) /\ h2.SetOf (strKind prog w) s.heap.objs.size T m /\ m + rest.length <= ea.size /\ (∀ k, T k = true -> S k = true /\ S' k = false) /\ ∀ k, S k = true -> S' k = false -> T k = true \/ ∃ e ∈ rest, (strKind prog w).is k e.2 = true) _ ?_ ?_ es' _ ⟨fun e he => hperm.mem_iff.mp he, h', _, _, rfl, hext, hS1, ?_, ?_, ?_⟩)
  · rintro ⟨hx, x⟩ rest _ s' ⟨hm, h2, T, m, rfl, k2, hT, hsz, hT1, hT2⟩
    have hin := hm _ List.mem_cons_self
    obtain ⟨⟨k, hk, hh⟩, hsc⟩ := hela _ hin
    have hh' : hx = (strKind prog w).hash k := hh
    have hk' : (strKind prog w).is k x = true := hk
    have hsc' : x.scannable = true := hsc
    have hSk : S k = true := (hma k).mpr ⟨_, hin, hk⟩
    have uniq : ∀ k0, (strKind prog w).is k0 x = true -> k0 = k := fun k0 h0 => by
      obtain ⟨t, rfl⟩ := strKind_shape2 hk'
      obtain ⟨t', e⟩ := strKind_shape2 h0
      cases e; rfl
    have hoa2 := k2 _ _ hoa
    have hb2 : h2.SetOf (strKind prog w) b S' n' := ⟨ob, eb, epb, tb, k2 _ _ hob, hexb, hdb, helb, hmb, hbb, hfb, hnb⟩
    rw [List.length_cons] at hsz
    show wpAny _ _ (holding [x] (setFind b x hx >>= _) >>= _) _ _ _
    rw [hh']
    refine wpAny_bind (wpAny_holding (wpAny_bind (wpAny_setFind_of (knd := strKind prog w) (s := { s with heap := h2 }) (k := k) (x := x) (a := b) hk' hsc' hb2 ?_)))
    intro r hr
    refine wpAny_bind (wpAny_pure ?_)
    cases hS : S' k with
    | true =>
      rw [hr, hS]
      simp only [Bool.not_true, Bool.false_eq_true, if_false]
      refine wpAny_pure ?_
      unfold Builtin.Frozenset.unchanged
      refine wpAny_bind (wpAny_bind (wpAny_setEpoch_of hoa2 hda hfa ?_))
      simp only [bne_self_eq_false, Bool.false_eq_true, if_false]
      refine wpAny_pure (wpAny_pure ⟨fun e he => hm e (List.mem_cons_of_mem _ he), h2, T, m, rfl, k2, hT, by omega, hT1, fun k0 a1 a2 => ?_⟩)
      rcases hT2 k0 a1 a2 with z | ⟨e, he, hz⟩
      · exact .inl z
      · rcases List.mem_cons.mp he with rfl | he
        · rw [uniq k0 hz, hS] at a2; cases a2
        · exact .inr ⟨e, he, hz⟩
    | false =>
      rw [hr, hS]
      simp only [Bool.not_false, if_true]
      refine wpAny_bind (wpAny_setAddHashed_of (knd := strKind prog w) (s := { s with heap := h2 }) hk' hsc' hT (by omega) fun h3 sb3 hT3 => ?_)
      refine wpAny_pure ?_
      have k3 : ∀ c o, s.heap.get? c = some o -> h3.get? c = some o := fun c o e => sb3.extBut _ _ (Nat.ne_of_lt (Heap.lt_size e)) (k2 c o e)
      unfold Builtin.Frozenset.unchanged
      refine wpAny_bind (wpAny_bind (wpAny_setEpoch_of (k3 _ _ hoa) hda hfa ?_))
      simp only [bne_self_eq_false, Bool.false_eq_true, if_false]
      refine wpAny_pure (wpAny_pure ⟨fun e he => hm e (List.mem_cons_of_mem _ he), h3, _, _, rfl, k3, hT3, ?_, fun k0 z => ?_, fun k0 a1 a2 => ?_⟩)
      · split <;> omega
      · rcases Bool.or_eq_true _ _ |>.mp z with z | z
        · exact hT1 k0 z
        · have : k0 = k := by simpa using z
          subst this; exact ⟨hSk, hS⟩
      · rcases hT2 k0 a1 a2 with z | ⟨e, he, hz⟩
        · exact .inl (by rw [z]; rfl)
        · rcases List.mem_cons.mp he with rfl | he
          · exact .inl (by rw [uniq k0 hz]; simp)
          · exact .inr ⟨e, he, hz⟩
  · rintro r s' ⟨_, h2, T, m, rfl, k2, hT, _, hT1, hT2⟩
    have eT : T = fun k => S k && !S' k := funext fun k => by
      cases hk : T k with
      | true => obtain ⟨a1, a2⟩ := hT1 k hk; rw [a1, a2]; rfl
      | false =>
        cases h1 : S k with
        | false => rfl
        | true =>
          cases h2 : S' k with
          | true => rfl
          | false =>
            rcases hT2 k h1 h2 with z | ⟨e, he, _⟩
            · rw [hk] at z; cases z
            · simp at he
    rw [eT] at hT
    exact wpAny_pure (wpAny_pure (wpAny_pure ⟨_, rfl, (fun z => nomatch z), h h2 m hT k2⟩))
  · rw [hperm.length_eq, Array.length_toList]; omega
  · intro k z; cases z
  · intro k a1 a2
    obtain ⟨e, he, hk⟩ := (hma k).mp a1
    exact .inr ⟨e, hperm.mem_iff.mpr he, hk⟩
end
end GS
namespace GS
open PySem PySem.Spec PyProof.Rows
theorem laid_ok {mask k : Nat} (hm : mask + 1 = 2 ^ k) {f m : Nat} {l p : Bool} (hashes : Array Int) (hn : hashes.size <= mask) : ∃ t order, SetTable.laid mask f m l p hashes = some (t, order) /\ order.toList.Perm (List.range hashes.size) /\ t.fits hashes.size = true /\ t.mask = mask /\ t.dummies = #[] := by
  obtain ⟨owner, e, o⟩ := GQ.lay_ok hm hashes hn
  have hp : (((List.range (mask + 1)).filterMap fun j => (owner.getD j none).map (j, ·)).map (·.2)) = (List.range (mask + 1)).filterMap fun j => owner.getD j none := by
    rw [List.map_filterMap]
    refine GQ.fm_congr fun j _ => ?_
    cases owner.getD j none <;> rfl
  have hl : ((List.range (mask + 1)).filterMap fun j => (owner.getD j none).map (j, ·)).length = hashes.size := by
    have h1 := congrArg List.length hp
    rw [List.length_map] at h1
    rw [h1, o.perm.length_eq, List.length_range]
  refine ⟨_, _, by unfold SetTable.laid; rw [e]; rfl, ?_, ?_, rfl, rfl⟩
  · show ((((List.range (mask + 1)).filterMap fun j => (owner.getD j none).map (j, ·)).map (·.2)).toArray).toList.Perm _
    rw [List.toList_toArray, hp]; exact o.perm
  · unfold SetTable.fits SetTable.fill
    simp only [List.size_toArray, List.length_map, hl]
    simp; omega
theorem reord {es : Array (Int × Value)} {order : Array Nat} (h : order.toList.Perm (List.range es.size)) : (order.filterMap (es[·]?)).toList.Perm es.toList := by
  rw [Array.toList_filterMap]
  refine (h.filterMap _).trans (List.Perm.of_eq ?_)
  have : ∀ (l : List (Int × Value)), (List.range l.length).filterMap (l[·]?) = l := by
    intro l
    induction l with
    | nil => rfl
    | cons a l ih =>
      rw [List.length_cons, List.range_succ_eq_map, List.filterMap_cons, List.filterMap_map]
      show a :: (List.range l.length).filterMap (fun x => l[x]?) = a :: l
      rw [ih]
  have h2 := this es.toList
  rw [Array.length_toList] at h2
  conv => rhs; rw [<- h2]
  refine GQ.fm_congr fun i _ => ?_
  simp
theorem above_pow (n : Nat) : ∃ k, SetTable.sizeAbove n = 2 ^ k := by
  unfold SetTable.sizeAbove
  have : ∀ fuel k, ∃ k', SetTable.sizeAbove.go n fuel (2 ^ k) = 2 ^ k' := by
    intro fuel
    induction fuel with
    | zero => intro k; exact ⟨k, rfl⟩
    | succ fuel ih =>
      intro k
      unfold SetTable.sizeAbove.go
      split
      · rw [<- Nat.pow_succ]; exact ih (k + 1)
      · exact ⟨k, rfl⟩
  exact this 64 3
theorem above_gt {n : Nat} (h : n <= 1000) : n < SetTable.sizeAbove n /\ SetTable.sizeAbove n <= 2048 := by
  have key : ∀ n, n <= 1000 -> n < SetTable.sizeAbove n /\ SetTable.sizeAbove n <= 2048 := by decide +kernel
  exact key n h
section
variable {prog : Program} {w : World} {K : Type} [DecidableEq K] [BEq K] [LawfulBEq K] {knd : KeyKind prog w K} {A : Around} {E : Value -> Shared -> Prop} {s : Shared}
theorem relay_ {a : Addr} {S : K -> Bool} {n wanted : Nat} {Q : Unit -> Shared -> Prop} (hS : s.heap.SetOf knd a S n) (hw : wanted <= 1000) (hn : n <= wanted)
    (h : ∀ h', Heap.SameBut a s.heap h' -> h'.SetOf knd a S n -> Q () { s with heap := h' }) : wpAny (model prog w) A (setRelay a wanted) Q E s := by
  obtain ⟨o, es, ep, t, ho, hex, hd, hel, hmem, hb, hf, hsz⟩ := hS
  obtain ⟨k, hk⟩ := above_pow wanted
  obtain ⟨hw1, hw2⟩ := above_gt hw
  have hm : SetTable.sizeAbove wanted - 1 + 1 = 2 ^ k := by rw [<- hk]; omega
  obtain ⟨t', order, e, hp, hf', _⟩ := laid_ok hm (f := t.finger) (m := t.movedTo (SetTable.sizeAbove wanted - 1)) (l := t.led) (p := t.plain) (es.map (·.1)) (by rw [Array.size_map]; omega)
  rw [Array.size_map] at hp hf'
  have hr := reord hp
  have hrs : (order.filterMap (es[·]?)).size = es.size := by
    have := hr.length_eq
    rw [Array.length_toList, Array.length_toList] at this
    exact this
  unfold setRelay
  refine wpAny_bind (wpAny_setState_of ho hd hf ?_)
  dsimp only
  rw [if_neg (by rw [sizeLine_eq]; omega)]
  refine wpAny_bind ?_
  unfold SetTable.relaid
  rw [e]
  show wpAny _ _ (if ((order.filterMap (es[·]?)).size != es.size) = true then _ else pure (order.filterMap (es[·]?), t')) _ _ _
  rw [if_neg (by rw [hrs]; simp)]
  refine wpAny_pure ?_
  refine wpAny_storeSet_of ho hd ?_ (by rw [hrs]; exact fits_of_scanBound hb)
  have h2 := (SetOf_store (knd := knd) ho hex hd (es' := order.filterMap (es[·]?)) (t' := t') (S' := S) (hel.perm hr) (fun k => (hmem k).trans ⟨fun ⟨x, hx, hk⟩ => ⟨x, hr.mem_iff.mpr hx, hk⟩, fun ⟨x, hx, hk⟩ => ⟨x, hr.mem_iff.mp hx, hk⟩⟩) (by rw [hrs]; exact hb) (by rw [hrs]; exact hf')).2
  rw [hrs, hsz] at h2
  exact h _ (Heap.SameBut.update ..) h2
end
end GS
namespace GS
open PySem PySem.Spec PyProof.Rows
structure Blank (h : Heap) (r : Addr) (mask : Nat) : Prop where
  ex : ∃ o ep t, h.get? r = some o /\ o.ExactSet /\ o.data = .set #[] ep t /\ t.place = #[] /\ t.dummies = #[] /\ t.mask = mask
section
variable {prog : Program} {w : World} {K : Type} [DecidableEq K] [BEq K] [LawfulBEq K] {knd : KeyKind prog w K} {A : Around} {E : Value -> Shared -> Prop} {s : Shared}
theorem blank_fits {t : SetTable} (h1 : t.place = #[]) (h2 : t.dummies = #[]) : t.fits 0 = true := by
  unfold SetTable.fits SetTable.fill
  rw [h1, h2]; simp
theorem relay0 {r : Addr} {wanted mask : Nat} {Q : Unit -> Shared -> Prop} (hB : Blank s.heap r mask) (hw : wanted <= 1000)
    (h : ∀ h', Heap.SameBut r s.heap h' -> Blank h' r (SetTable.sizeAbove wanted - 1) -> Q () { s with heap := h' }) : wpAny (model prog w) A (setRelay r wanted) Q E s := by
  obtain ⟨o, ep, t, ho, hex, hd, h1, h2, hmk⟩ := hB
  have hf := blank_fits h1 h2
  obtain ⟨k, hk⟩ := above_pow wanted
  obtain ⟨hw1, hw2⟩ := above_gt hw
  have hm : SetTable.sizeAbove wanted - 1 + 1 = 2 ^ k := by rw [<- hk]; omega
  obtain ⟨t', order, e, hp, hf', hm', hdm⟩ := laid_ok hm (f := t.finger) (m := t.movedTo (SetTable.sizeAbove wanted - 1)) (l := t.led) (p := t.plain) #[] (by simp)
  have ho0 : order = #[] := by
    have : order.toList = [] := List.Perm.eq_nil (by simpa using hp)
    exact Array.toList_eq_nil_iff.mp this
  subst ho0
  unfold setRelay
  refine wpAny_bind (wpAny_setState_of ho hd hf ?_)
  dsimp only
  rw [if_neg (by rw [sizeLine_eq]; omega)]
  refine wpAny_bind ?_
  unfold SetTable.relaid
  rw [show ((#[] : Array (Int × Value)).map (·.1)) = #[] from by simp, e]
  refine wpAny_pure ?_
  refine wpAny_storeSet_of ho hd ?_ (by simp)
  have hg : (s.heap.update r (Obj.putSet #[] t')).get? r = some { o with data := .set #[] (ep + 1) t' } := by
    have := Heap.get?_update_self (Obj.putSet #[] t') ho (by rw [putSet_of #[] t' hd]; rfl)
    rw [putSet_of #[] t' hd] at this; exact this
  refine h _ (Heap.SameBut.update ..) ⟨_, ep + 1, t', hg, hex, rfl, ?_, hdm, hm'⟩
  unfold SetTable.fits at hf'
  have : t'.place.size = 0 := by
    have := (Bool.and_eq_true _ _ |>.mp hf').1
    simpa using this
  exact Array.eq_empty_of_size_eq_zero this
theorem room0 {r : Addr} {n mask : Nat} {Q : Unit -> Shared -> Prop} (hB : Blank s.heap r mask) (hm : mask = 7) (hn : n <= 400)
    (h : ∀ h' m k, Heap.SameBut r s.heap h' -> Blank h' r m -> n <= m -> m + 1 = 2 ^ k -> Q () { s with heap := h' }) : wpAny (model prog w) A (setRoomFor r n) Q E s := by
  obtain ⟨o, ep, t, ho, hex, hd, h1, h2, hmk⟩ := id hB
  have hf := blank_fits h1 h2
  unfold setRoomFor
  refine wpAny_bind (wpAny_setState_of ho hd hf ?_)
  dsimp only
  cases hr : t.roomFor n with
  | none =>
    have : n <= 7 := by
      unfold SetTable.roomFor SetTable.fill at hr
      rw [h1, h2, hmk, hm] at hr
      split at hr
      · cases hr
      · rename_i hc
        simp at hc
        omega
    exact wpAny_pure (h s.heap mask 3 (.refl ..) hB (by omega) (by rw [hm]))
  | some wanted =>
    have hw : wanted = n * 2 := by
      unfold SetTable.roomFor at hr
      rw [h1] at hr
      split at hr
      · cases hr; simp <;> omega
      · cases hr
    obtain ⟨k, hk⟩ := above_pow wanted
    obtain ⟨hw1, hw2⟩ := above_gt (show wanted <= 1000 by omega)
    exact relay0 hB (by omega) fun h' sb B => h h' _ k sb B (by omega) (by rw [<- hk]; omega)
theorem copy_ {a : Addr} {S : K -> Bool} {n : Nat} {Q : Value -> Shared -> Prop} (hS : s.heap.SetOf knd a S n) (h0 : 0 < n) (hn : n <= 400)
    (h : ∀ h', h'.SetOf knd s.heap.objs.size S n -> (∀ c o, s.heap.get? c = some o -> h'.get? c = some o) -> Q (.ref s.heap.objs.size) { s with heap := h' }) : wpAny (model prog w) A (Builtin.Frozenset.copyOf a) Q E s := by
  obtain ⟨o, es, ep, t, ho, hex, hd, hel, hmem, hb, hf, hsz⟩ := id hS
  unfold Builtin.Frozenset.copyOf
  refine wpAny_bind (wpAny_bind ?_)
  refine wpAny_isInstance hS.typeIs sub_set_self (wpAny_pure ?_)
  simp only [if_true]
  refine wpAny_bind (wpAny_newSet_of (knd := knd) fun led hS0 => ?_)
  refine wpAny_bind (m := Builtin.Frozenset.addrOf (.ref s.heap.objs.size)) (wpAny_pure ?_)
  have up : ∀ c o, s.heap.get? c = some o -> (s.heap.push { cls := .type "set", dict := none, data := .set #[] 0 (.fresh 0 0 led) }).get? c = some o := fun c o e => Heap.get?_push_of_some _ e
  have hB : Blank (s.heap.push { cls := .type "set", dict := none, data := .set #[] 0 (.fresh 0 0 led) }) s.heap.objs.size 7 := ⟨_, 0, _, Heap.get?_push_size _ rfl, ⟨rfl, rfl, rfl⟩, rfl, rfl, rfl, rfl⟩
  generalize s.heap.push { cls := .type "set", dict := none, data := .set #[] 0 (.fresh 0 0 led) } = H1 at up hB
  have la : a < s.heap.objs.size := Heap.lt_size ho
  have hne : a ≠ s.heap.objs.size := Nat.ne_of_lt la
  refine wpAny_bind ?_
  unfold setMerge
  rw [if_neg (by simp; exact fun z => hne z.symm)]
  refine wpAny_bind (wpAny_setState_of (s := { s with heap := H1 }) (up _ _ ho) hd hf ?_)
  dsimp only
  rw [if_neg (by simp; intro z; rw [z] at hsz; simp at hsz; omega)]
  refine wpAny_bind (room0 (s := { s with heap := H1 }) hB rfl (by omega) fun h2 m k sb B hnm hm => ?_)
  obtain ⟨o2, ep2, ts, ho2, hex2, hd2, h21, h22, hmk2⟩ := B
  refine wpAny_bind (wpAny_setState_of (s := { s with heap := h2 }) ho2 hd2 (blank_fits h21 h22) ?_)
  dsimp only
  have hfill : (ts.fill != 0) = false := by unfold SetTable.fill; rw [h21, h22]; rfl
  have fin : ∀ es' t', es'.toList.Perm es.toList -> t'.fits es.size = true -> wpAny (model prog w) A (storeSet s.heap.objs.size es' t') (fun _ s' => wpAny (model prog w) A (pure (.ref s.heap.objs.size)) Q E s') E { s with heap := h2 } := by
    intro es' t' hp hf'
    have hrs : es'.size = es.size := by
      have := hp.length_eq
      rw [Array.length_toList, Array.length_toList] at this
      exact this
    refine wpAny_storeSet_of (s := { s with heap := h2 }) ho2 hd2 ?_ (by rw [hrs]; exact fits_of_scanBound hb)
    have h3 := (SetOf_store (knd := knd) ho2 hex2 hd2 (es' := es') (t' := t') (S' := S) (hel.perm hp) (fun k => (hmem k).trans ⟨fun ⟨x, hx, hk⟩ => ⟨x, hp.mem_iff.mpr hx, hk⟩, fun ⟨x, hx, hk⟩ => ⟨x, hp.mem_iff.mp hx, hk⟩⟩) (by rw [hrs]; exact hb) (by rw [hrs]; exact hf')).2
    rw [hrs, hsz] at h3
    refine wpAny_pure (h _ h3 fun c o e => ?_)
    have hc := Nat.ne_of_lt (Heap.lt_size e)
    exact (Heap.SameBut.update h2 s.heap.objs.size (Obj.putSet es' t')).extBut _ _ hc (sb.extBut _ _ hc (up c o e))
  unfold SetTable.road
  rw [hfill]
  simp only [Bool.false_eq_true, if_false]
  cases hc : (ts.mask == t.mask && t.dummies.isEmpty) with
  | true =>
    simp only [if_true]
    refine wpAny_mono (fin es { t with finger := ts.finger, led := ts.led && t.led, moves := ts.moves, plain := ts.plain && t.plain } (List.Perm.refl _) (by cases t; exact hf)) (fun _ _ q => q) fun _ _ e => e
  | false =>
    simp only [Bool.false_eq_true, if_false]
    obtain ⟨t', order, e, hp, hf', _⟩ := laid_ok (mask := ts.mask) (by rw [hmk2]; exact hm) (f := ts.finger) (m := ts.moves) (l := ts.led && t.led) (p := ts.plain && t.plain) (es.map (·.1)) (by rw [Array.size_map, hmk2]; exact hnm)
    rw [Array.size_map] at hp hf'
    have hr := reord hp
    have hrs : (order.filterMap (es[·]?)).size = es.size := by
      have := hr.length_eq
      rw [Array.length_toList, Array.length_toList] at this
      exact this
    rw [e]
    refine wpAny_bind ?_
    show wpAny _ _ (if ((order.filterMap (es[·]?)).size != es.size) = true then _ else pure (order.filterMap (es[·]?), t')) _ _ _
    rw [if_neg (by rw [hrs]; simp)]
    refine wpAny_pure ?_
    exact fin _ t' hr hf'
end
end GS
namespace GS
open PySem PySem.Spec PyProof.Rows
theorem below_le (xs : Array Nat) (j : Nat) : SetTable.below xs j <= xs.size := by
  unfold SetTable.below
  have key : ∀ fuel lo hi, lo <= hi -> SetTable.below.go xs j fuel lo hi <= hi := by
    intro fuel
    induction fuel with
    | zero => intro lo hi h; exact h
    | succ fuel ih =>
      intro lo hi h
      unfold SetTable.below.go
      split
      · dsimp only
        split
        · exact ih _ _ (by omega)
        · exact Nat.le_trans (ih _ _ (by omega)) (by omega)
      · exact h
  exact key _ _ _ (Nat.zero_le _)
theorem erase_size {α : Type} {xs : Array α} {i : Nat} (h : i < xs.size) : (SetTable.eraseAt xs i).size = xs.size - 1 := by
  unfold SetTable.eraseAt
  rw [Array.size_append, Array.size_extract, Array.size_extract]; omega
theorem erase_out {α : Type} {xs : Array α} {i : Nat} (h : xs.size <= i) : (SetTable.eraseAt xs i).size = xs.size := by
  unfold SetTable.eraseAt
  rw [Array.size_append, Array.size_extract, Array.size_extract]; omega
theorem erase_mem {α : Type} {xs : Array α} {i : Nat} {x : α} (h : x ∈ (SetTable.eraseAt xs i).toList) : x ∈ xs.toList := by
  unfold SetTable.eraseAt at h
  rw [Array.toList_append] at h
  rcases List.mem_append.mp h with h | h
  · rw [Array.toList_extract] at h
    exact List.mem_of_mem_drop (List.mem_of_mem_take h)
  · rw [Array.toList_extract] at h
    exact List.mem_of_mem_drop (List.mem_of_mem_take h)
theorem insert_size {α : Type} {xs : Array α} {p : Nat} {x : α} (h : p <= xs.size) : (SetTable.insertAt xs p x).size = xs.size + 1 := by
  unfold SetTable.insertAt
  rw [Array.size_append, Array.size_push, Array.size_extract, Array.size_extract]; omega
theorem drop_fits {t : SetTable} {n i : Nat} (h : t.fits n = true) (hi : i < n) : (t.drop i).fits (n - 1) = true := by
  unfold SetTable.fits at h ⊢
  obtain ⟨h1, h2⟩ := Bool.and_eq_true _ _ |>.mp h
  have h1' : t.place.size = n := by simpa using h1
  have h2' : t.fill <= t.mask := by simpa using h2
  subst h1'
  have hp : t.place[i]? = some t.place[i] := Array.getElem?_eq_getElem hi
  unfold SetTable.drop
  rw [hp]
  unfold SetTable.fill at h2' ⊢
  dsimp only
  rw [erase_size hi, insert_size (below_le _ _)]
  simp; omega
section
variable {prog : Program} {w : World} {K : Type} [DecidableEq K] [BEq K] [LawfulBEq K] {knd : KeyKind prog w K} {A : Around} {E : Value -> Shared -> Prop} {s : Shared}
theorem discard_ {r : Addr} {T : K -> Bool} {m : Nat} {k : K} {x : Value} {Q : Bool -> Shared -> Prop} (hk : knd.is k x = true) (hsc : x.scannable = true) (hT : s.heap.SetOf knd r T m)
    (h : ∀ b h' T' m', Heap.SameBut r s.heap h' -> h'.SetOf knd r T' m' -> m - 1 <= m' -> m' <= m -> Q b { s with heap := h' }) : wpAny (model prog w) A (setDiscardHashed r x (knd.hash k)) Q E s := by
  unfold setDiscardHashed
  refine wpAny_bind (wpAny_setFind_of (knd := knd) hk hsc hT fun f hf => ?_)
  cases f with
  | none => exact wpAny_pure (h false s.heap T m (.refl ..) hT (by omega) (Nat.le_refl _))
  | some i =>
    obtain ⟨o, es, ep, t, ho, hex, hd, hel, hmem, hb, hft, hsz⟩ := id hT
    dsimp only
    refine wpAny_bind (wpAny_setState_of ho hd hft ?_)
    dsimp only
    have hes : (SetTable.eraseAt es i).size = es.size - 1 /\ (t.drop i).fits (es.size - 1) = true \/ (SetTable.eraseAt es i).size = es.size /\ (t.drop i).fits es.size = true := by
      by_cases hi : i < es.size
      · exact .inl ⟨erase_size hi, drop_fits hft hi⟩
      · refine .inr ⟨erase_out (by omega), ?_⟩
        have hp : t.place[i]? = none := by
          unfold SetTable.fits at hft
          have : t.place.size = es.size := by simpa using (Bool.and_eq_true _ _ |>.mp hft).1
          exact Array.getElem?_eq_none (by omega)
        unfold SetTable.drop
        rw [hp]; exact hft
    have hle : (SetTable.eraseAt es i).size <= es.size := by rcases hes with ⟨e, _⟩ | ⟨e, _⟩ <;> omega
    have hge : es.size - 1 <= (SetTable.eraseAt es i).size := by rcases hes with ⟨e, _⟩ | ⟨e, _⟩ <;> omega
    have hfit : (t.drop i).fits (SetTable.eraseAt es i).size = true := by rcases hes with ⟨e, f⟩ | ⟨e, f⟩ <;> rw [e] <;> exact f
    refine wpAny_bind (wpAny_storeSet_of ho hd ?_ (Nat.le_trans hle (fits_of_scanBound hb)))
    have h2 := (SetOf_store (knd := knd) ho hex hd (es' := SetTable.eraseAt es i) (t' := t.drop i) (S' := fun k => (SetTable.eraseAt es i).toList.any fun e => knd.is k e.2) (fun e he => hel e (erase_mem he)) (fun k => by rw [List.any_eq_true]) (by omega) hfit).2
    refine wpAny_bind (wpAny_point (wpAny_pure (h true _ _ _ (Heap.SameBut.update ..) h2 (by omega) (by omega))))
theorem tidy_ {r : Addr} {T : K -> Bool} {m : Nat} {Q : Unit -> Shared -> Prop} (hT : s.heap.SetOf knd r T m) (hm : m <= 250)
    (h : ∀ h', Heap.SameBut r s.heap h' -> h'.SetOf knd r T m -> Q () { s with heap := h' }) : wpAny (model prog w) A (setTidy r) Q E s := by
  obtain ⟨o, es, ep, t, ho, hex, hd, hel, hmem, hb, hft, hsz⟩ := id hT
  unfold setTidy
  refine wpAny_bind (wpAny_setState_of ho hd hft ?_)
  dsimp only
  split
  · have hg : SetTable.grown es.size = es.size * 4 := by unfold SetTable.grown; rw [if_neg (by omega)]
    rw [hg]
    exact relay_ hT (by omega) (by omega) h
  · exact wpAny_pure (h s.heap (.refl ..) hT)
theorem walkUnseen3 {a b : Addr} {S S' : K -> Bool} {n n' : Nat} {o : Obj} {es : Array (Int × Value)} {ep : Nat} {t : SetTable} {Q : Array (Int × Value) -> Shared -> Prop}
    (ho : s.heap.get? a = some o) (hd : o.data = .set es ep t) (hf : t.fits es.size = true) (ha : s.heap.SetOf knd a S n) (hb : s.heap.SetOf knd b S' n')
    (h : ∀ (es' : Array (Int × Value)), es'.toList.Perm es.toList -> Q es' s) : wpAny (model prog w) A (setWalkUnseen a [b] none) Q E s := by
  unfold setWalkUnseen setsByText
  refine wpAny_bind (wpAny_setState_of ho hd hf ?_)
  dsimp only
  refine wpAny_bind (wpAny_bind (wpAny_askSetting (wpAny_pure ?_)))
  dsimp only
  show wpAny _ _ (if (Params.followText w.params "set-order" || (t.led && t.plain) || decide (es.size <= 1)) = true then _ else _) _ _ _
  cases hc : (Params.followText w.params "set-order" || (t.led && t.plain) || decide (es.size <= 1)) with
  | true =>
    rw [if_pos rfl]
    exact wpAny_mono (setWalk2 ho hd hf hc fun es' he => h es' he) (fun _ _ q => q) fun _ _ e => e
  | false =>
    rw [if_neg Bool.false_ne_true]
    refine wpAny_bind (setsQuiet_true (knd := knd) [a, b] (fun c hc => ?_) ?_)
    · simp at hc
      rcases hc with rfl | rfl
      · exact ⟨_, _, ha⟩
      · exact ⟨_, _, hb⟩
    · simp only [Bool.not_true, Bool.false_eq_true, if_false]
      refine wpAny_bind (wpAny_rule ?_)
      exact wpAny_pure (h es (List.Perm.refl _))
end
section
variable {prog : Program} {w : World} {A : Around} {E : Value -> Shared -> Prop} {s : Shared}
set_option maxHeartbeats 400000 in
theorem sub_far {a b : Addr} {S S' : Str -> Bool} {n n' : Nat} {Q : Value -> Shared -> Prop} (ha : s.heap.SetOf (strKind prog w) a S n) (hb : s.heap.SetOf (strKind prog w) b S' n') (hn : n' < n / 4) (hz : n <= 250)
    (h : ∀ h' T m, 0 < m -> h'.SetOf (strKind prog w) s.heap.objs.size T m -> (∀ c o, s.heap.get? c = some o -> h'.get? c = some o) -> Q (.ref s.heap.objs.size) { s with heap := h' }) :
    wpAny (model prog w) A (binaryOp .Sub (.ref a) (.ref b)) Q E s := by
  refine wpAny_binaryOp_same (T := "set") ha.typeIs hb.typeIs PySem.F.fills_set_sub PySem.F.slot_set_sub ?_
  refine wpAny_call_entry PySem.F.slot_set_sub ha.typeIs FB.entry_set_sub ?_ (PySem.F.args_set_sub_2 _ _)
  have t1 := ha.typeIs
  have t2 := hb.typeIs
  show wpAny _ _ (Builtin.Frozenset.slot1 "__sub__" ⟨[.ref a, .ref b], []⟩ >>= _) _ _ _
  refine wpAny_bind (m := Builtin.Frozenset.slot1 "__sub__" ⟨[.ref a, .ref b], []⟩) (wpAny_pure ?_)
  show wpAny _ _ ((Builtin.Frozenset.isAnySet (.ref a) <&&> Builtin.Frozenset.isAnySet (.ref b)) >>= _) _ _ _
  refine wpAny_bind (wpAny_bind (isAny t1 ?_))
  show wpAny _ _ (Builtin.Frozenset.isAnySet (.ref b)) _ _ _
  refine isAny t2 ?_
  simp only [Bool.not_true, Bool.false_eq_true, if_false]
  refine wpAny_bind (m := Builtin.Frozenset.addrOf (.ref a)) (wpAny_pure ?_)
  refine wpAny_bind ?_
  unfold Builtin.Frozenset.difference
  refine wpAny_bind (isAny t2 ?_)
  simp only [Bool.not_true, Bool.false_eq_true, if_false, Bool.false_and, if_true]
  refine wpAny_bind (m := Builtin.Frozenset.addrOf (.ref b)) (wpAny_pure ?_)
  obtain ⟨oa, ea, epa, ta, hoa, hexa, hda, hela, hma, hba, hfa, hna⟩ := id ha
  obtain ⟨ob, eb, epb, tb, hob, hexb, hdb, helb, hmb, hbb, hfb, hnb⟩ := id hb
  unfold Builtin.Frozenset.sizeOf
  refine wpAny_bind (wpAny_bind (wpAny_setEntries_of hob hdb hfb (wpAny_pure ?_)))
  refine wpAny_bind (wpAny_bind (wpAny_setEntries_of hoa hda hfa (wpAny_pure ?_)))
  rw [if_pos (by rw [hna, hnb]; omega)]
  refine wpAny_bind (wpAny_rule ?_)
  refine wpAny_bind (copy_ ha (by omega) (by omega) fun h1 hS1 k1 => ?_)
  refine wpAny_bind (m := Builtin.Frozenset.addrOf (.ref s.heap.objs.size)) (wpAny_pure ?_)
  refine wpAny_bind (wpAny_holding ?_)
  have lb : b < s.heap.objs.size := Heap.lt_size hob
  have hb1 : h1.SetOf (strKind prog w) b S' n' := ⟨ob, eb, epb, tb, k1 _ _ hob, hexb, hdb, helb, hmb, hbb, hfb, hnb⟩
  have t2' : Shared.TypeIs { s with heap := h1 } (.ref b) "set" := hb1.typeIs
  unfold Builtin.Frozenset.differenceUpdate
  rw [if_neg (by simp; exact Nat.ne_of_lt lb)]
  refine wpAny_bind (isAny t2' ?_)
  simp only [if_true]
  refine wpAny_bind (m := Builtin.Frozenset.addrOf (.ref b)) (wpAny_pure ?_)
  unfold Builtin.Frozenset.sizeOf
  obtain ⟨o1, e1, ep1, tt1, ho1, hex1, hd1, hel1, hm1, hbb1, hf1, hn1⟩ := id hS1
  refine wpAny_bind (wpAny_bind (wpAny_setEntries_of (s := { s with heap := h1 }) (k1 _ _ hob) hdb hfb (wpAny_pure ?_)))
  refine wpAny_bind (wpAny_bind (wpAny_setEntries_of (s := { s with heap := h1 }) ho1 hd1 hf1 (wpAny_pure ?_)))
  rw [if_neg (by rw [hn1, hnb]; omega)]
  refine wpAny_bind (wpAny_setEpoch_of (s := { s with heap := h1 }) (k1 _ _ hob) hdb hfb ?_)
  refine wpAny_bind (wpAny_holding (wpAny_bind (walkUnseen3 (s := { s with heap := h1 }) (k1 _ _ hob) hdb hfb hb1 hS1 fun es' hperm => ?_)))
  have hlen : es'.toList.length = eb.size := by rw [hperm.length_eq, Array.length_toList]
  refine wpAny_bind (PySem.MeetsSeq2.wpAny_forIn_array _ (fun rest _ s' => (∀ e ∈ rest, e ∈ eb.toList) /\ ∃ (h2 : Heap) (T : Str -> Bool) (m : Nat), s' = { s with heap := h2 } /\ (∀ c o, s.heap.get? c = some o -> h2.get? c = some o) /\ h2.SetOf (strKind prog w) s.heap.objs.size T m /\ n <= m + (eb.size - rest.length) /\ rest.length <= eb.size /\ m <= n) _ ?_ ?_ es' _ ⟨fun e he => hperm.mem_iff.mp he, h1, _, _, rfl, k1, hS1, by omega, by omega, Nat.le_refl _⟩)
  · rintro ⟨hx, x⟩ rest _ s' ⟨hm, h2, T, m, rfl, k2, hT, hsz, hr, hmn⟩
    have hin := hm _ List.mem_cons_self
    obtain ⟨⟨k, hk, hh⟩, hsc⟩ := helb _ hin
    have hh' : hx = (strKind prog w).hash k := hh
    rw [List.length_cons] at hsz hr
    show wpAny _ _ (holding [x] (setDiscardHashed s.heap.objs.size x hx) >>= _) _ _ _
    rw [hh']
    refine wpAny_bind (wpAny_holding (discard_ (knd := strKind prog w) (s := { s with heap := h2 }) hk hsc hT fun b' h3 T' m' sb hT' l1 l2 => ?_))
    have k3 : ∀ c o, s.heap.get? c = some o -> h3.get? c = some o := fun c o e => sb.extBut _ _ (Nat.ne_of_lt (Heap.lt_size e)) (k2 c o e)
    unfold Builtin.Frozenset.unchanged
    refine wpAny_bind (wpAny_bind (wpAny_setEpoch_of (s := { s with heap := h3 }) (k3 _ _ hob) hdb hfb ?_))
    simp only [bne_self_eq_false, Bool.false_eq_true, if_false]
    exact wpAny_pure (wpAny_pure ⟨fun e he => hm e (List.mem_cons_of_mem _ he), h3, T', m', rfl, k3, hT', by omega, by omega, by omega⟩)
  · rintro r s' ⟨_, h2, T, m, rfl, k2, hT, hsz, _, hmn⟩
    refine wpAny_pure ?_
    rw [List.length_nil] at hsz
    refine tidy_ (s := { s with heap := h2 }) hT (by omega) fun h3 sb hT3 => ?_
    exact wpAny_pure (wpAny_pure ⟨_, rfl, (fun z => nomatch z), h h3 T m (by omega) hT3 fun c o e => sb.extBut _ _ (Nat.ne_of_lt (Heap.lt_size e)) (k2 c o e)⟩)
end
end GS
namespace L2
open PySem PySem.Spec PyProof.Rows GT Builtin Builtin.Str
section
variable {X : Cx} {pins : List (Addr × Obj)} {σ : St} {H : Hp} {s : Shared} {f : Str -> Bool}
noncomputable def PEt (X : Cx) (e : Expr) (t : TE) : Prop :=
  ∀ (pins : List (Addr × Obj)) (s : Shared) (σ : St) (H : Hp) (Q : VK), Inv X pins σ H s -> t σ H Q -> wpAny (model X.prog X.w) X.A (eval e X.env) (fun v s' => EP X pins σ Q v s' /\ s'.toks ≠ 0) X.xe s
theorem PEt.pe {e : Expr} {t : TE} (h : PEt X e t) : PE X e t := fun pins s σ H Q I q => thn (h pins s σ H Q I q) fun _ _ z => z.1
end
end L2
namespace L2
open PySem PySem.Spec PyProof.Rows GT Builtin Builtin.Str
section
variable {X : Cx}
noncomputable def PEn (X : Cx) (e : Expr) (t : TE) : Prop :=
  ∀ (pins : List (Addr × Obj)) (s : Shared) (σ : St) (H : Hp) (Q : VK), Inv X pins σ H s -> s.toks ≠ 0 -> t σ H Q -> wpAny (model X.prog X.w) X.A (eval e X.env) (EP X pins σ Q) X.xe s
theorem PE.n {e : Expr} {t : TE} (h : PE X e t) : PEn X e t := fun pins s σ H Q I _ q => h pins s σ H Q I q
noncomputable def PAn (X : Cx) (es : List Expr) (t : TA) : Prop :=
  ∀ (pos : Pos) (pins : List (Addr × Obj)) (s : Shared) (σ : St) (H : Hp) (Q : List V -> Hp -> Prop), Inv X pins σ H s -> s.toks ≠ 0 -> t σ H Q -> wpAny (model X.prog X.w) X.A (spliced (backTo pos (starEach es X.env))) (AP X pins σ Q) X.xe s
theorem PA.n {es : List Expr} {t : TA} (h : PA X es t) : PAn X es t := fun pos pins s σ H Q I _ q => h pos pins s σ H Q I q
end
end L2
namespace L2
open PySem PySem.Spec PyProof.Rows GT
section
variable {X : Cx}
inductive SubA (P : Program) (w : World) (x y : V) (H : Hp) (Q : VK) : Prop
  | mk (a b : Addr) (S S' : Str -> Bool) (n n' : Nat) (e : x = .ref a) (f : y = .ref b) (ha : H a = some (SetS P w a S n)) (hb : H b = some (SetS P w b S' n')) (hn : n <= 250)
      (q : ∀ p T m, H p = none -> ((n / 4 <= n' /\ (m = 0 ↔ ∀ k, S k = true -> S' k = true)) \/ (n' < n / 4 /\ 0 < m)) -> Q (.ref p) (upd H p (SetS P w p T m))) : SubA P w x y H Q
theorem op_subA : OpR X (binaryOp .Sub) (SubA X.prog X.w) := by
  intro pins s σ H x y v u Q I rx ry h
  obtain ⟨a, b, S, S', n, n', rfl, rfl, ha, hb, hn, q⟩ := h
  cases rx; cases ry
  obtain ⟨ha', _⟩ := I.hok a _ ha
  obtain ⟨hb', _⟩ := I.hok b _ hb
  by_cases hc : n / 4 <= n'
  · refine GS.sub_near ha' hb' hc fun h' m hS hk => ?_
    refine ⟨.ref s.heap.objs.size, _, I.laid (t' := s.toks) hk (Nat.le_refl _) (setS_ok hS), rfl, q _ _ _ I.fresh (.inl ⟨hc, ?_⟩)⟩
    obtain ⟨o, es, ep, t, _, _, _, hel, hmem, _, _, hsz⟩ := hS
    constructor
    · intro hm k hk
      cases hk' : S' k with
      | true => rfl
      | false =>
        obtain ⟨e, he, _⟩ := (hmem k).mp (show (S k && !S' k) = true by rw [hk, hk']; rfl)
        have hz : es.toList.length = 0 := by rw [Array.length_toList, hsz, hm]
        rw [List.length_eq_zero_iff] at hz
        rw [hz] at he; simp at he
    · intro hall
      refine Classical.byContradiction fun hm => ?_
      have hl : 0 < es.toList.length := by rw [Array.length_toList, hsz]; omega
      obtain ⟨e, he⟩ := List.exists_mem_of_length_pos hl
      obtain ⟨⟨k, hk, _⟩, _⟩ := hel e he
      have := (hmem k).mpr ⟨e, he, hk⟩
      have h1 := Bool.and_eq_true _ _ |>.mp this
      rw [hall k h1.1] at h1
      exact absurd h1.2 (by decide)
  · refine GS.sub_far ha' hb' (by omega) hn fun h' T m hm hS hk => ?_
    exact ⟨.ref s.heap.objs.size, _, I.laid (t' := s.toks) hk (Nat.le_refl _) (setS_ok hS), rfl, q _ _ _ I.fresh (.inr ⟨by omega, hm⟩)⟩
end
end L2
namespace GP
open PySem L2 GT GM
inductive SpIsTextA (vs : List V) (H : Hp) (Q : VK) : Prop
  | mk (L x : Tx) (h0 : vs = [sv L, sv x]) (h1 : (sgn L).length <= 100) (h2 : (sgn x).length <= 100) (h3 : anyH H Q (.bl (decide (∀ c ∈ x, c ∈ L)))) : SpIsTextA vs H Q
noncomputable def spIsTextA : Sp := fun vs H Q _ => SpIsTextA vs H Q
noncomputable abbrev ShutOk (R : Ru) (L : Tx) (c d : Nat) : Prop := c ∈ L /\ d ∉ L /\ (∀ e ∈ L, e ∈ lets R.length) /\ ∀ e ∈ L, ∀ g ∈ R.getD (e - 97) [], g ∈ L
end GP
namespace L2
open PySem PySem.Spec PyProof.Rows
theorem ObjOk.there {P : Program} {w : World} {H : Hp} {h : Heap} {a : Addr} {o : HO} (x : ObjOk P w H h a o) : ∃ ob, h.get? a = some ob := by
  cases o with
  | lst xs => obtain ⟨_, _, _, _, e⟩ := x; exact ⟨_, e⟩
  | tup xs => obtain ⟨_, _, _, o, e, _⟩ := x; exact ⟨_, e⟩
  | dK kvs => obtain ⟨_, _, _, _, o, _, _, e, _⟩ := x; exact ⟨_, e⟩
  | dT kvs => obtain ⟨_, _, _, _, o, _, _, e, _⟩ := x; exact ⟨_, e⟩
  | set S n => obtain ⟨o, _, _, _, e, _⟩ := x; exact ⟨_, e⟩
  | ins C dx fs => obtain ⟨_, _, _, e, _⟩ := x; exact ⟨_, e⟩
  | own y => exact x
  | xd fs => obtain ⟨_, ⟨o, _, _, e, _⟩, _⟩ := x; exact ⟨_, e⟩
  | rng lo hi => obtain ⟨_, _, _, e⟩ := x; exact ⟨_, e⟩
  | frz ob u => obtain ⟨e, _⟩ := x; exact ⟨_, e⟩
  | tbl ps => exact ⟨_, (show h.get? a = some _ from x)⟩
  | met f y => exact ⟨_, (show h.get? a = some _ from x)⟩
  | ext φ => obtain ⟨_, e, _⟩ := x; exact e
theorem HOk.none_of {P : Program} {w : World} {H : Hp} {h : Heap} {a : Addr} (x : HOk P w H h) (e : h.get? a = none) : H a = none := by
  cases q : H a with
  | none => rfl
  | some u =>
    obtain ⟨ob, r⟩ := (x a u q).there
    rw [r] at e; cases e
structure Fly (base : Heap) (l : List Env) (ea T C : Addr) (H : Hp) (h : Heap) : Prop where
  stays : base.StaysIn h
  ne : base.get? ea = none
  nT : base.get? T = none
  frames : h.FunFrames base l
  tr : ∃ a0 oe vs oT ts, h.get? ea = some oe /\ (oe.cls = .ref C /\ vs[0]? = some a0) /\ oe.data = .fields vs /\ vs[1]? = some (.ref T) /\ T ≠ ea /\ h.get? T = some oT /\ oT.data = .fields ts /\ ts[3]? = some .none
  he : H ea = none
  hT : H T = none
  hl : ∀ b ∈ frs l, H b = none
section
variable {P : Program} {w : World} {M : Model} {A : Around} {E : Value -> Shared -> Prop} {s : Shared} {base : Heap} {env : Env} {outer : List Env} {ea T C L : Addr} {H : Hp} {Q : Unit -> Shared -> Prop}
theorem frs_frame {l : List Env} : ∀ x ∈ l, ∀ a, x.frame = some a -> a ∈ frs l := fun x hx a e => by
  unfold frs
  exact List.mem_filterMap.mpr ⟨x, hx, e⟩
structure Aft (l : List Env) (ea T : Addr) (h h' : Heap) : Prop where
  keep : ∀ b o, h.get? b = some o -> b ≠ ea -> b ≠ T -> b ∉ frs l -> h'.get? b = some o
  slot : ∀ b o, h.get? b = some o -> b ∈ frs l -> ∃ sl, h'.get? b = some { o with slots := sl }
theorem Aft.hok {l : List Env} {h h' : Heap} (a : Aft l ea T h h') (hok : HOk P w H h) (he : H ea = none) (hT : H T = none) (hl : ∀ b ∈ frs l, H b = none) : HOk P w H h' := fun c o e =>
  (hok c o e).stay (fun b u hb q => by
    have hn : H b ≠ none := by
      rcases hb with rfl | hb
      · rw [e]; exact fun z => by cases z
      · rw [hb]; exact fun z => by cases z
    exact a.keep b u q (fun z => hn (by rw [z]; exact he)) (fun z => hn (by rw [z]; exact hT)) fun z => hn (hl b z)) (fun _ q => q) fun _ _ q => q
theorem fly_big (F : Fly base (env :: outer) ea T C H s.heap) : ∃ B a0, base.StaysIn B /\ B.StaysIn s.heap /\ Heap.FlyingW B (env :: outer) ea (.ref C) a0 s.heap /\ (∀ b o, s.heap.get? b = some o -> b ≠ ea -> b ≠ T -> b ∉ frs (env :: outer) -> B.get? b = some o) := by
  obtain ⟨a0, oe, vs, oT, ts, e1, e2, e3, e4, e5, e6, e7, e8⟩ := F.tr
  refine ⟨PySem.W.hideAll s.heap (ea :: T :: frs (env :: outer)), a0, fun b o e => ?_, fun b o e => PySem.W.of_hideAll _ e, ⟨fun b o e => PySem.W.of_hideAll _ e, PySem.W.hideAll_none _ List.mem_cons_self, ?_, oe, vs, T, oT, ts, e1, e2, e3, e4, PySem.W.hideAll_none _ (List.mem_cons_of_mem _ List.mem_cons_self), e5, e6, e7, e8⟩, fun b o e h1 h2 h3 => ?_⟩
  · refine PySem.W.hideAll_get _ (F.stays b o e) fun hm => ?_
    rcases List.mem_cons.mp hm with z | hm
    · rw [z, F.ne] at e; cases e
    · rcases List.mem_cons.mp hm with z | hm
      · rw [z, F.nT] at e; cases e
      · have := (F.frames.mem hm).1
        rw [e] at this; cases this
  · exact PySem.W.funFrames_hide F.frames fun x hx a e => List.mem_cons_of_mem _ (List.mem_cons_of_mem _ (frs_frame x hx a e))
  · refine PySem.W.hideAll_get _ e fun hm => ?_
    rcases List.mem_cons.mp hm with z | hm
    · exact h1 z
    · rcases List.mem_cons.mp hm with z | hm
      · exact h2 z
      · exact h3 hm
theorem fly_small {B h' : Heap} {l : List Env} {a0 : Value} (F : Fly base (env :: outer) ea T C H s.heap) (hok : HOk P w H s.heap) (hB : base.StaysIn B)
    (hk : ∀ b o, s.heap.get? b = some o -> b ≠ ea -> b ≠ T -> b ∉ frs (env :: outer) -> B.get? b = some o) (fl : Heap.FlyingW B l ea (.ref C) a0 h') (up : s.heap.UpToSlots h') (hl : ∀ b ∈ frs l, b ∈ frs (env :: outer)) :
    ∃ T', Fly base l ea T' C H h' /\ (T' = T \/ s.heap.get? T' = none) /\ Aft (env :: outer) ea T s.heap h' := by
  obtain ⟨k1, k2, k3, oe, vs, T', oT, ts, e1, e2, e3, e4, e5, e6, e7, e8, e9⟩ := fl
  have af : Aft (env :: outer) ea T s.heap h' := ⟨fun b o e h1 h2 h3 => k1 b o (hk b o e h1 h2 h3), fun b o e hb => by
    obtain ⟨_, o', ho, hd⟩ := F.frames.mem hb
    rw [e] at ho; cases ho
    exact up b o e hd⟩
  have hT' : T' = T \/ s.heap.get? T' = none := by
    by_cases z : T' = T
    · exact .inl z
    · refine .inr ?_
      cases q : s.heap.get? T' with
      | none => rfl
      | some o =>
        by_cases hf : T' ∈ frs (env :: outer)
        · obtain ⟨_, o', ho, hd⟩ := F.frames.mem hf
          obtain ⟨sl, r⟩ := up T' o' ho hd
          rw [e7] at r; cases r
          exact absurd e8 (hd ts)
        · have := hk T' o q e6 z hf
          rw [e5] at this; cases this
  refine ⟨T', ⟨fun b o e => k1 b o (hB b o e), F.ne, PySem.W.fresh_of_stays hB e5, PySem.W.funFrames_base hB k3, ⟨a0, oe, vs, oT, ts, e1, e2, e3, e4, e6, e7, e8, e9⟩, F.he, ?_, fun b hb => F.hl b (hl b hb)⟩, hT', af⟩
  rcases hT' with z | z
  · rw [z]; exact F.hT
  · exact hok.none_of z
theorem leave_fly (hfr : A.frames = some (env :: outer)) (hf : env.frame = some L) (F : Fly base (env :: outer) ea T C H s.heap) (hok : HOk P w H s.heap)
    (hQ : ∀ h' T', Fly base outer ea T' C H h' -> (T' = T \/ s.heap.get? T' = none) -> Aft (env :: outer) ea T s.heap h' -> HOk P w H h' -> Q () { s with heap := h' }) : wpAny M A (leaving env (.ref ea)) Q E s := by
  obtain ⟨B, a0, hB, hs, fl, hk⟩ := fly_big F
  refine wpAny_leaves_onW hfr hf fl fun h' fl' up => ?_
  obtain ⟨T', F', t, af⟩ := fly_small F hok hB hk fl' up (fun b hb => by
    unfold frs at hb ⊢
    rw [List.filterMap_cons, hf]
    exact List.mem_cons_of_mem _ hb)
  exact hQ h' T' F' t af (af.hok hok F.he F.hT F.hl)
theorem look_fly (hfr : A.frames = some (env :: outer)) (hf : env.frame = some L) (F : Fly base (env :: outer) ea T C H s.heap) (hok : HOk P w H s.heap)
    {M' : Model} {A' : Around} {E' : Value -> Shared -> Prop} (hQ : ∀ h' T', Fly base (env :: outer) ea T' C H h' -> (T' = T \/ s.heap.get? T' = none) -> Aft (env :: outer) ea T s.heap h' -> HOk P w H h' -> Q () { s with heap := h' }) :
    wpAny M A (noteFrame (.ref ea) env) (fun _ s2 => wpAny M' A' (setFlight (.ref ea) none) Q E' s2) E s := by
  obtain ⟨B, a0, hB, hs, fl, hk⟩ := fly_big F
  refine wpAny_looks_onW hfr hf fl fun h1 hh up1 => ?_
  refine wpAny_landsW hh fun h2 fl2 up2 => ?_
  obtain ⟨T', F', t, af⟩ := fly_small F hok hB hk fl2 (up1.trans up2) (fun b hb => hb)
  exact hQ h2 T' F' t af (af.hok hok F.he F.hT F.hl)
theorem leave_made {h : Heap} {args : List Value} (hfr : A.frames = some (env :: outer)) (hf : env.frame = some L) (hfn : h.FunFrames base (env :: outer)) (hst : base.StaysIn h) (hok : HOk P w H h) (hl : ∀ b ∈ frs (env :: outer), H b = none)
    (hx : Heap.MadeExcOf h s.heap ea (.ref C) args)
    (hQ : ∀ h' T', Fly base outer ea T' C H h' -> h.get? ea = none -> h.get? T' = none -> (∀ b o, h.get? b = some o -> b ∉ frs (env :: outer) -> h'.get? b = some o) -> (∀ b o, h.get? b = some o -> b ∈ frs (env :: outer) -> ∃ sl, h'.get? b = some { o with slots := sl }) -> HOk P w H h' -> Q () { s with heap := h' }) :
    wpAny M A (leaving env (.ref ea)) Q E s := by
  have hB : base.StaysIn (PySem.W.hideAll h (frs (env :: outer))) := fun b o e => PySem.W.hideAll_get _ (hst b o e) fun hm => by
    have := (hfn.mem hm).1
    rw [e] at this; cases this
  refine wpAny_leaves_madeW (base := PySem.W.hideAll h (frs (env :: outer))) hfr hf (fun b o e => PySem.W.of_hideAll _ e) (PySem.W.funFrames_hide hfn fun x hx a e => frs_frame x hx a e) hx fun h' t fl _ _ up => ?_
  obtain ⟨k1, k2, k3, oe, vs, T', oT, ts, e1, e2, e3, e4, e5, e6, e7, e8, e9⟩ := fl
  have slot : ∀ b o, h.get? b = some o -> b ∈ frs (env :: outer) -> ∃ sl, h'.get? b = some { o with slots := sl } := fun b o e hb => by
    obtain ⟨_, o', ho, hd⟩ := hfn.mem hb
    rw [e] at ho; cases ho
    exact up b o (hx.keeps b o e) hd
  have hT' : h.get? T' = none := by
    cases q : h.get? T' with
    | none => rfl
    | some o =>
      by_cases hm : T' ∈ frs (env :: outer)
      · obtain ⟨_, o', ho, hd⟩ := hfn.mem hm
        obtain ⟨sl, r⟩ := slot T' o' ho hm
        rw [e7] at r; cases r
        exact absurd e8 (hd ts)
      · have := PySem.W.hideAll_get _ q hm
        rw [e5] at this; cases this
  have keep : ∀ b o, h.get? b = some o -> b ∉ frs (env :: outer) -> h'.get? b = some o := fun b o e hb => k1 b o (PySem.W.hideAll_get _ e hb)
  have hl' : ∀ b ∈ frs outer, b ∈ frs (env :: outer) := fun b hb => by
    unfold frs at hb ⊢
    rw [List.filterMap_cons, hf]
    exact List.mem_cons_of_mem _ hb
  have ne : ∀ b, h.get? b = none -> base.get? b = none := fun b e => PySem.W.fresh_of_stays hst e
  refine hQ h' T' ⟨fun b o e => k1 b o (hB b o e), ne ea hx.new, ne T' hT', PySem.W.funFrames_base hB k3, ⟨_, oe, vs, oT, ts, e1, e2, e3, e4, e6, e7, e8, e9⟩, hok.none_of hx.new, hok.none_of hT', fun b hb => hl b (hl' b hb)⟩ hx.new hT' keep slot fun c o e => ?_
  refine (hok c o e).stay (fun b u hb q => keep b u q fun hm => ?_) (fun _ q => q) fun _ _ q => q
  have hn : H b ≠ none := by
    rcases hb with rfl | hb
    · rw [e]; exact fun z => by cases z
    · rw [hb]; exact fun z => by cases z
  exact hn (hl b hm)
end
inductive CX1 (P : Program) (w : World) (base : Heap) (outer : List Env) (H : Hp) (s : Shared) (E : XK) (e : Value) (s' : Shared) : Prop
  | mk (ea T C : Addr) (H' : Hp) (he : e = .ref ea) (os : s'.os = s.os) (bare : AllBare s'.gens) (un : Un (frs outer) [] H H' s.heap s'.heap) (hok : HOk P w H' s'.heap) (fly : Fly base outer ea T C H' s'.heap)
      (ne : s.heap.get? ea = none) (nT : s.heap.get? T = none) (q : E (.ref C) none H') : CX1 P w base outer H s E e s'
section
variable {P : Program} {w : World} {K : PySem.W.Frag} {mg : Str -> Option Value} {base : Heap} {N : List Str} {qual : Str} {scope : Scope} {f : Addr} {cd : Value} {A : Around} {outer : List Env} {s : Shared} {H : Hp} {E E' : XK}
theorem pass1 (hE : ∀ c H', E c none H' -> E' c none H') : Passes (CX1 P w base) (cxOf (CX1 P w base) P w K mg base N qual scope f cd A outer s H E') E := by
  intro pins σ H1 s1 e s2 I c
  obtain ⟨ea, T, C, H', rfl, os, bare, un, hok, fly, ne, nT, q⟩ := c
  have hst : (cxOf (CX1 P w base) P w K mg base N qual scope f cd A outer s H E').stack = envOfC qual scope s.heap.objs.size f cd :: outer := rfl
  have szL : ∀ b o, s.heap.get? b = some o -> b ≠ s.heap.objs.size := fun b o e => Nat.ne_of_lt (Heap.lt_size e)
  have hfs : ∀ b o, s.heap.get? b = some o -> b ∉ frs outer -> b ∉ frs (envOfC qual scope s.heap.objs.size f cd :: outer) := fun b o e hb hm => by
    rcases List.mem_cons.mp (show b ∈ s.heap.objs.size :: frs outer from hm) with z | z
    · exact szL b o e z
    · exact hb z
  have sub : ∀ b ∈ frs outer, b ∈ frs (envOfC qual scope s.heap.objs.size f cd :: outer) := fun b hb => List.mem_cons_of_mem _ (show b ∈ frs outer from hb)
  have ne0 : ∀ {c : Addr}, s1.heap.get? c = none -> s.heap.get? c = none := fun {c} h => by
    cases r : s.heap.get? c with
    | none => rfl
    | some o =>
      obtain ⟨o', r'⟩ := I.base.there c o r (by simp [cxOf])
      rw [h] at r'; cases r'
  have nex : ∀ b : Addr, b ∉ (cxOf (CX1 P w base) P w K mg base N qual scope f cd A outer s H E').ex := fun b z => by cases z
  refine leave_fly (P := P) (w := w) (T := T) (H := H') (I.ok.frames) rfl fly hok fun h' T' F' t af hok' => ?_
  refine ⟨ea, T', C, H', rfl, os.trans I.os, bare, ?_, hok', F', ne0 ne, ?_, hE _ _ q⟩
  · have step : ∀ b o, s.heap.get? b = some o -> H b = none -> ∃ sl, s2.heap.get? b = some { o with slots := sl } /\ (b ∉ frs outer -> s2.heap.get? b = some o) /\ H' b = none := fun b o e n => by
      have hn := I.base.free b o e n (nex b)
      by_cases hb : b ∈ frs outer
      · obtain ⟨sl, e1⟩ := I.base.slot b o e n hb (nex b)
        obtain ⟨sl', e2⟩ := un.any e1 hn (by simp)
        exact ⟨sl', e2, fun z => absurd hb z, un.free b _ e1 hn (by simp)⟩
      · have e1 := I.base.keep b o e n hb (nex b)
        have e2 := un.keep b o e1 hn (hfs b o e hb) (by simp)
        exact ⟨o.slots, e2, fun _ => e2, un.free b _ e1 hn (by simp)⟩
    have nea : ∀ b o, s.heap.get? b = some o -> b ≠ ea := fun b o e z => by rw [z, ne0 ne] at e; cases e
    have neT : ∀ b o, s.heap.get? b = some o -> b ≠ T := fun b o e z => by rw [z, ne0 nT] at e; cases e
    refine ⟨fun b o e n hb _ => ?_, fun b o e n hb _ => ?_, fun b o e n _ => ?_, fun b o e _ => ?_, fun b xs e => un.tups b xs (I.base.tups b xs e), fun b o u e => un.frzs b o u (I.base.frzs b o u e), fun b ps e => ?_⟩
    · exact af.keep b o ((step b o e n).choose_spec.2.1 hb) (nea b o e) (neT b o e) (hfs b o e hb)
    · obtain ⟨sl, e1, _, _⟩ := step b o e n
      obtain ⟨sl', e2⟩ := af.slot b _ e1 (sub b hb)
      exact ⟨sl', e2⟩
    · exact (step b o e n).choose_spec.2.2
    · obtain ⟨o1, e1⟩ := I.base.there b o e (nex b)
      obtain ⟨o2, e2⟩ := un.there b o1 e1 (by simp)
      by_cases hm : b ∈ frs (envOfC qual scope s.heap.objs.size f cd :: outer)
      · obtain ⟨sl, e3⟩ := af.slot b o2 e2 hm
        exact ⟨_, e3⟩
      · exact ⟨o2, af.keep b o2 e2 (nea b o e) (neT b o e) hm⟩
    · obtain ⟨m1, e1⟩ := I.base.tbls b ps e
      obtain ⟨m2, e2⟩ := un.tbls b _ e1
      exact ⟨m1 ++ m2, by rw [e2, Array.append_assoc]⟩
  · rcases t with z | z
    · rw [z]; exact ne0 nT
    · cases r : s.heap.get? T' with
      | none => rfl
      | some o =>
        obtain ⟨o1, e1⟩ := I.base.there T' o r (nex T')
        obtain ⟨o2, e2⟩ := un.there T' o1 e1 (by simp)
        rw [z] at e2; cases e2
theorem Fun.ok1 {x qual : Str} {st : Stmt} {f : Addr} {fd : FuncData} {N ps : List Str} {k : Nat} {sp : Sp} (F : Fun K x qual st f fd) (S : FnScope N ps (defScope st)) (len : ∀ vs H Q E, sp vs H Q E -> vs.length = ps.length)
    (hbody : ∀ (cdv : Value) (A : Around) (outer : List Env) (s : Shared) (H : Hp) (vs : List V) (Q : VK) (E : XK), Room k (A.deeper (envOfC qual (defScope st) s.heap.objs.size f cdv)) -> sp vs H Q E ->
      ∃ t, PSs (cxOf (CX1 P w base) P w K mg base N qual (defScope st) f cdv A outer s H E) (defBody st) t /\ t { nx := fun _ H' => Q .non H', rt := Q } (start N vs) H) : FnOk P w K mg base (CX1 P w base) (k + 1) f fd ps sp := by
  obtain ⟨oc, od, kV, doc, pm, an, cdv, ct, osl, rfl, lk, hcd⟩ := F.ex
  exact fn_of lk hcd S len fun A outer s H vs Q E hr hsp => hbody cdv A outer s H vs Q E hr hsp
end
end L2
namespace L2
open PySem PySem.Spec PyProof.Rows
section
variable {K : PySem.W.Frag} {h : Heap} {C : Addr} {bmB : List Value} {newId : String}
theorem own_obj (X : K.In h) (q : PySem.W.excIn K C bmB newId = true) : ∃ bm N nm qn bs hdct sn sub ab col dd k0 k1 k2 k3 k5 mN, h.get? C = some (excClassObj nm qn C N bs bm hdct sn sub ab col dd k0 k1 k2 k3 k5 newId) /\ h.Ns N mN /\ mN "__init__" = none /\ OwnTail h bmB bm := by
  unfold PySem.W.excIn at q
  split at q <;> try cases q
  next dd cd sl ho =>
    split at q <;> try cases q
    next C' bm k0 k1 k2 k3 n k5 hm hs =>
      rw [Bool.and_eq_true, Bool.and_eq_true, Bool.and_eq_true, Bool.and_eq_true, Bool.and_eq_true, beq_iff_eq, beq_iff_eq, beq_iff_eq, Bool.not_eq_true'] at q
      obtain ⟨⟨⟨⟨⟨e1, e2⟩, e3⟩, e4⟩, e5⟩, e6⟩ := q
      subst e1; subst e2
      have hsl : sl = #[k0, k1, k2, k3, some (.builtin n), k5] := by cases sl with | mk l => exact congrArg _ hs
      cases cd with
      | mk c1 c2 c3 c4 c5 c6 c7 c8 c9 c10 c11 =>
        have hm : c3 = .ref C' :: bm := hm
        have e3 : c11 = false := e3
        subst hm; subst e3; subst hsl
        exact ⟨bm, c4, c1, c5, c2, c6, c7, c8, c9, c10, dd, k0, k1, k2, k3, k5, _, X _ _ ho, .of_isNs (PySem.W.isNs_of_in X e5), PySem.W.nsMap_none_of_in X e5 e6, PySem.W.tail_of_in X e4⟩
end
noncomputable def Raises (X : Cx) (E : XK) (C : Addr) : Prop := ∀ (pins : List (Addr × Obj)) (σ : St) (H : Hp) (s : Shared) (h' : Heap) (e : Addr) (args : List Value), Inv X pins σ H s -> Heap.MadeExcOf s.heap h' e (.ref C) args -> E (.ref C) none H -> X.xe (.ref e) { s with heap := h' }
noncomputable def tRaise (E : XK) (C : Addr) (t : TA) : TS := fun _ σ H => t σ H fun vs H1 => vs.length <= sizeLine /\ E (.ref C) none H1
section
variable {X : Cx} {x : Str} {C : Addr} {np cpos pos : Pos} {e : Expr} {es : List Expr} {t : TA} {B newId initId : String} {bmB : List Value} {E : XK}
theorem ps_raise (FB : ExcBaseFacts B newId initId bmB) (hx : PySem.W.excIn X.K C bmB newId = true) (hg : Gl X x) (hm : X.mg x = some (.ref C)) (hr : Raises X E C) (hc : X.calm = true) (ha : PA X (e :: es) t)
    (hdb : (x == ("__debug__" : Str)) = false := by decide) (he : starEach (e :: es) X.env = (false, eval e X.env) :: starEach es X.env := by rfl) (hpl : (backTo cpos (starEach es X.env)).any (·.1) = false := by rfl) :
    PS X (.Raise (some (.Call (.Name x np) (e :: es) [] cpos)) none pos) (tRaise E C t) := by
  intro pins s σ H D I h
  obtain ⟨tl, N, nm, q, bs, hdct, sn, sub, ab, col, dd, k0, k1, k2, k3, k5, mN, hC, hN, hni, T⟩ := own_obj I.mod.kin hx
  refine wpAny_Raise_call_subT (C := C) (nm := nm) (q := q) (N := N) (bs := bs) (bm := tl) (hdct := hdct) (sn := sn) (sub := sub) (ab := ab) (col := col) (dd := dd) (k0 := k0) (k1 := k1) (k2 := k2) (k3 := k3) (k5 := k5) FB (mN := mN) (T.hasType FB.hasBase) (I.ok.hd hc)
    (by rw [he]; show (false || (backTo cpos (starEach es X.env)).any (·.1)) = false; rw [hpl]; rfl) hni (ld_glob I hg hm ⟨rfl, ?_⟩ hdb)
  have w1 := ha cpos pins s σ H _ I h
  rw [he] at w1 ⊢
  refine Calls.evalArgs_plain (thn w1 fun us s2 ⟨vs, H1, I1, r, hl, q1⟩ => ⟨rfl, ?_, I1.bk _ _ hC, hN.keeps I1.bk, T.keeps I1.bk, fun h' ea hm => ?_⟩)
  · rw [<- r.length]; exact hl
  · exact hr pins σ H1 s2 h' ea us I1 hm q1
end
section
variable {P : Program} {w : World} {K : PySem.W.Frag} {mg : Str -> Option Value} {base : Heap} {N : List Str} {qual : Str} {scope : Scope} {f : Addr} {cd : Value} {A : Around} {outer : List Env} {s : Shared} {H : Hp} {E : XK} {C : Addr}
theorem raises1 : Raises (cxOf (CX1 P w base) P w K mg base N qual scope f cd A outer s H E) E C := by
  intro pins σ H1 s1 h' e args I hx q
  have hst : (cxOf (CX1 P w base) P w K mg base N qual scope f cd A outer s H E).stack = envOfC qual scope s.heap.objs.size f cd :: outer := rfl
  have szL : ∀ b o, s.heap.get? b = some o -> b ≠ s.heap.objs.size := fun b o e => Nat.ne_of_lt (Heap.lt_size e)
  have hfs : ∀ b o, s.heap.get? b = some o -> b ∉ frs outer -> b ∉ frs (envOfC qual scope s.heap.objs.size f cd :: outer) := fun b o e hb hm => by
    rcases List.mem_cons.mp (show b ∈ s.heap.objs.size :: frs outer from hm) with z | z
    · exact szL b o e z
    · exact hb z
  have nex : ∀ b : Addr, b ∉ (cxOf (CX1 P w base) P w K mg base N qual scope f cd A outer s H E).ex := fun b z => by cases z
  have ne0 : ∀ {c : Addr}, s1.heap.get? c = none -> s.heap.get? c = none := fun {c} h => by
    cases r : s.heap.get? c with
    | none => rfl
    | some o =>
      obtain ⟨o', r'⟩ := I.base.there c o r (nex c)
      rw [h] at r'; cases r'
  refine leave_made (P := P) (w := w) (base := base) (h := s1.heap) (C := C) (args := args) I.ok.frames rfl I.stack I.bk I.hok I.stkFree hx fun h2 T' F' ne nT keep slot hok' => ?_
  refine ⟨e, T', C, H1, rfl, I.os, I.bare, ⟨fun b o e n hb _ => ?_, fun b o e n hb _ => ?_, fun b o e n _ => I.base.free b o e n (nex b), fun b o e _ => ?_, I.base.tups, I.base.frzs, I.base.tbls⟩, hok', F', ne0 ne, ne0 nT, q⟩
  · exact keep b o (I.base.keep b o e n hb (nex b)) (hfs b o e hb)
  · obtain ⟨sl, e1⟩ := I.base.slot b o e n hb (nex b)
    obtain ⟨sl', e2⟩ := slot b _ e1 (List.mem_cons_of_mem _ (show b ∈ frs outer from hb))
    exact ⟨sl', e2⟩
  · obtain ⟨o1, e1⟩ := I.base.there b o e (nex b)
    by_cases hm : b ∈ frs (envOfC qual scope s.heap.objs.size f cd :: outer)
    · obtain ⟨sl, e3⟩ := slot b o1 e1 hm
      exact ⟨_, e3⟩
    · exact ⟨o1, keep b o1 e1 hm⟩
end
end L2
namespace L2
open PySem PySem.Spec PyProof.Rows PySem.Builtin.ObjectAttr PySem.Builtin.Getset_descriptor
structure Err (K : PySem.W.Frag) (C G : Addr) : Prop where
  xc : PySem.W.excIn K C [.type "ValueError", .type "Exception", .type "BaseException", .type "object"] "ValueError.__new__" = true
  get : PySem.W.findIn K (.ref C) "__getattribute__" = some (some (.builtin "BaseException.__getattribute__"))
  ga : PySem.W.findIn K (.ref C) "__getattr__" = some none
  cls : PySem.W.findIn K (.ref C) "__class__" = some (some (.builtin "object.__class__"))
  mro : PySem.W.mroIn K C (.type "object") = some true
  bx : PySem.W.mroIn K C (.type "BaseException") = some true
  up : PySem.W.mroIn K C (.ref G) = some true
structure ObGt (K : PySem.W.Frag) : Prop where
  get : PySem.W.specialIn K (.builtin "object.__class__") "__get__" = some (some (.builtin "getset_descriptor.__get__"))
  take : PySem.W.takesIn K (.builtin "object.__class__") = some true
noncomputable def ExAt (a C : Addr) (h : Heap) : Prop := ∃ o, h.get? a = some o /\ o.cls = .ref C /\ ∃ vs, o.data = .fields vs
noncomputable def ExO (a C : Addr) : HO := .ext (ExAt a C)
section
variable {prog : Program} {w : World} {A : Around} {E : Value -> Shared -> Prop} {s : Shared} {K : PySem.W.Frag} {x C G : Addr}
theorem ExAt.type {M : Model} {h : Heap} (e : ExAt x C h) : PySem.W.Looks M h (typeOf (.ref x)) (.ref C) := by
  obtain ⟨o, e1, e2, _⟩ := e
  exact e2 ▸ (PySem.W.Looks.ld e1).andThen .now
theorem Err.isTy {M : Model} {h : Heap} (X : K.In h) (r : Err K C G) : PySem.W.Looks M h (isType (.ref C)) true := by
  obtain ⟨tl, N, nm, q, bs, hdct, sn, sub, ab, col, dd, k0, k1, k2, k3, k5, mN, hC, _⟩ := own_obj X r.xc
  intro A' Q' E' s' k q
  unfold isType loadHead
  exact wpAny_bind (wpAny_loadPart (k _ _ hC) (wpAny_pure q))
theorem exc_cls {Q : Option Value -> Shared -> Prop} (X : K.In s.heap) (e : ExAt x C s.heap) (r : Err K C G) (g : ObGt K) (h : Q (some (.ref C)) { s with toks := s.toks + 1 }) :
    wpAny (model prog w) A (getAttr? (.ref x) "__class__") Q E s := by
  cases s with
  | mk hh gg d t os =>
    have L0 := e.type (M := model prog w)
    have L1 := PySem.W.looks_findIn (M := model prog w) X r.get
    have L2 := PySem.W.looks_findIn (M := model prog w) X r.ga
    have L3 := PySem.W.looks_mroIn (M := model prog w) X r.mro
    have L4 : PySem.W.Looks (model prog w) hh (find (.ref x) (.ref C) "__class__") (.bind (.builtin "getset_descriptor.__get__") (.builtin "object.__class__")) :=
      (PySem.W.looks_findIn (M := model prog w) X r.cls).andThen ((show PySem.W.Looks (model prog w) hh (getOf (some (.builtin "object.__class__"))) (some (.builtin "getset_descriptor.__get__")) from PySem.W.looks_specialIn X g.get).andThen
        ((show PySem.W.Looks (model prog w) hh (dataDescriptor? (some (.builtin "object.__class__")) (some (.builtin "getset_descriptor.__get__"))) (some (.builtin "getset_descriptor.__get__", .builtin "object.__class__")) from (PySem.W.looks_takesIn X g.take).andThen .now).andThen (PySem.W.Looks.tag .now)))
    have inner : ∀ {A : Around} {E' : Value -> Shared -> Prop} {P : Value -> Shared -> Prop} {t : Nat}, P (.ref C) ⟨hh, gg, d, t, os⟩ -> wpAny (model prog w) A (call (.builtin "getset_descriptor.__get__") [.builtin "object.__class__", .ref x, .ref C]) P E' ⟨hh, gg, d, t, os⟩ := by
      intro A E' P t hp
      refine wpAny_call (codeAny_call_builtin PySem.W.KF.slot_gs.plain PySem.W.KF.entry_gs (PySem.W.KF.slot_gs.check _ _ _ _ _ _ _ _ PySem.W.KF.type_class (PySem.W.KF.args_gs _ _ _) ?_))
      unfold Builtin.«getset_descriptor.__get__» descrGet; rw [PySem.W.dga_obj]; refine wpAny_bind (wpAny_pure ?_)
      unfold descrGetter descrCheckInstance descrNameAndClass isInstance; simp only [PySem.W.KF.owner_class]; repeat lk
      refine ⟨Code.quiet_builtin _ (by decide +kernel), codeAny_builtin PySem.W.KF.entry_class ?_⟩; unfold Builtin.«object.__class__» shownTypeOf; repeat lk
      exact hp
    have L5 := PySem.W.looks_mroIn (M := model prog w) X r.bx
    have hb : bindSpecial (.builtin "BaseException.__getattribute__") (.ref x) = pure (.builtin "BaseException.__getattribute__", [.ref x]) := F.excAttr_ValueError.ga.bind (.ref x)
    unfold getAttr? getAttrBy? getAttrBy
    refine wpAny_bind (wpAny_mkText (wpAny_bind (wpAny_attempt (wpAny_holding (wpAny_bind (L0.at (wpAny_bind (L1.at ?_))))))))
    dsimp only
    rw [if_neg (show ¬ (onTheHeap (Value.ref C) && Value.builtin "BaseException.__getattribute__" == Value.builtin "object.__getattribute__") = true from by rw [show (Value.builtin "BaseException.__getattribute__" == Value.builtin "object.__getattribute__") = false from by decide +kernel, Bool.and_false]; decide)]
    unfold getAttrByItsOwn
    refine wpAny_bind ((show PySem.W.Looks (model prog w) hh (hookBefore (.ref C)) none from L2).at ?_)
    refine wpAny_bind (wpAny_attempt (wpAny_holding ?_))
    show wpAny _ _ (boundAndCalled _ _ _) _ _ _
    unfold boundAndCalled
    rw [hb]
    refine wpAny_bind (wpAny_pure (wpAny_call (codeAny_call_builtin F.excAttr_ValueError.ga.plain F.entry_bexc_ga (@PySem.W.check_slot (model prog w) _ _ _ "BaseException.__getattribute__" "BaseException" "__getattribute__" (.ref x) [.str "__class__" t] [] _ (by decide +kernel) (by decide +kernel) (L0.andThen L5) (F.args_bexc_ga _ _) ?_))))
    unfold Builtin.«object.__getattribute__»
    iterate 6 lk
    refine wpAny_pure ?_
    refine wpAny_bind (wpAny_pure ?_)
    refine wpAny_bind (L0.at ?_)
    refine wpAny_bind (L4.at ?_)
    show wpAny _ _ (bindTo (.builtin "getset_descriptor.__get__") (.builtin "object.__class__") (.ref x) (.ref C)) _ _ _
    show wpAny _ _ (holding [.builtin "object.__class__"] (call (.builtin "getset_descriptor.__get__") [.builtin "object.__class__", .ref x, .ref C]) >>= ret) _ _ _
    refine wpAny_bind (wpAny_holding (inner (wpAny_pure ?_)))
    exact (show wpAny _ _ (handedOut (.ref C)) _ _ _ from wpAny_pure (wpAny_pure h))
theorem kitx_exc (r : Err K C G) (g : ObGt K) : PySem.W.KitX K (.ref x) (.ref C) (ExAt x C) where
  ty := fun _ _ _ e => e.type
  it := fun _ _ X _ => r.isTy X
  ne := fun h tp dd its n sl X htp => by
    obtain ⟨tl, N, nm, q, bs, hdct, sn, sub, ab, col, dd', k0, k1, k2, k3, k5, mN, hC, _⟩ := own_obj X r.xc
    cases hq : (Value.ref C == .ref tp) with
    | false => rfl
    | true =>
      have e : C = tp := Value.ref.inj (beq_iff_eq.mp hq)
      subst e
      have z := Option.some.inj (hC.symm.trans htp)
      have z : Data.cls _ = Data.seq _ _ := congrArg Obj.data z
      cases z
  ca := fun X e k => exc_cls X e r g k
end
section
variable {X : Cx}
inductive IsiE (K : PySem.W.Frag) (xs : List V) (H : Hp) (Q : VK) : Prop
  | mk (a C G : Addr) (c : V) (cv : Value) (b : Bool) (e : xs = [.ref a, c]) (f : ClsV c cv) (h : H a = some (ExO a C)) (r : Err K C G) (k : PySem.W.kitOne K (.ref C) cv = some b) (q : Q (.bl b) H) : IsiE K xs H Q
theorem call_isiE (K : PySem.W.Frag) (g : ObGt K) (hK : X.K = K := by rfl) : CallR X (.builtin "isinstance") (IsiE K) := by
  subst hK
  intro pins s σ H xs us Q I r h
  obtain ⟨a, C, G, c, cv, b, rfl, hc, ha, er, k, q⟩ := h
  obtain ⟨u, v, rfl, ru, rv⟩ := vals2 r
  have hv : v = cv := by cases hc <;> exact rv
  subst hv
  cases (show u = Value.ref a from ru)
  obtain ⟨p, _, _⟩ := (show ObjOk X.prog X.w H s.heap a (ExO a C) from I.hok a _ ha)
  exact PySem.W.kia_one (kitx_exc er g) I.kIn p k (fun z => nomatch z) fun tk => ⟨.bl b, H, I.tok tk, rfl, q⟩
end
end L2
namespace L2
open PySem PySem.Spec PyProof.Rows
section
variable {P : Program} {w : World} {M : Model} {A : Around} {E : Value -> Shared -> Prop} {s : Shared} {K : PySem.W.Frag} {x C G : Addr} {base : Heap} {env : Env} {outer : List Env} {ea T L : Addr} {H : Hp}
theorem exc_matches {Q : Bool -> Shared -> Prop} (X : K.In s.heap) (e : ExAt x C s.heap) (r : Err K C G) (g : Err K G G) (hq : Q true s) : wpAny M A (excMatches (.ref x) (.ref G)) Q E s := by
  obtain ⟨tl, N, nm, q, bs, hdct, sn, sub, ab, col, dd, k0, k1, k2, k3, k5, mN, hG, _, _, T⟩ := own_obj X g.xc
  cases s with
  | mk hh gg d t os =>
    have hcB : (Value.ref G :: tl).contains (.type "BaseException") = true := by rw [List.contains_cons, T.hasType (X := "BaseException") (b := true) (by decide), Bool.or_true]
    have L0 := e.type (M := M)
    have L1 := PySem.W.looks_mroIn (M := M) X r.up
    have f := tc_notTuple
    unfold excMatches
    repeat (first | with_reducible refine wpAny_loadPart_at hG ?_ | (with_reducible refine wpAny_isSubtype_exc hG ?_; rw [hcB]) | with_reducible refine PySem.W.Looks.at L0 ?_ | with_reducible refine PySem.W.Looks.at L1 ?_ | wp_step)
    exact hq
theorem land_fly {Q : Unit -> Shared -> Prop} (F : Fly base (env :: outer) ea T C H s.heap) (hok : HOk P w H s.heap)
    (hQ : ∀ h' T', Fly base (env :: outer) ea T' C H h' -> (T' = T \/ s.heap.get? T' = none) -> Aft (env :: outer) ea T s.heap h' -> HOk P w H h' -> Q () { s with heap := h' }) : wpAny M A (setFlight (.ref ea) none) Q E s := by
  obtain ⟨B, a0, hB, hs, fl, hk⟩ := fly_big F
  refine lands_againW fl fun h2 fl2 up2 => ?_
  obtain ⟨T', F', t, af⟩ := fly_small F hok hB hk fl2 up2 (fun b hb => hb)
  exact hQ h2 T' F' t af (af.hok hok F.he F.hT F.hl)
theorem Fly.exAt {l : List Env} {h : Heap} (F : Fly base l ea T C H h) : ExAt ea C h := by
  obtain ⟨_, oe, vs, _, _, e1, e2, e3, _⟩ := F.tr
  exact ⟨oe, e1, e2.1, vs, e3⟩
theorem Un.look {l : List Env} {H H' : Hp} {h h1 h2 : Heap} (u : Un (frs l) [] H H' h h1) (a : Aft l ea T h1 h2) (ne : h.get? ea = none) (nT : h.get? T = none) : Un (frs l) [] H H' h h2 := by
  have n1 : ∀ b o, h.get? b = some o -> b ≠ ea := fun b o e z => by rw [z, ne] at e; cases e
  have n2 : ∀ b o, h.get? b = some o -> b ≠ T := fun b o e z => by rw [z, nT] at e; cases e
  refine ⟨fun b o e n hb hx => a.keep b o (u.keep b o e n hb hx) (n1 b o e) (n2 b o e) hb, fun b o e n hb hx => ?_, u.free, fun b o e hx => ?_, u.tups, u.frzs, u.tbls⟩
  · obtain ⟨sl, e1⟩ := u.slot b o e n hb hx
    obtain ⟨sl', e2⟩ := a.slot b _ e1 hb
    exact ⟨sl', e2⟩
  · obtain ⟨o1, e1⟩ := u.there b o e hx
    by_cases hm : b ∈ frs l
    · obtain ⟨sl, e3⟩ := a.slot b o1 e1 hm
      exact ⟨_, e3⟩
    · exact ⟨o1, a.keep b o1 e1 (n1 b o e) (n2 b o e) hm⟩
end
section
variable {X : Cx} {pins pins0 : List (Addr × Obj)} {σ σ0 : St} {H H0 : Hp} {s s0 : Shared} {ea C : Addr}
theorem Inv.track (I : Inv X pins σ H s) (I0 : Inv X pins0 σ0 H0 s0) (hex : X.ex = []) (ne : s0.heap.get? ea = none) (hn : H ea = none) (e : ExAt ea C s.heap) (hp : ∀ p ∈ X.pn ++ pins, p.1 ≠ ea) : Inv X pins σ (upd H ea (ExO ea C)) s := by
  have nex : ∀ b : Addr, b ∉ X.ex := fun b z => by rw [hex] at z; cases z
  have ne0 : ∀ b o, X.s₀.heap.get? b = some o -> b ≠ ea := fun b o r z => by
    obtain ⟨o', r'⟩ := I0.base.there b o r (nex b)
    rw [z, ne] at r'; cases r'
  have nu : ∀ b u, H b = some u -> b ≠ ea := fun b u r z => by rw [z, hn] at r; cases r
  refine ⟨I.ok, I.os, I.bare, ⟨I.base.keep, I.base.slot, fun b o r n hx => ?_, I.base.there, fun b xs r => ?_, fun b o u r => ?_, fun b ps r => ?_⟩, I.loc, I.cell, ?_, fun y c r => ?_, fun p hpp => ?_, fun b o r => ?_, I.len⟩
  · rw [upd_ne (ne0 b o r)]; exact I.base.free b o r n hx
  · have q := I.base.tups b xs r
    rw [upd_ne (nu b _ q)]; exact q
  · have q := I.base.frzs b o u r
    rw [upd_ne (nu b _ q)]; exact q
  · obtain ⟨m, q⟩ := I.base.tbls b ps r
    exact ⟨m, by rw [upd_ne (nu b _ q)]; exact q⟩
  · rw [upd_ne]
    · exact I.free
    · intro z
      obtain ⟨m, ⟨o, _, _, r, _⟩, _⟩ := I0.loc
      rw [z, ne] at r; cases r
  · rw [upd_ne]
    · exact I.freeC y c r
    · intro z
      obtain ⟨v, o, q, _⟩ := I0.cell y c r
      rw [z, ne] at q; cases q
  · obtain ⟨q1, q2, q3⟩ := I.pin p hpp
    exact ⟨q1, by rw [upd_ne (hp p hpp)]; exact q2, q3⟩
  · by_cases hb : b = ea
    · subst hb
      rw [upd_same] at r; cases r
      obtain ⟨oe, e1, e2⟩ := id e
      exact ⟨e, ⟨oe, e1⟩, fun h1 h2 ⟨o', p1, p2⟩ k => ⟨o', k o' p1, p2⟩⟩
    · rw [upd_ne hb] at r
      exact (I.hok b o r).stay (fun c u _ q => q) (fun c q => by rw [upd_ne (nu c _ q)]; exact q) fun c xs q => by rw [upd_ne (nu c _ q)]; exact q
theorem Inv.unnamed {h' : Heap} {m' : Str -> Option Value} {t' : Nat} (I : Inv X pins σ H s) (hn : h'.Ns X.env.locals m') (sb : Heap.SameBut X.env.locals s.heap h') : Inv X pins (List.replicate X.N.length none) H { s with heap := h', toks := t' } := by
  have nL : ∀ b o, X.s₀.heap.get? b = some o -> b ≠ X.env.locals := fun b o e => Nat.ne_of_lt (Nat.lt_of_lt_of_le (Heap.lt_size e) I.ok.above)
  have keep : ∀ b o, b ≠ X.env.locals -> s.heap.get? b = some o -> h'.get? b = some o := fun b o ne e => (sb.2 b ne).trans e
  refine ⟨I.ok, I.os, I.bare, ⟨fun b o e n hb hx => keep b o (nL b o e) (I.base.keep b o e n hb hx), fun b o e n hb hx => ?_, I.base.free, fun b o e hx => ?_, I.base.tups, I.base.frzs, I.base.tbls⟩, ⟨m', hn, fun i x v h1 h2 h3 => ?_⟩, fun y c e => ?_, I.free, I.freeC, fun p hp => ?_, fun b o e => ?_, List.length_replicate⟩
  · obtain ⟨sl, e1⟩ := I.base.slot b o e n hb hx
    exact ⟨sl, keep b _ (nL b o e) e1⟩
  · obtain ⟨o1, e1⟩ := I.base.there b o e hx
    exact ⟨o1, keep b _ (nL b o e) e1⟩
  · rw [List.getElem?_replicate] at h2
    split at h2 <;> cases h2
  · obtain ⟨v, o, e1, e2⟩ := I.cell y c e
    exact ⟨v, o, keep c o (I.cne y c e) e1, e2⟩
  · obtain ⟨q1, q2, q3, q4, q5⟩ := I.pin p hp
    exact ⟨keep p.1 p.2 q3 q1, q2, q3, q4, q5⟩
  · have nl : ∀ c u, H c = some u -> c ≠ X.env.locals := fun c u r z => by rw [z, I.free] at r; cases r
    refine (I.hok b o e).stay (fun c u hc q => keep c u ?_ q) (fun _ q => q) fun _ _ q => q
    rcases hc with rfl | hc
    · exact nl c o e
    · exact nl c _ hc
theorem Inv.bear {xe : Value -> Shared -> Prop} (I : Inv X pins σ H s) : Inv { X with pn := X.pn ++ pins, xe := xe } [] σ H s :=
  ⟨⟨I.ok.mod, I.ok.kind, I.ok.glob, I.ok.blt, I.ok.above, I.ok.inj, I.ok.has, I.ok.cab, I.ok.hd, I.ok.frames, I.ok.stk, I.ok.exf, I.ok.bs, I.ok.bsz, I.ok.noex, I.ok.exfs, I.ok.funs, I.ok.frf⟩, I.os, I.bare, I.base, I.loc, I.cell, I.free, I.freeC, fun p hp => I.pin p (by simpa using hp), I.hok, I.len⟩
theorem Inv.unbear {pins' : List (Addr × Obj)} {xe : Value -> Shared -> Prop} (I : Inv { X with pn := X.pn ++ pins, xe := xe } pins' σ H s) : Inv X pins σ H s :=
  ⟨⟨I.ok.mod, I.ok.kind, I.ok.glob, I.ok.blt, I.ok.above, I.ok.inj, I.ok.has, I.ok.cab, I.ok.hd, I.ok.frames, I.ok.stk, I.ok.exf, I.ok.bs, I.ok.bsz, I.ok.noex, I.ok.exfs, I.ok.funs, I.ok.frf⟩, I.os, I.bare, I.base, I.loc, I.cell, I.free, I.freeC, fun p hp => I.pin p (List.mem_append_left _ hp), I.hok, I.len⟩
noncomputable abbrev Cx.caught (X : Cx) (e : Value) : Cx := { X with A := X.A.mark (some e), calm := false, xe := fun _ _ => False }
theorem Inv.caught {e : Value} (I : Inv X pins σ H s) : Inv (X.caught e) pins σ H s :=
  ⟨⟨I.ok.mod, I.ok.kind, I.ok.glob, I.ok.blt, I.ok.above, I.ok.inj, I.ok.has, I.ok.cab, (fun h => by cases h), I.ok.frames, I.ok.stk, I.ok.exf, I.ok.bs, I.ok.bsz, I.ok.noex, I.ok.exfs, I.ok.funs, I.ok.frf⟩, I.os, I.bare, I.base, I.loc, I.cell, I.free, I.freeC, I.pin, I.hok, I.len⟩
theorem Inv.uncaught {e : Value} (I : Inv (X.caught e) pins σ H s) (ok : X.Ok) : Inv X pins σ H s := ⟨ok, I.os, I.bare, I.base, I.loc, I.cell, I.free, I.freeC, I.pin, I.hok, I.len⟩
end
noncomputable def xTry (K : PySem.W.Frag) (G : Addr) (th : TS) (m j : Nat) (rt : VK) : XK := fun c _ H => ∃ C, c = .ref C /\ Err K C G /\ ∀ (ea : Addr) (σ : St), σ.length = m -> H ea = none -> th { nx := fun _ _ => False, rt := rt } (σ.set j (some (.ref ea))) (upd H ea (ExO ea C))
noncomputable def tTry (K : PySem.W.Frag) (G : Addr) (tb : XK -> TS) (th : TS) (m j : Nat) : TS := fun D σ H => tb (xTry K G th m j D.rt) D σ H
theorem ps_try {X : Cx} {x n : Str} {j : Nat} {np hpos pos : Pos} {body : List Stmt} {b₀ : Stmt} {suite : List Stmt} {tb : XK -> TS} {th : TS} {G : Addr} (hG : Err X.K G G) (hg : Gl X x) (hm : X.mg x = some (.ref G)) (hN : X.N.Nodup)
    (hj : X.N[j]? = some n) (hlo : X.env.kindOf n = some .local) (hst : X.stack = X.env :: X.outer) (hfr : X.env.frame = some X.env.locals) (hex : X.ex = [])
    (hb : ∀ (E : XK) (pn : List (Addr × Obj)) (xe : Value -> Shared -> Prop), Passes (CX1 X.prog X.w X.base) { X with pn := pn, xe := xe } E -> PSs { X with pn := pn, xe := xe } body (tb E)) (hs : ∀ e : Value, PSs (X.caught e) (b₀ :: suite) th)
    (hz : X.nz n = false := by rfl) (hdb : (x == ("__debug__" : Str)) = false := by decide) :
    PS X (.Try body [.ExceptHandler (some (.Name x np)) (some n) (b₀ :: suite) hpos] [] [] pos) (tTry X.K G tb th X.N.length j) := by
  intro pins s σ H D I h
  refine wpAny_Try_except ?_
  refine wpAny_mono (hb (xTry X.K G th X.N.length j D.rt) (X.pn ++ pins) (fun e s1 => wpAny (model X.prog X.w) X.A (noteFrame e X.env) (fun _ s2 => wpAny (model X.prog X.w) X.A (setFlight e none) (fun _ s3 => wpAny (model X.prog X.w) X.A
    (handleBy e X.env [.ExceptHandler (some (.Name x np)) (some n) (b₀ :: suite) hpos]) (SP X pins D) X.xe s3) X.xe s2) X.xe s1) ?pass [] s σ H D I.bear h) (fun f s1 q => ?_) (fun e s1 q => q)
  rotate_left
  · cases f with
    | next => obtain ⟨σ', H', I', q⟩ := q; exact wpAny_execs_nil ⟨σ', H', I'.unbear, q⟩
    | brk => obtain ⟨σ', H', I', q⟩ := q; exact ⟨σ', H', I'.unbear, q⟩
    | cont => obtain ⟨σ', H', I', q⟩ := q; exact ⟨σ', H', I'.unbear, q⟩
    | ret u => obtain ⟨v, σ', H', I', r, q⟩ := q; exact ⟨v, σ', H', I'.unbear, r, q⟩
  ·
    intro pins' σ' H0 s0 e s1 I' c
    obtain ⟨ea, T, C, H1, rfl, os, bare, un, hok, fly, ne, nT, C', hC, er, q⟩ := c
    cases hC
    have fly' : Fly X.base (X.env :: X.outer) ea T C H1 s1.heap := by rw [<- hst]; exact fly
    have un' : Un (frs (X.env :: X.outer)) [] H0 H1 s0.heap s1.heap := by rw [<- hst]; exact un
    have frm : X.A.frames = some (X.env :: X.outer) := by rw [<- hst]; exact I.ok.frames
    have J0 : Inv X pins σ' H0 s0 := I'.unbear
    have hpin : ∀ p ∈ X.pn ++ pins, p.1 ≠ ea := fun p hp z => by
      have := (J0.pin p hp).1
      rw [z, ne] at this; cases this
    show wpAny (model X.prog X.w) X.A (noteFrame (.ref ea) X.env) _ _ s1
    refine look_fly (P := X.prog) (w := X.w) frm hfr fly' hok fun h2 T2 F2 t2 a2 hok2 => ?_
    have nT2 : s0.heap.get? T2 = none := by
      rcases t2 with z | z
      · rw [z]; exact nT
      · cases r : s0.heap.get? T2 with
        | none => rfl
        | some o =>
          obtain ⟨o', r'⟩ := un'.there T2 o r (by simp)
          rw [z] at r'; cases r'
    have un2 : Un (frs (X.env :: X.outer)) [] H0 H1 s0.heap h2 := un'.look a2 ne nT
    have J2 : Inv X pins σ' H1 { s1 with heap := h2 } := J0.call' (ch := []) os (by rw [hst]; exact un2) hok2 bare (fun b z => absurd z (by simp))
    refine wpAny_handleBy_cons (codeAny_handlers_test (ld_glob (X := X.caught (.ref ea)) J2.caught hg hm ?_ hdb)) (by intro z; cases z)
    refine exc_matches (K := X.K) J2.kIn F2.exAt er hG ?_
    show codeAny _ _ _ _ _
    refine codeAny_handlers_suite_as ?_
    refine land_fly (P := X.prog) (w := X.w) F2 hok2 fun h3 T3 F3 t3 a3 hok3 => ?_
    have un3 : Un (frs (X.env :: X.outer)) [] H0 H1 s0.heap h3 := un2.look a3 ne nT2
    have J3 : Inv X pins σ' H1 { s1 with heap := h3 } := J0.call' (ch := []) os (by rw [hst]; exact un3) hok3 bare (fun b z => absurd z (by simp))
    have J4 := (J3.track J0 hex ne F3.he F3.exAt hpin).caught (e := .ref ea)
    refine store_ok2 (X := X.caught (.ref ea)) J4 hN hj (.inl hlo) (show RelV (.ref ea) (.ref ea) from rfl) (fun s5 J5 _ => ?_) (.inr hlo) (fun z => by rw [show (X.caught (.ref ea)).nz n = X.nz n from rfl, hz] at z; cases z)
    refine wpAny_mono (hs (.ref ea) pins s5 _ _ _ J5 (q ea σ' J0.len F3.he)) (fun f s6 q6 => ?_) fun _ _ z => z.elim
    cases f with
    | next => obtain ⟨_, _, _, z⟩ := q6; exact z.elim
    | brk => obtain ⟨_, _, _, z⟩ := q6; exact z.elim
    | cont => obtain ⟨_, _, _, z⟩ := q6; exact z.elim
    | ret u =>
      obtain ⟨v, σ6, H6, J6, r6, q6⟩ := q6
      have K6 : Inv X pins σ6 H6 s6 := J6.uncaught I.ok
      obtain ⟨m, hn, _⟩ := id K6.loc
      exact wpAny_nameGoes hlo hn (by rw [I.ok.kind]; rfl) fun h7 m7 hn7 sb => ⟨v, _, H6, K6.unnamed hn7 sb, r6, q6⟩
end L2
namespace L2
open PySem PySem.Spec PyProof.Rows
section
variable {X : Cx} {CX : CXT} {k : Nat} {sp : Sp} {E : XK} {pos : Pos} {fe e : Expr} {es : List Expr} {tf : TE} {t : TA}
noncomputable def Callee (P : Program) (w : World) (K : PySem.W.Frag) (mg : Str -> Option Value) (base : Heap) (CX : CXT) (k : Nat) (sp : Sp) (f : Addr) : Prop := ∃ fd ps, FnOk P w K mg base CX k f fd ps sp /\ Binds K fd ps [] /\ PySem.W.keepIn K (.ref f) = true
noncomputable def tCallL (fs : List Addr) (sp : Sp) (E : XK) (tf : TE) (t : TA) : TE := fun σ H Q => tf σ H fun x H1 => ∃ f, x = .ref f /\ f ∈ fs /\ t σ H1 fun vs H2 => sp vs H2 Q E
theorem pe_callL {fs : List Addr} (hf : PE X fe tf) (hc : ∀ f ∈ fs, Callee X.prog X.w X.K X.mg X.base CX k sp f) (hr : Room k X.A) (hx : Passes CX X E) (ha : PA X (e :: es) t)
    (ht : eval (.Call fe (e :: es) [] pos) X.env = (do callWith pos (<- eval fe X.env) [] (backTo pos (starEach (e :: es) X.env)) (backToKw pos (keywordEach [] X.env))) := by rfl)
    (he : starEach (e :: es) X.env = (false, eval e X.env) :: starEach es X.env := by rfl) (hpl : (backTo pos (starEach es X.env)).any (·.1) = false := by rfl) : PE X (.Call fe (e :: es) [] pos) (tCallL fs sp E tf t) := by
  intro pins s σ H Q I h
  rw [ht]
  refine wpAny_bind (thn (hf pins s σ H _ I h) fun u s1 ⟨x, H1, I1, rx, f, ex, hm, q⟩ => ?_)
  subst ex
  obtain rfl : u = Value.ref f := rx
  obtain ⟨fd, ps, F, hb, hk⟩ := hc f hm
  refine PySem.W.callWith_K (h₀ := X.base) I.ok.mod.kin hk (thn (ha pos pins s1 σ H1 _ I1 q) fun us s2 ⟨vs, H2, I2, r, q2⟩ => ⟨I2.kIn, ?_⟩) he hpl
  exact run_fn F hr hb .nil hx I2 r (by rw [List.append_nil]; exact q2)
theorem TyOf.same {K : PySem.W.Frag} {H H' : Hp} {x : V} {t : Value} (h : TyOf K H x t) (s : Same H H') : TyOf K H' x t := by
  cases h with
  | non => exact .non
  | bl b => exact .bl b
  | int i => exact .int i
  | str z => exact .str z
  | flt z => exact .flt z
  | lst e => exact .lst (s _ _ e)
  | frz e => exact .frz (s _ _ e)
  | tup e => exact .tup (s _ _ e)
  | dK e => exact .dK (s _ _ e)
  | dT e => exact .dT (s _ _ e)
  | ins e c h1 h2 h3 h4 => exact .ins (s _ _ e) c h1 h2 h3 h4
theorem FnOk.or {P : Program} {w : World} {K : PySem.W.Frag} {mg : Str -> Option Value} {base : Heap} {CX : CXT} {k : Nat} {f : Addr} {fd : FuncData} {ps : List Str} {sp sp' : Sp} (F : FnOk P w K mg base CX k f fd ps sp) (G : FnOk P w K mg base CX k f fd ps sp') : FnOk P w K mg base CX k f fd ps (fun vs H Q E => sp vs H Q E \/ sp' vs H Q E) :=
  ⟨fun vs H Q E h => h.elim (F.len vs H Q E) (G.len vs H Q E), fun A outer s H args us vs Q E hr he hb hv hs => hs.elim (F.run A outer s H args us vs Q E hr he hb hv) (G.run A outer s H args us vs Q E hr he hb hv)⟩
end
end L2
namespace GP
open PySem L2 GT GM
noncomputable abbrev anyX (H : Hp) (E : XK) (C : Addr) : Prop := ∀ H', Same H H' -> E (.ref C) none H'
inductive Ans (K : PySem.W.Frag) (H : Hp) (L : Tx) : V -> Bool -> Prop
  | text (z : Tx) (h : (sgn z).length <= 100) : Ans K H L (sv z) (decide (∀ c ∈ z, c ∈ L))
  | not (x : V) (t : Value) (h : TyOf K H x t) (k : PySem.W.kitOne K t (.type "str") = some false) : Ans K H L x false
theorem Ans.same {K : PySem.W.Frag} {H H' : Hp} {L : Tx} {x : V} {b : Bool} (a : Ans K H L x b) (s : Same H H') : Ans K H' L x b := by
  cases a with
  | text z h => exact .text z h
  | not x t h k => exact .not x t (h.same s) k
inductive SpIsTextX (K : PySem.W.Frag) (vs : List V) (H : Hp) (Q : VK) : Prop
  | mk (L : Tx) (x : V) (b : Bool) (h0 : vs = [sv L, x]) (h1 : (sgn L).length <= 100) (h2 : Ans K H L x b) (h3 : anyH H Q (.bl b)) : SpIsTextX K vs H Q
noncomputable def spIsTextX (K : PySem.W.Frag) : Sp := fun vs H Q _ => SpIsTextX K vs H Q
inductive BadRu (K : PySem.W.Frag) (H : Hp) : V -> Prop
  | ty (x : V) (t : Value) (h : TyOf K H x t) (k : PySem.W.kitOne K t (.type "list") = some false) : BadRu K H x
  | len (a : Addr) (xs : List V) (h : H a = some (.lst xs)) (k : xs.length = 0 \/ 26 < xs.length) (z : xs.length <= sizeLine) : BadRu K H (.ref a)
  | one (a : Addr) (xs : List (V × Bool)) (h : H a = some (.lst (xs.map (·.1)))) (p : 1 <= xs.length) (q : xs.length <= 26) (l : ∀ x ∈ xs, Ans K H (lets xs.length) x.1 x.2) (k : xs.all (·.2) = false) : BadRu K H (.ref a)
theorem BadRu.same {K : PySem.W.Frag} {H H' : Hp} {x : V} (a : BadRu K H x) (s : Same H H') : BadRu K H' x := by
  cases a with
  | ty x t h k => exact .ty x t (h.same s) k
  | len a xs h k z => exact .len a xs (s _ _ h) k z
  | one a xs h p q l k => exact .one a xs (s _ _ h) p q (fun x hx => (l x hx).same s) k
inductive BadNum (K : PySem.W.Frag) (H : Hp) (m : Int) : V -> Prop
  | ty (x : V) (t : Value) (h : TyOf K H x t) (k : PySem.W.kitOne K t (.type "int") = some false) : BadNum K H m x
  | bool (b : Bool) : BadNum K H m (.bl b)
  | int (i : Int) (h : ¬ (0 <= i /\ i <= m)) : BadNum K H m (.int i)
theorem BadNum.same {K : PySem.W.Frag} {H H' : Hp} {m : Int} {x : V} (a : BadNum K H m x) (s : Same H H') : BadNum K H' m x := by
  cases a with
  | ty x t h k => exact .ty x t (h.same s) k
  | bool b => exact .bool b
  | int i h => exact .int i h
inductive AskX (K : PySem.W.Frag) (H : Hp) (CR CW CT : Addr) : V -> V -> V -> Addr -> Prop
  | rules (v r t : V) (h : BadRu K H v) : AskX K H CR CW CT v r t CR
  | row (a : Addr) (R : Ru) (v t : V) (ha : RuAt H a R) (hR : OkRu R) (h : Ans K H (lets R.length) v false) : AskX K H CR CW CT (.ref a) v t CW
  | times (a : Addr) (R : Ru) (x : Tx) (v : V) (ha : RuAt H a R) (hR : OkRu R) (hx : OkTx R.length x) (h : BadNum K H 300 v) : AskX K H CR CW CT (.ref a) (sv x) v CT
inductive SpXNotRules (K : PySem.W.Frag) (vs : List V) (H : Hp) (Q : VK) : Prop
  | mk (v : V) (h0 : vs = [v]) (h1 : BadRu K H v) (h2 : anyH H Q (.bl false)) : SpXNotRules K vs H Q
noncomputable def spXNotRules (K : PySem.W.Frag) : Sp := fun vs H Q _ => SpXNotRules K vs H Q
inductive SpXNotNum (K : PySem.W.Frag) (vs : List V) (H : Hp) (Q : VK) : Prop
  | mk (m : Int) (v : V) (h0 : vs = [.int m, v]) (h1 : BadNum K H m v) (h2 : Q (.bl false) H) : SpXNotNum K vs H Q
noncomputable def spXNotNum (K : PySem.W.Frag) : Sp := fun vs H Q _ => SpXNotNum K vs H Q
inductive SpXRules (K : PySem.W.Frag) (C : Addr) (vs : List V) (H : Hp) (E : XK) : Prop
  | mk (v : V) (h0 : vs = [v]) (h1 : BadRu K H v) (h2 : anyX H E C) : SpXRules K C vs H E
noncomputable def spXRules (K : PySem.W.Frag) (C : Addr) : Sp := fun vs H _ E => SpXRules K C vs H E
inductive SpXRow (K : PySem.W.Frag) (C : Addr) (vs : List V) (H : Hp) (E : XK) : Prop
  | mk (a : Addr) (R : Ru) (v : V) (h0 : vs = [.ref a, v]) (h1 : RuAt H a R) (h2 : OkRu R) (h3 : Ans K H (lets R.length) v false) (h4 : anyX H E C) : SpXRow K C vs H E
noncomputable def spXRow (K : PySem.W.Frag) (C : Addr) : Sp := fun vs H _ E => SpXRow K C vs H E
inductive BadLet (K : PySem.W.Frag) (H : Hp) (L : Tx) : V -> Prop
  | ans (v : V) (h : Ans K H L v false) : BadLet K H L v
  | many (z : Tx) (h : (sgn z).length <= 100) (l : ∀ c ∈ z, c ∈ L) (n : z.length ≠ 1) (k : z.length <= sizeLine) : BadLet K H L (sv z)
theorem BadLet.same {K : PySem.W.Frag} {H H' : Hp} {L : Tx} {x : V} (a : BadLet K H L x) (s : Same H H') : BadLet K H' L x := by
  cases a with
  | ans x h => exact .ans x (h.same s)
  | many z h l n k => exact .many z h l n k
inductive SpXLetter (K : PySem.W.Frag) (C : Addr) (vs : List V) (H : Hp) (E : XK) : Prop
  | mk (a : Addr) (R : Ru) (v : V) (h0 : vs = [.ref a, v]) (h1 : RuAt H a R) (h2 : OkRu R) (h3 : BadLet K H (lets R.length) v) (h4 : anyX H E C) : SpXLetter K C vs H E
noncomputable def spXLetter (K : PySem.W.Frag) (C : Addr) : Sp := fun vs H _ E => SpXLetter K C vs H E
inductive SpXTimes (K : PySem.W.Frag) (C : Addr) (vs : List V) (H : Hp) (E : XK) : Prop
  | mk (v : V) (h0 : vs = [v]) (h1 : BadNum K H 300 v) (h2 : anyX H E C) : SpXTimes K C vs H E
noncomputable def spXTimes (K : PySem.W.Frag) (C : Addr) : Sp := fun vs H _ E => SpXTimes K C vs H E
inductive SpXPlace (K : PySem.W.Frag) (C : Addr) (vs : List V) (H : Hp) (E : XK) : Prop
  | mk (m : Int) (v : V) (h0 : vs = [v, .int m]) (h1 : BadNum K H m v) (h2 : anyX H E C) : SpXPlace K C vs H E
noncomputable def spXPlace (K : PySem.W.Frag) (C : Addr) : Sp := fun vs H _ E => SpXPlace K C vs H E
inductive SpXAsk (K : PySem.W.Frag) (CR CW CT : Addr) (vs : List V) (H : Hp) (E : XK) : Prop
  | mk (v r t : V) (C : Addr) (h0 : vs = [v, r, t]) (h1 : AskX K H CR CW CT v r t C) (h2 : anyX H E C) : SpXAsk K CR CW CT vs H E
noncomputable def spXAsk (K : PySem.W.Frag) (CR CW CT : Addr) : Sp := fun vs H _ E => SpXAsk K CR CW CT vs H E
inductive SpXAsk4 (K : PySem.W.Frag) (CR CW CT : Addr) (vs : List V) (H : Hp) (E : XK) : Prop
  | mk (v r t p : V) (C : Addr) (h0 : vs = [v, r, t, p]) (h1 : AskX K H CR CW CT v r t C) (h2 : anyX H E C) : SpXAsk4 K CR CW CT vs H E
noncomputable def spXAsk4 (K : PySem.W.Frag) (CR CW CT : Addr) : Sp := fun vs H _ E => SpXAsk4 K CR CW CT vs H E
end GP
namespace GP
open PySem L2 GT GM
open PySem.W (nsIn findIn keepIn codeIn fnOf mroIn kitOne excIn plainGet hasDictIn plainOver makesIn isFn mg_of mg_none_of specialIn takesIn Frag)
noncomputable def top (i : Nat) : Stmt := PySem.Challenge.pw_growrow_k07_refused.main.body.getD i (.Pass ⟨0, 0, 0, 0⟩)
noncomputable abbrev s_letters_of : Stmt := top 12
noncomputable abbrev s_is_text_of : Stmt := top 13
noncomputable abbrev s_is_number_up_to : Stmt := top 14
noncomputable abbrev s_is_rules : Stmt := top 15
noncomputable abbrev s_check_rules : Stmt := top 16
noncomputable abbrev s_check_row : Stmt := top 17
noncomputable abbrev s_check_letter : Stmt := top 18
noncomputable abbrev s_check_times : Stmt := top 19
noncomputable abbrev s_check_place : Stmt := top 20
noncomputable abbrev s_grown_once : Stmt := top 21
noncomputable abbrev s_counted : Stmt := top 24
noncomputable abbrev s_added : Stmt := top 25
noncomputable abbrev s_weighed : Stmt := top 26
noncomputable abbrev s_table_of : Stmt := top 27
noncomputable abbrev s_held_next : Stmt := top 28
noncomputable abbrev s_held_after : Stmt := top 29
noncomputable abbrev s_sizes_up_to : Stmt := top 30
noncomputable abbrev s_marks_of : Stmt := top 31
noncomputable abbrev s_Marked_init : Stmt := inClass (top 32) 0
noncomputable abbrev s_Marked_ahead_of : Stmt := inClass (top 32) 1
noncomputable abbrev s_Marked_block_with : Stmt := inClass (top 32) 2
noncomputable abbrev s_Marked_index_with : Stmt := inClass (top 32) 3
noncomputable abbrev s_check_asked : Stmt := top 35
noncomputable abbrev s_check_length : Stmt := top 36
noncomputable abbrev s_check_way : Stmt := top 37
noncomputable abbrev s_grown : Stmt := top 38
noncomputable abbrev s_counts : Stmt := top 39
noncomputable abbrev s_length : Stmt := top 40
noncomputable abbrev s_way_to : Stmt := top 41
noncomputable abbrev s_letter : Stmt := top 42
noncomputable abbrev s_first : Stmt := top 43
noncomputable abbrev s_behind : Stmt := top 44
noncomputable abbrev s_Times_init : Stmt := inClass (top 48) 0
noncomputable abbrev s_Times_shows : Stmt := inClass (top 48) 1
noncomputable abbrev s_Shut_init : Stmt := inClass (top 49) 0
noncomputable abbrev s_comes : Stmt := top 53
noncomputable abbrev s_lengths : Stmt := top 54
noncomputable abbrev s_law_rules_asked : Stmt := top 56
noncomputable abbrev s_law_rows_asked : Stmt := top 57
noncomputable abbrev s_law_numbers_asked : Stmt := top 58
noncomputable abbrev s_law_long_asked : Stmt := top 59
noncomputable abbrev s_law_told : Stmt := top 60
noncomputable abbrev s_law : Stmt := top 61
set_option genInjectivity false in
set_option genSizeOf false in
structure TX (K : Frag) (mg : Str -> Option Value) where
  f_letters_of : Addr
  d_letters_of : FuncData
  F_letters_of : Fun K "letters_of" "letters_of" s_letters_of f_letters_of d_letters_of
  m_letters_of : mg "letters_of" = some (.ref f_letters_of)
  b_letters_of : Binds K d_letters_of ["rules"] []
  f_is_text_of : Addr
  d_is_text_of : FuncData
  F_is_text_of : Fun K "is_text_of" "is_text_of" s_is_text_of f_is_text_of d_is_text_of
  m_is_text_of : mg "is_text_of" = some (.ref f_is_text_of)
  b_is_text_of : Binds K d_is_text_of ["letters", "value"] []
  f_is_number_up_to : Addr
  d_is_number_up_to : FuncData
  F_is_number_up_to : Fun K "is_number_up_to" "is_number_up_to" s_is_number_up_to f_is_number_up_to d_is_number_up_to
  m_is_number_up_to : mg "is_number_up_to" = some (.ref f_is_number_up_to)
  b_is_number_up_to : Binds K d_is_number_up_to ["most", "value"] []
  f_is_rules : Addr
  d_is_rules : FuncData
  F_is_rules : Fun K "is_rules" "is_rules" s_is_rules f_is_rules d_is_rules
  m_is_rules : mg "is_rules" = some (.ref f_is_rules)
  b_is_rules : Binds K d_is_rules ["value"] []
  f_check_rules : Addr
  d_check_rules : FuncData
  F_check_rules : Fun K "check_rules" "check_rules" s_check_rules f_check_rules d_check_rules
  m_check_rules : mg "check_rules" = some (.ref f_check_rules)
  b_check_rules : Binds K d_check_rules ["rules"] []
  f_check_row : Addr
  d_check_row : FuncData
  F_check_row : Fun K "check_row" "check_row" s_check_row f_check_row d_check_row
  m_check_row : mg "check_row" = some (.ref f_check_row)
  b_check_row : Binds K d_check_row ["rules", "row"] []
  f_check_letter : Addr
  d_check_letter : FuncData
  F_check_letter : Fun K "check_letter" "check_letter" s_check_letter f_check_letter d_check_letter
  m_check_letter : mg "check_letter" = some (.ref f_check_letter)
  b_check_letter : Binds K d_check_letter ["rules", "letter"] []
  f_check_times : Addr
  d_check_times : FuncData
  F_check_times : Fun K "check_times" "check_times" s_check_times f_check_times d_check_times
  m_check_times : mg "check_times" = some (.ref f_check_times)
  b_check_times : Binds K d_check_times ["times"] []
  f_check_place : Addr
  d_check_place : FuncData
  F_check_place : Fun K "check_place" "check_place" s_check_place f_check_place d_check_place
  m_check_place : mg "check_place" = some (.ref f_check_place)
  b_check_place : Binds K d_check_place ["place", "last"] []
  f_grown_once : Addr
  d_grown_once : FuncData
  F_grown_once : Fun K "grown_once" "grown_once" s_grown_once f_grown_once d_grown_once
  m_grown_once : mg "grown_once" = some (.ref f_grown_once)
  b_grown_once : Binds K d_grown_once ["rules", "row"] []
  f_counted : Addr
  d_counted : FuncData
  F_counted : Fun K "counted" "counted" s_counted f_counted d_counted
  m_counted : mg "counted" = some (.ref f_counted)
  b_counted : Binds K d_counted ["letters", "text"] []
  f_added : Addr
  d_added : FuncData
  F_added : Fun K "added" "added" s_added f_added d_added
  m_added : mg "added" = some (.ref f_added)
  b_added : Binds K d_added ["ones", "others"] []
  f_weighed : Addr
  d_weighed : FuncData
  F_weighed : Fun K "weighed" "weighed" s_weighed f_weighed d_weighed
  m_weighed : mg "weighed" = some (.ref f_weighed)
  b_weighed : Binds K d_weighed ["held", "sizes"] []
  f_table_of : Addr
  d_table_of : FuncData
  F_table_of : Fun K "table_of" "table_of" s_table_of f_table_of d_table_of
  m_table_of : mg "table_of" = some (.ref f_table_of)
  b_table_of : Binds K d_table_of ["rules"] []
  f_held_next : Addr
  d_held_next : FuncData
  F_held_next : Fun K "held_next" "held_next" s_held_next f_held_next d_held_next
  m_held_next : mg "held_next" = some (.ref f_held_next)
  b_held_next : Binds K d_held_next ["table", "held"] []
  f_held_after : Addr
  d_held_after : FuncData
  F_held_after : Fun K "held_after" "held_after" s_held_after f_held_after d_held_after
  m_held_after : mg "held_after" = some (.ref f_held_after)
  b_held_after : Binds K d_held_after ["rules", "row", "times"] []
  f_sizes_up_to : Addr
  d_sizes_up_to : FuncData
  F_sizes_up_to : Fun K "sizes_up_to" "sizes_up_to" s_sizes_up_to f_sizes_up_to d_sizes_up_to
  m_sizes_up_to : mg "sizes_up_to" = some (.ref f_sizes_up_to)
  b_sizes_up_to : Binds K d_sizes_up_to ["rules", "times"] []
  f_marks_of : Addr
  d_marks_of : FuncData
  F_marks_of : Fun K "marks_of" "marks_of" s_marks_of f_marks_of d_marks_of
  m_marks_of : mg "marks_of" = some (.ref f_marks_of)
  b_marks_of : Binds K d_marks_of ["letters", "text"] []
  f_Marked_init : Addr
  d_Marked_init : FuncData
  F_Marked_init : Fun K "__init__" "Marked.__init__" s_Marked_init f_Marked_init d_Marked_init
  b_Marked_init : Binds K d_Marked_init ["self", "letters", "text"] []
  f_Marked_ahead_of : Addr
  d_Marked_ahead_of : FuncData
  F_Marked_ahead_of : Fun K "ahead_of" "Marked.ahead_of" s_Marked_ahead_of f_Marked_ahead_of d_Marked_ahead_of
  b_Marked_ahead_of : Binds K d_Marked_ahead_of ["self", "index"] []
  f_Marked_block_with : Addr
  d_Marked_block_with : FuncData
  F_Marked_block_with : Fun K "block_with" "Marked.block_with" s_Marked_block_with f_Marked_block_with d_Marked_block_with
  b_Marked_block_with : Binds K d_Marked_block_with ["self", "sizes", "place"] []
  f_Marked_index_with : Addr
  d_Marked_index_with : FuncData
  F_Marked_index_with : Fun K "index_with" "Marked.index_with" s_Marked_index_with f_Marked_index_with d_Marked_index_with
  b_Marked_index_with : Binds K d_Marked_index_with ["self", "sizes", "place"] []
  f_check_asked : Addr
  d_check_asked : FuncData
  F_check_asked : Fun K "check_asked" "check_asked" s_check_asked f_check_asked d_check_asked
  m_check_asked : mg "check_asked" = some (.ref f_check_asked)
  b_check_asked : Binds K d_check_asked ["rules", "row", "times"] []
  f_check_length : Addr
  d_check_length : FuncData
  F_check_length : Fun K "check_length" "check_length" s_check_length f_check_length d_check_length
  m_check_length : mg "check_length" = some (.ref f_check_length)
  b_check_length : Binds K d_check_length ["many"] []
  f_check_way : Addr
  d_check_way : FuncData
  F_check_way : Fun K "check_way" "check_way" s_check_way f_check_way d_check_way
  m_check_way : mg "check_way" = some (.ref f_check_way)
  b_check_way : Binds K d_check_way ["rules", "row", "times"] []
  f_grown : Addr
  d_grown : FuncData
  F_grown : Fun K "grown" "grown" s_grown f_grown d_grown
  m_grown : mg "grown" = some (.ref f_grown)
  b_grown : Binds K d_grown ["rules", "row", "times"] []
  f_counts : Addr
  d_counts : FuncData
  F_counts : Fun K "counts" "counts" s_counts f_counts d_counts
  m_counts : mg "counts" = some (.ref f_counts)
  b_counts : Binds K d_counts ["rules", "row", "times"] []
  f_length : Addr
  d_length : FuncData
  F_length : Fun K "length" "length" s_length f_length d_length
  m_length : mg "length" = some (.ref f_length)
  b_length : Binds K d_length ["rules", "row", "times"] []
  f_way_to : Addr
  d_way_to : FuncData
  F_way_to : Fun K "way_to" "way_to" s_way_to f_way_to d_way_to
  m_way_to : mg "way_to" = some (.ref f_way_to)
  b_way_to : Binds K d_way_to ["rules", "row", "times", "place"] []
  f_letter : Addr
  d_letter : FuncData
  F_letter : Fun K "letter" "letter" s_letter f_letter d_letter
  m_letter : mg "letter" = some (.ref f_letter)
  b_letter : Binds K d_letter ["rules", "row", "times", "place"] []
  f_first : Addr
  d_first : FuncData
  F_first : Fun K "first" "first" s_first f_first d_first
  m_first : mg "first" = some (.ref f_first)
  b_first : Binds K d_first ["rules", "row", "times", "many"] []
  f_behind : Addr
  d_behind : FuncData
  F_behind : Fun K "behind" "behind" s_behind f_behind d_behind
  m_behind : mg "behind" = some (.ref f_behind)
  b_behind : Binds K d_behind ["one", "other"] []
  f_Times_init : Addr
  d_Times_init : FuncData
  F_Times_init : Fun K "__init__" "Times.__init__" s_Times_init f_Times_init d_Times_init
  b_Times_init : Binds K d_Times_init ["self", "many"] []
  f_Times_shows : Addr
  d_Times_shows : FuncData
  F_Times_shows : Fun K "shows" "Times.shows" s_Times_shows f_Times_shows d_Times_shows
  b_Times_shows : Binds K d_Times_shows ["self", "rules", "one", "other"] []
  f_Shut_init : Addr
  d_Shut_init : FuncData
  F_Shut_init : Fun K "__init__" "Shut.__init__" s_Shut_init f_Shut_init d_Shut_init
  b_Shut_init : Binds K d_Shut_init ["self", "letters"] []
  f_comes : Addr
  d_comes : FuncData
  F_comes : Fun K "comes" "comes" s_comes f_comes d_comes
  m_comes : mg "comes" = some (.ref f_comes)
  b_comes : Binds K d_comes ["rules", "one", "other"] []
  f_lengths : Addr
  d_lengths : FuncData
  F_lengths : Fun K "lengths" "lengths" s_lengths f_lengths d_lengths
  m_lengths : mg "lengths" = some (.ref f_lengths)
  b_lengths : Binds K d_lengths ["rules", "one", "other"] []
  f_law_rules_asked : Addr
  d_law_rules_asked : FuncData
  F_law_rules_asked : Fun K "_law_rules_asked" "_law_rules_asked" s_law_rules_asked f_law_rules_asked d_law_rules_asked
  m_law_rules_asked : mg "_law_rules_asked" = some (.ref f_law_rules_asked)
  b_law_rules_asked : Binds K d_law_rules_asked ["_law_which", "_law_more"] []
  f_law_rows_asked : Addr
  d_law_rows_asked : FuncData
  F_law_rows_asked : Fun K "_law_rows_asked" "_law_rows_asked" s_law_rows_asked f_law_rows_asked d_law_rows_asked
  m_law_rows_asked : mg "_law_rows_asked" = some (.ref f_law_rows_asked)
  b_law_rows_asked : Binds K d_law_rows_asked ["_law_kind", "_law_which", "_law_more"] []
  f_law_numbers_asked : Addr
  d_law_numbers_asked : FuncData
  F_law_numbers_asked : Fun K "_law_numbers_asked" "_law_numbers_asked" s_law_numbers_asked f_law_numbers_asked d_law_numbers_asked
  m_law_numbers_asked : mg "_law_numbers_asked" = some (.ref f_law_numbers_asked)
  b_law_numbers_asked : Binds K d_law_numbers_asked ["_law_kind", "_law_which", "_law_more"] []
  f_law_long_asked : Addr
  d_law_long_asked : FuncData
  F_law_long_asked : Fun K "_law_long_asked" "_law_long_asked" s_law_long_asked f_law_long_asked d_law_long_asked
  m_law_long_asked : mg "_law_long_asked" = some (.ref f_law_long_asked)
  b_law_long_asked : Binds K d_law_long_asked ["_law_which", "_law_more"] []
  f_law_told : Addr
  d_law_told : FuncData
  F_law_told : Fun K "_law_told" "_law_told" s_law_told f_law_told d_law_told
  m_law_told : mg "_law_told" = some (.ref f_law_told)
  b_law_told : Binds K d_law_told ["_law_kind", "_law_which", "_law_more"] []
  f_law : Addr
  d_law : FuncData
  F_law : Fun K "law" "law" s_law f_law d_law
  m_law : mg "law" = some (.ref f_law)
  b_law : Binds K d_law ["_law_script"] []
  C_Marked : Addr
  cl_Marked : Cls K C_Marked
  mC_Marked : mg "Marked" = some (.ref C_Marked)
  mk_Marked : Mk K C_Marked f_Marked_init
  me_Marked_ahead_of : Meth K C_Marked "ahead_of" f_Marked_ahead_of
  me_Marked_block_with : Meth K C_Marked "block_with" f_Marked_block_with
  me_Marked_index_with : Meth K C_Marked "index_with" f_Marked_index_with
  na_Marked_letters : NoAttr K C_Marked "letters"
  na_Marked_marks : NoAttr K C_Marked "marks"
  na_Marked_text : NoAttr K C_Marked "text"
  C_Times : Addr
  cl_Times : Cls K C_Times
  mC_Times : mg "Times" = some (.ref C_Times)
  mk_Times : Mk K C_Times f_Times_init
  me_Times_shows : Meth K C_Times "shows" f_Times_shows
  na_Times_many : NoAttr K C_Times "many"
  C_Shut : Addr
  cl_Shut : Cls K C_Shut
  mC_Shut : mg "Shut" = some (.ref C_Shut)
  mk_Shut : Mk K C_Shut f_Shut_init
  na_Shut_letters : NoAttr K C_Shut "letters"
  C_GrowError : Addr
  mC_GrowError : mg "GrowError" = some (.ref C_GrowError)
  er_GrowError : Err K C_GrowError C_GrowError
  C_BadRules : Addr
  mC_BadRules : mg "BadRules" = some (.ref C_BadRules)
  er_BadRules : Err K C_BadRules C_GrowError
  C_BadRow : Addr
  mC_BadRow : mg "BadRow" = some (.ref C_BadRow)
  er_BadRow : Err K C_BadRow C_GrowError
  C_BadLetter : Addr
  mC_BadLetter : mg "BadLetter" = some (.ref C_BadLetter)
  er_BadLetter : Err K C_BadLetter C_GrowError
  C_BadTimes : Addr
  mC_BadTimes : mg "BadTimes" = some (.ref C_BadTimes)
  er_BadTimes : Err K C_BadTimes C_GrowError
  C_BadPlace : Addr
  mC_BadPlace : mg "BadPlace" = some (.ref C_BadPlace)
  er_BadPlace : Err K C_BadPlace C_GrowError
  C_TooLong : Addr
  mC_TooLong : mg "TooLong" = some (.ref C_TooLong)
  er_TooLong : Err K C_TooLong C_GrowError
  C_OtherRules : Addr
  mC_OtherRules : mg "OtherRules" = some (.ref C_OtherRules)
  er_OtherRules : Err K C_OtherRules C_GrowError
  kt_BadRules_BadRules : kitOne K (.ref C_BadRules) (.ref C_BadRules) = some true
  kt_BadRules_BadRow : kitOne K (.ref C_BadRules) (.ref C_BadRow) = some false
  kt_BadRules_BadLetter : kitOne K (.ref C_BadRules) (.ref C_BadLetter) = some false
  kt_BadRules_BadTimes : kitOne K (.ref C_BadRules) (.ref C_BadTimes) = some false
  kt_BadRules_BadPlace : kitOne K (.ref C_BadRules) (.ref C_BadPlace) = some false
  kt_BadRules_TooLong : kitOne K (.ref C_BadRules) (.ref C_TooLong) = some false
  kt_BadRules_OtherRules : kitOne K (.ref C_BadRules) (.ref C_OtherRules) = some false
  kv_BadRules : kitOne K (.ref C_BadRules) (.type "ValueError") = some true
  kt_BadRow_BadRules : kitOne K (.ref C_BadRow) (.ref C_BadRules) = some false
  kt_BadRow_BadRow : kitOne K (.ref C_BadRow) (.ref C_BadRow) = some true
  kt_BadRow_BadLetter : kitOne K (.ref C_BadRow) (.ref C_BadLetter) = some false
  kt_BadRow_BadTimes : kitOne K (.ref C_BadRow) (.ref C_BadTimes) = some false
  kt_BadRow_BadPlace : kitOne K (.ref C_BadRow) (.ref C_BadPlace) = some false
  kt_BadRow_TooLong : kitOne K (.ref C_BadRow) (.ref C_TooLong) = some false
  kt_BadRow_OtherRules : kitOne K (.ref C_BadRow) (.ref C_OtherRules) = some false
  kv_BadRow : kitOne K (.ref C_BadRow) (.type "ValueError") = some true
  kt_BadLetter_BadRules : kitOne K (.ref C_BadLetter) (.ref C_BadRules) = some false
  kt_BadLetter_BadRow : kitOne K (.ref C_BadLetter) (.ref C_BadRow) = some false
  kt_BadLetter_BadLetter : kitOne K (.ref C_BadLetter) (.ref C_BadLetter) = some true
  kt_BadLetter_BadTimes : kitOne K (.ref C_BadLetter) (.ref C_BadTimes) = some false
  kt_BadLetter_BadPlace : kitOne K (.ref C_BadLetter) (.ref C_BadPlace) = some false
  kt_BadLetter_TooLong : kitOne K (.ref C_BadLetter) (.ref C_TooLong) = some false
  kt_BadLetter_OtherRules : kitOne K (.ref C_BadLetter) (.ref C_OtherRules) = some false
  kv_BadLetter : kitOne K (.ref C_BadLetter) (.type "ValueError") = some true
  kt_BadTimes_BadRules : kitOne K (.ref C_BadTimes) (.ref C_BadRules) = some false
  kt_BadTimes_BadRow : kitOne K (.ref C_BadTimes) (.ref C_BadRow) = some false
  kt_BadTimes_BadLetter : kitOne K (.ref C_BadTimes) (.ref C_BadLetter) = some false
  kt_BadTimes_BadTimes : kitOne K (.ref C_BadTimes) (.ref C_BadTimes) = some true
  kt_BadTimes_BadPlace : kitOne K (.ref C_BadTimes) (.ref C_BadPlace) = some false
  kt_BadTimes_TooLong : kitOne K (.ref C_BadTimes) (.ref C_TooLong) = some false
  kt_BadTimes_OtherRules : kitOne K (.ref C_BadTimes) (.ref C_OtherRules) = some false
  kv_BadTimes : kitOne K (.ref C_BadTimes) (.type "ValueError") = some true
  kt_BadPlace_BadRules : kitOne K (.ref C_BadPlace) (.ref C_BadRules) = some false
  kt_BadPlace_BadRow : kitOne K (.ref C_BadPlace) (.ref C_BadRow) = some false
  kt_BadPlace_BadLetter : kitOne K (.ref C_BadPlace) (.ref C_BadLetter) = some false
  kt_BadPlace_BadTimes : kitOne K (.ref C_BadPlace) (.ref C_BadTimes) = some false
  kt_BadPlace_BadPlace : kitOne K (.ref C_BadPlace) (.ref C_BadPlace) = some true
  kt_BadPlace_TooLong : kitOne K (.ref C_BadPlace) (.ref C_TooLong) = some false
  kt_BadPlace_OtherRules : kitOne K (.ref C_BadPlace) (.ref C_OtherRules) = some false
  kv_BadPlace : kitOne K (.ref C_BadPlace) (.type "ValueError") = some true
  kt_TooLong_BadRules : kitOne K (.ref C_TooLong) (.ref C_BadRules) = some false
  kt_TooLong_BadRow : kitOne K (.ref C_TooLong) (.ref C_BadRow) = some false
  kt_TooLong_BadLetter : kitOne K (.ref C_TooLong) (.ref C_BadLetter) = some false
  kt_TooLong_BadTimes : kitOne K (.ref C_TooLong) (.ref C_BadTimes) = some false
  kt_TooLong_BadPlace : kitOne K (.ref C_TooLong) (.ref C_BadPlace) = some false
  kt_TooLong_TooLong : kitOne K (.ref C_TooLong) (.ref C_TooLong) = some true
  kt_TooLong_OtherRules : kitOne K (.ref C_TooLong) (.ref C_OtherRules) = some false
  kv_TooLong : kitOne K (.ref C_TooLong) (.type "ValueError") = some true
  kt_OtherRules_BadRules : kitOne K (.ref C_OtherRules) (.ref C_BadRules) = some false
  kt_OtherRules_BadRow : kitOne K (.ref C_OtherRules) (.ref C_BadRow) = some false
  kt_OtherRules_BadLetter : kitOne K (.ref C_OtherRules) (.ref C_BadLetter) = some false
  kt_OtherRules_BadTimes : kitOne K (.ref C_OtherRules) (.ref C_BadTimes) = some false
  kt_OtherRules_BadPlace : kitOne K (.ref C_OtherRules) (.ref C_BadPlace) = some false
  kt_OtherRules_TooLong : kitOne K (.ref C_OtherRules) (.ref C_TooLong) = some false
  kt_OtherRules_OtherRules : kitOne K (.ref C_OtherRules) (.ref C_OtherRules) = some true
  kv_OtherRules : kitOne K (.ref C_OtherRules) (.type "ValueError") = some true
  ogt : ObGt K
  bl : ∀ (s : Shared) (u : Value), BindsTo s d_law ⟨[u], []⟩ [("_law_script", u)]
  n_ValueError : mg "ValueError" = none
  n_all : mg "all" = none
  n_bool : mg "bool" = none
  n_dict : mg "dict" = none
  n_int : mg "int" = none
  n_isinstance : mg "isinstance" = none
  n_len : mg "len" = none
  n_list : mg "list" = none
  n_range : mg "range" = none
  n_reversed : mg "reversed" = none
  n_set : mg "set" = none
  n_sorted : mg "sorted" = none
  n_str : mg "str" = none
  n_sum : mg "sum" = none
  n_zip : mg "zip" = none
  c_ALPHABET : ∃ t, mg "ALPHABET" = some (.str (tx (lets 26)) t)
  c_MOST_TIMES : ∃ t, mg "MOST_TIMES" = some (.int 300 t)
  c_BLOCK : ∃ t, mg "BLOCK" = some (.int 256 t)
  c_MOST_LETTERS : ∃ t, mg "MOST_LETTERS" = some (.int 100000 t)
end GP
namespace GP
open PySem L2 GT GM
section
variable {P : Program} {w : World} {K : PySem.W.Frag} {mg : Str -> Option Value} {base : Heap}
theorem lets_take {n m : Nat} (h : n <= m) : (lets m).take n = lets n := by
  unfold lets
  rw [<- List.map_take, List.take_range]
  congr 2; omega
theorem kit_str (K : PySem.W.Frag) : PySem.W.kitOne K (.type "str") (.type "str") = some true := rfl
theorem kit_int (K : PySem.W.Frag) : PySem.W.kitOne K (.type "int") (.type "int") = some true := rfl
theorem kit_lst (K : PySem.W.Frag) : PySem.W.kitOne K (.type "list") (.type "list") = some true := rfl
theorem kit_intb (K : PySem.W.Frag) : PySem.W.kitOne K (.type "int") (.type "bool") = some false := by kernel_rfl
theorem boot_isi : bootBuiltins "isinstance" = some (.builtin "isinstance") := by decide +kernel
theorem boot_str_ : bootBuiltins "str" = some (.type "str") := by decide +kernel
theorem boot_int_ : bootBuiltins "int" = some (.type "int") := by decide +kernel
theorem boot_bool_ : bootBuiltins "bool" = some (.type "bool") := by decide +kernel
theorem boot_list_ : bootBuiltins "list" = some (.type "list") := by decide +kernel
theorem boot_set_ : bootBuiltins "set" = some (.type "set") := by decide +kernel
theorem boot_all_ : bootBuiltins "all" = some (.builtin "all") := by decide +kernel
theorem boot_sum_ : bootBuiltins "sum" = some (.builtin "sum") := by decide +kernel
theorem pgl_str {X : Cx} {x z : Str} {t : Tok} {pos : Pos} (hg : Gl X x) (hm : X.mg x = some (.str z t)) (hd : (x == ("__debug__" : Str)) = false := by decide) : PE X (.Name x pos) (tC (.str z)) := pe_glob hg hm (v := .str z) ⟨t, rfl⟩ hd
theorem pgl_int {X : Cx} {x : Str} {z : Int} {t : Tok} {pos : Pos} (hg : Gl X x) (hm : X.mg x = some (.int z t)) (hd : (x == ("__debug__" : Str)) = false := by decide) : PE X (.Name x pos) (tC (.int z)) := pe_glob hg hm (v := .int z) ⟨t, rfl⟩ hd
theorem sc_letters_of : FnScope ["rules"] ["rules"] (defScope s_letters_of) := ⟨rfl, rfl, rfl, by decide +kernel, rfl, by decide +kernel, by decide +kernel⟩
theorem ok_letters_of (T : TX K mg) : FnOk P w K mg base CX0 1 T.f_letters_of T.d_letters_of ["rules"] spLetters := by
  refine T.F_letters_of.ok sc_letters_of (fun vs H Q E h => ?_) (fun cdv A outer s H vs Q E hr h => ?_)
  · obtain ⟨a, xs, rfl, _⟩ := h; rfl
  · obtain ⟨a, xs, rfl, ha, hl, k⟩ := h
    obtain ⟨t, ht⟩ := T.c_ALPHABET
    refine ⟨_, pss_one (ps_ret (pe_slice sl_str (pgl_str rfl ht) po_none (po_some (pe_callB (call_lenKK K) rfl T.n_len PySem.boot_len (pa_cons (pv 0) pa_nil))))), ?_⟩
    refine ⟨_, rfl, a, xs, rfl, .inl (SqL.of ha), _, rfl, _, rfl, by rw [tx_len]; decide, ?_⟩
    rw [slice_to, lets_take hl]
    exact k
theorem sc_is_text_of : FnScope ["letters", "value"] ["letters", "value"] (defScope s_is_text_of) := ⟨rfl, rfl, rfl, by decide +kernel, rfl, by decide +kernel, by decide +kernel⟩
theorem ok_is_text_A (T : TX K mg) : FnOk P w K mg base CX0 1 T.f_is_text_of T.d_is_text_of ["letters", "value"] spIsTextA := by
  refine T.F_is_text_of.ok sc_is_text_of (fun vs H Q E h => ?_) (fun cdv A outer s H vs Q E hr h => ?_)
  · obtain ⟨L, x, rfl, _⟩ := h; rfl
  · obtain ⟨L, x, rfl, hL, hx, k⟩ := h
    refine ⟨_, pss_one (ps_ret (pe_and (pe_callB (call_isiKK K) rfl T.n_isinstance boot_isi (pa_cons (pv 1) (pa_cons (pe_ty rfl T.n_str boot_str_) pa_nil)))
      (pe_one (pe_cmpR op_eq (pe_callB call_lenS rfl T.n_len PySem.boot_len (pa_cons (pe_op op_subA (pe_callTy (call_setS rfl) rfl T.n_set boot_set_ (pa_cons (pv 1) pa_nil)) (pe_callTy (call_setS rfl) rfl T.n_set boot_set_ (pa_cons (pv 0) pa_nil))) pa_nil)) pe_int (nomark _))))), ?_⟩
    refine ⟨_, rfl, _, _, _, _, true, rfl, .ty _, .str _, kit_str K, true, rfl, iteT ?_⟩
    refine ⟨_, rfl, x, rfl, hx, fun p hp => ⟨_, rfl, L, rfl, hL, fun q hq => ?_⟩⟩
    have hpq : p ≠ q := fun z => by rw [z, upd_same] at hq; cases hq
    refine ⟨p, q, _, _, _, _, rfl, rfl, by rw [upd_ne hpq]; exact upd_same, upd_same, by omega, fun r T' m hr' hm => ?_⟩
    refine ⟨r, _, _, rfl, upd_same, rfl, ?_⟩
    have hp' : H p = none := hp
    have hq' : H q = none := by rw [upd_ne (Ne.symm hpq)] at hq; exact hq
    have hr2 : H r = none := by
      have z1 : r ≠ q := fun z => by rw [z, upd_same] at hr'; cases hr'
      rw [upd_ne z1] at hr'
      have z2 : r ≠ p := fun z => by rw [z, upd_same] at hr'; cases hr'
      rw [upd_ne z2] at hr'; exact hr'
    have e : decide (V.int (m : Int) = V.int 0) = decide (∀ c ∈ x, c ∈ L) := by
      rw [decide_eq_decide]
      have hmem : (∀ k, decide (k ∈ sgn x) = true -> decide (k ∈ sgn L) = true) ↔ ∀ c ∈ x, c ∈ L := by
        constructor
        · intro h c hc
          have := h (tx [c]) (decide_eq_true ((mem_sgn x _).mpr ⟨c, hc, rfl⟩))
          obtain ⟨c', hc', e⟩ := (mem_sgn L _).mp (of_decide_eq_true this)
          rw [(List.cons.inj (tx_inj e)).1]; exact hc'
        · intro h z hz
          obtain ⟨c, hc, rfl⟩ := (mem_sgn x z).mp (of_decide_eq_true hz)
          exact decide_eq_true ((mem_sgn L _).mpr ⟨c, h c hc, rfl⟩)
      rcases hm with ⟨_, hm⟩ | ⟨hn, hm⟩
      · rw [<- hmem, <- hm]
        constructor
        · intro z; injection z with z; omega
        · intro z; rw [z]; rfl
      · constructor
        · intro z; injection z with z; omega
        · intro z
          have := sgn_in z
          omega
    rw [e]
    refine k _ (fun b o eb => ?_)
    rw [upd_ne (ne_of_none eb hr2), upd_ne (ne_of_none eb hq'), upd_ne (ne_of_none eb hp')]
    exact eb
noncomputable def spTextN (K : PySem.W.Frag) : Sp := fun vs H Q _ => ∃ (L : Tx) (x : V) (t : Value), vs = [sv L, x] /\ TyOf K H x t /\ PySem.W.kitOne K t (.type "str") = some false /\ Q (.bl false) H
theorem ok_is_text_N (T : TX K mg) : FnOk P w K mg base CX0 1 T.f_is_text_of T.d_is_text_of ["letters", "value"] (spTextN K) := by
  refine T.F_is_text_of.ok sc_is_text_of (fun vs H Q E h => ?_) (fun cdv A outer s H vs Q E hr h => ?_)
  · obtain ⟨L, x, t, rfl, _⟩ := h; rfl
  · obtain ⟨L, x, t, rfl, ht, hk, k⟩ := h
    refine ⟨_, pss_one (ps_ret (pe_and (pe_callB (call_isiKK K) rfl T.n_isinstance boot_isi (pa_cons (pv 1) (pa_cons (pe_ty rfl T.n_str boot_str_) pa_nil))) (pe_one (t := fun _ _ _ => False) (fun _ _ _ _ _ _ h => h.elim)))), ?_⟩
    exact ⟨_, rfl, _, _, _, _, false, rfl, .ty _, ht, hk, false, rfl, iteF k⟩
theorem ok_is_text_X (T : TX K mg) : FnOk P w K mg base CX0 1 T.f_is_text_of T.d_is_text_of ["letters", "value"] (spIsTextX K) :=
  ((ok_is_text_A T).or (ok_is_text_N T)).imp fun vs H Q E h => by
    obtain ⟨L, x, b, rfl, hL, a, k⟩ := h
    cases a with
    | text z hz => exact .inl ⟨L, z, rfl, hL, hz, k⟩
    | not x t ht hk => exact .inr ⟨L, x, t, rfl, ht, hk, k H (Same.refl H)⟩
theorem sgn_letsX {n : Nat} (h : n <= 26) : (sgn (lets n)).length <= 100 := by
  have h1 := sgn_in (L := lets 26) (x := lets n) fun c hc => by
    rw [<- lets_take (n := n) (m := 26) h] at hc
    exact List.mem_of_mem_take hc
  have h2 : (sgn (lets 26)).length <= 26 := by decide +kernel
  omega
theorem sgn_ok {n : Nat} {x : Tx} (h : n <= 26) (hx : OkTx n x) : (sgn x).length <= 100 := by
  have h1 := sgn_in (L := lets n) (x := x) fun c hc => mem_lets.mpr (hx c hc)
  have := sgn_letsX h
  omega
theorem ok_is_text_of (T : TX K mg) : FnOk P w K mg base CX0 1 T.f_is_text_of T.d_is_text_of ["letters", "value"] spIsText :=
  (ok_is_text_A T).imp fun vs H Q E h => by
    obtain ⟨n, x, rfl, h1, h2, k⟩ := h
    refine ⟨lets n, x, rfl, sgn_letsX h1, sgn_ok h1 h2, ?_⟩
    rw [decide_eq_true fun c hc => mem_lets.mpr (h2 c hc)]
    exact k
theorem sc_is_number_up_to : FnScope ["most", "value"] ["most", "value"] (defScope s_is_number_up_to) := ⟨rfl, rfl, rfl, by decide +kernel, rfl, by decide +kernel, by decide +kernel⟩
theorem ok_is_number_up_to (T : TX K mg) : FnOk P w K mg base CX0 1 T.f_is_number_up_to T.d_is_number_up_to ["most", "value"] spIsNum := by
  refine T.F_is_number_up_to.ok sc_is_number_up_to (fun vs H Q E h => ?_) (fun cdv A outer s H vs Q E hr h => ?_)
  · obtain ⟨m, v, rfl, _⟩ := h; rfl
  · obtain ⟨m, v, rfl, k⟩ := h
    refine ⟨_, pss_one (ps_ret (pe_and (pe_callB (call_isiKK K) rfl T.n_isinstance boot_isi (pa_cons (pv 1) (pa_cons (pe_ty rfl T.n_int boot_int_) pa_nil)))
      (pe_and (pe_not (pe_callB (call_isiKK K) rfl T.n_isinstance boot_isi (pa_cons (pv 1) (pa_cons (pe_ty rfl T.n_bool boot_bool_) pa_nil))))
      (pe_one (pe_chain op_le op_le pe_int (pv 1) (pv 0)))))), ?_⟩
    refine ⟨_, rfl, _, _, _, _, true, rfl, .ty _, .int _, kit_int K, true, rfl, iteT ?_⟩
    refine ⟨_, rfl, _, _, _, _, false, rfl, .ty _, .int _, kit_intb K, false, rfl, true, rfl, iteT ?_⟩
    refine ⟨_, rfl, _, _, rfl, rfl, _, rfl, ?_⟩
    by_cases h0 : 0 <= v
    · rw [decide_eq_true h0]
      refine iteT ⟨_, rfl, _, _, rfl, rfl, ?_⟩
      have e : decide (0 <= v /\ v <= m) = decide (v <= m) := by simp [h0]
      rw [e] at k
      exact k
    · rw [decide_eq_false h0]
      refine iteF ?_
      have e : decide (0 <= v /\ v <= m) = false := by simp [h0]
      rw [e] at k
      exact k
theorem sc_is_rules : FnScope ["value", "letters"] ["value"] (defScope s_is_rules) := ⟨rfl, rfl, rfl, by decide +kernel, rfl, by decide +kernel, by decide +kernel⟩
theorem ok_is_rules (T : TX K mg) : FnOk P w K mg base CX0 2 T.f_is_rules T.d_is_rules ["value"] spIsRules := by
  have G1 := ok_letters_of (P := P) (w := w) (base := base) T
  have G2 := ok_is_text_of (P := P) (w := w) (base := base) T
  refine T.F_is_rules.ok sc_is_rules (fun vs H Q E h => ?_) (fun cdv A outer s H vs Q E hr h => ?_)
  · obtain ⟨a, R, rfl, _⟩ := h; rfl
  · obtain ⟨a, R, rfl, ha, hR, k⟩ := h
    obtain ⟨t, ht⟩ := T.c_ALPHABET
    have hu := hu_of hr
    refine ⟨_, pss_cons (ps_if (PW.pt (pw_or (pt_not (pt_val (pe_callB (call_isiKK K) rfl T.n_isinstance boot_isi (pa_cons (pv 0) (pa_cons (pe_ty rfl T.n_list boot_list_) pa_nil)))))
        (pw_or1 (pt_not (pt_chain op_le op_le pe_int (pe_callB (call_lenKK K) rfl T.n_len PySem.boot_len (pa_cons (pv 0) pa_nil)) (pe_callB call_lenSS rfl T.n_len PySem.boot_len (pa_cons (pgl_str rfl ht) pa_nil)))))))
        (pss_one (ps_ret pe_bl)) pss_nil)
      (pss_cons (ps_set (i := 1) sc_is_rules.nd rfl (Or.inr rfl) (pe_call G1 hr rfl T.m_letters_of T.F_letters_of.kp T.b_letters_of .nil pass0 (pa_cons (pv 0) pa_nil)))
      (pss_one (ps_ret (pe_callB (call_allKK K) rfl T.n_all boot_all_ (pa_cons (pe_lc rfl (cs1 (ns := ["text"]) (x := "letters") (k := 1) rfl (Or.inl rfl) rfl (by decide +kernel)) (pi_listK K (pv 0)) (fun _ _ _ _ _ => pgc 0) (fun _ _ _ _ _ => pif_nil)
        (fun _ _ _ _ _ => pe_call G2 hr rfl T.m_is_text_of T.F_is_text_of.kp T.b_is_text_of .nil pass0 (pa_cons (pv 1) (pa_cons (pv 0) pa_nil)))) pa_nil))))), ?_⟩
    have h1 := hR.pos
    have h2 := hR.top
    refine ⟨_, rfl, _, _, _, _, true, rfl, .ty _, .lst ha, kit_lst K, true, rfl, iteF ?_⟩
    refine ⟨_, rfl, a, _, rfl, .inl (SqL.of ha), _, _, rfl, rfl, true, ?_, iteT ⟨_, rfl, by rw [tx_len]; decide, _, _, rfl, rfl, true, ?_, iteF ?_⟩⟩
    · show V.bl (decide ((1 : Int) <= ((svs R).length : Int))) = V.bl true
      rw [List.length_map, decide_eq_true (by omega)]
    · show V.bl (decide (((svs R).length : Int) <= ((tx (lets 26)).length : Int))) = V.bl true
      rw [List.length_map, tx_len, lets_length, decide_eq_true (by omega)]
    refine ⟨_, rfl, a, _, rfl, ha, by rw [List.length_map]; exact h2, ?_⟩
    refine ⟨_, rfl, a, rfl, ⟨_, SqL.of ha⟩, ?_⟩
    refine lcb_map (zs := R) (ι := sv) (f := fun _ => V.bl true) (wk_list (SqL.of ha)) rfl (small1000 (by omega)) (fun i r H' Kt hz hs kk => ?_) fun D H' hs hD hDv => ?_
    · exact ⟨_, rfl, _, rfl, R.length, r, by rw [List.length_map]; rfl, h2, hR.all r (List.mem_of_getElem? hz), fun H5 s5 => kk H5 s5⟩
    · refine ⟨D, R.map fun _ => true, rfl, rfl, SqL.of (by rw [hDv, List.map_map]; rfl), ?_⟩
      have e : (R.map fun _ => true).all id = true := by simp
      rw [e]
      exact k H' hs
theorem kit_bli (K : PySem.W.Frag) : PySem.W.kitOne K (.type "bool") (.type "int") = some true := by kernel_rfl
theorem kit_blb7 (K : PySem.W.Frag) : PySem.W.kitOne K (.type "bool") (.type "bool") = some true := rfl
theorem ok_not_number (T : TX K mg) : FnOk P w K mg base CX0 1 T.f_is_number_up_to T.d_is_number_up_to ["most", "value"] (spXNotNum K) := by
  refine T.F_is_number_up_to.ok sc_is_number_up_to (fun vs H Q E h => ?_) (fun cdv A outer s H vs Q E hr h => ?_)
  · obtain ⟨m, v, rfl, _⟩ := h; rfl
  · obtain ⟨m, v, rfl, hb, k⟩ := h
    refine ⟨_, pss_one (ps_ret (pe_and (pe_callB (call_isiKK K) rfl T.n_isinstance boot_isi (pa_cons (pv 1) (pa_cons (pe_ty rfl T.n_int boot_int_) pa_nil)))
      (pe_and (pe_not (pe_callB (call_isiKK K) rfl T.n_isinstance boot_isi (pa_cons (pv 1) (pa_cons (pe_ty rfl T.n_bool boot_bool_) pa_nil))))
      (pe_one (pe_chain op_le op_le pe_int (pv 1) (pv 0)))))), ?_⟩
    cases hb with
    | ty x t ht hk => exact ⟨_, rfl, _, _, _, _, false, rfl, .ty _, ht, hk, false, rfl, iteF k⟩
    | bool b =>
      refine ⟨_, rfl, _, _, _, _, true, rfl, .ty _, .bl _, kit_bli K, true, rfl, iteT ?_⟩
      exact ⟨_, rfl, _, _, _, _, true, rfl, .ty _, .bl _, kit_blb7 K, true, rfl, false, rfl, iteF k⟩
    | int i hi =>
      refine ⟨_, rfl, _, _, _, _, true, rfl, .ty _, .int _, kit_int K, true, rfl, iteT ?_⟩
      refine ⟨_, rfl, _, _, _, _, false, rfl, .ty _, .int _, kit_intb K, false, rfl, true, rfl, iteT ?_⟩
      refine ⟨_, rfl, _, _, rfl, rfl, _, rfl, ?_⟩
      by_cases h0 : 0 <= i
      · rw [decide_eq_true h0]
        refine iteT ⟨_, rfl, _, _, rfl, rfl, ?_⟩
        show Q (.bl (decide (i <= m))) H
        rw [decide_eq_false (show ¬ i <= m from fun z => hi ⟨h0, z⟩)]
        exact k
      · rw [decide_eq_false h0]
        exact iteF k
theorem ok_not_rules (T : TX K mg) : FnOk P w K mg base CX0 2 T.f_is_rules T.d_is_rules ["value"] (spXNotRules K) := by
  have G1 := ok_letters_of (P := P) (w := w) (base := base) T
  have G2 := ok_is_text_X (P := P) (w := w) (base := base) T
  refine T.F_is_rules.ok sc_is_rules (fun vs H Q E h => ?_) (fun cdv A outer s H vs Q E hr h => ?_)
  · obtain ⟨v, rfl, _⟩ := h; rfl
  · obtain ⟨v, rfl, hb, k⟩ := h
    obtain ⟨t, ht⟩ := T.c_ALPHABET
    have hu := hu_of hr
    refine ⟨_, pss_cons (ps_if (PW.pt (pw_or (pt_not (pt_val (pe_callB (call_isiKK K) rfl T.n_isinstance boot_isi (pa_cons (pv 0) (pa_cons (pe_ty rfl T.n_list boot_list_) pa_nil)))))
        (pw_or1 (pt_not (pt_chain op_le op_le pe_int (pe_callB (call_lenKK K) rfl T.n_len PySem.boot_len (pa_cons (pv 0) pa_nil)) (pe_callB call_lenSS rfl T.n_len PySem.boot_len (pa_cons (pgl_str rfl ht) pa_nil)))))))
        (pss_one (ps_ret pe_bl)) pss_nil)
      (pss_cons (ps_set (i := 1) sc_is_rules.nd rfl (Or.inr rfl) (pe_call G1 hr rfl T.m_letters_of T.F_letters_of.kp T.b_letters_of .nil pass0 (pa_cons (pv 0) pa_nil)))
      (pss_one (ps_ret (pe_callB (call_allKK K) rfl T.n_all boot_all_ (pa_cons (pe_lc rfl (cs1 (ns := ["text"]) (x := "letters") (k := 1) rfl (Or.inl rfl) rfl (by decide +kernel)) (pi_listK K (pv 0)) (fun _ _ _ _ _ => pgc 0) (fun _ _ _ _ _ => pif_nil)
        (fun _ _ _ _ _ => pe_call G2 hr rfl T.m_is_text_of T.F_is_text_of.kp T.b_is_text_of .nil pass0 (pa_cons (pv 1) (pa_cons (pv 0) pa_nil)))) pa_nil))))), ?_⟩
    have e26 : ((tx (lets 26)).length : Int) = 26 := by rw [tx_len, lets_length]; rfl
    cases hb with
    | ty x t ht hk => exact ⟨_, rfl, _, _, _, _, false, rfl, .ty _, ht, hk, false, rfl, iteT (k H (Same.refl H))⟩
    | len a xs ha hl hz =>
      refine ⟨_, rfl, _, _, _, _, true, rfl, .ty _, .lst ha, kit_lst K, true, rfl, iteF ?_⟩
      rcases hl with hl | hl
      · refine ⟨_, rfl, a, _, rfl, .inl (SqL.of ha), _, _, rfl, rfl, false, ?_, iteF ⟨false, rfl, iteT (k H (Same.refl H))⟩⟩
        show V.bl (decide ((1 : Int) <= (xs.length : Int))) = V.bl false
        rw [decide_eq_false (by rw [hl]; decide)]
      · refine ⟨_, rfl, a, _, rfl, .inl (SqL.of ha), _, _, rfl, rfl, true, ?_, iteT ⟨_, rfl, by rw [tx_len]; decide, _, _, rfl, rfl, false, ?_, iteT (k H (Same.refl H))⟩⟩
        · show V.bl (decide ((1 : Int) <= (xs.length : Int))) = V.bl true
          rw [decide_eq_true (by omega)]
        · show V.bl (decide ((xs.length : Int) <= ((tx (lets 26)).length : Int))) = V.bl false
          rw [e26, decide_eq_false (by omega)]
    | one a xs ha h1 h2 hl hf =>
      have len : (xs.map (·.1)).length = xs.length := List.length_map _
      refine ⟨_, rfl, _, _, _, _, true, rfl, .ty _, .lst ha, kit_lst K, true, rfl, iteF ?_⟩
      refine ⟨_, rfl, a, _, rfl, .inl (SqL.of ha), _, _, rfl, rfl, true, ?_, iteT ⟨_, rfl, by rw [tx_len]; decide, _, _, rfl, rfl, true, ?_, iteF ?_⟩⟩
      · show V.bl (decide ((1 : Int) <= ((xs.map (·.1)).length : Int))) = V.bl true
        rw [len, decide_eq_true (by omega)]
      · show V.bl (decide (((xs.map (·.1)).length : Int) <= ((tx (lets 26)).length : Int))) = V.bl true
        rw [len, e26, decide_eq_true (by omega)]
      refine ⟨_, rfl, a, _, rfl, ha, by rw [len]; exact h2, ?_⟩
      refine ⟨_, rfl, a, rfl, ⟨_, SqL.of ha⟩, ?_⟩
      refine lcb_map (zs := xs) (ι := (·.1)) (f := fun p => V.bl p.2) (wk_list (SqL.of ha)) rfl (small1000 (by omega)) (fun i r H' Kt hz hs kk => ?_) fun D H' hs hD hDv => ?_
      · refine ⟨_, rfl, _, rfl, lets xs.length, r.1, r.2, by rw [len]; rfl, sgn_letsX h2, ?_, fun H5 s5 => kk H5 s5⟩
        exact (hl r (List.mem_of_getElem? hz)).same hs
      · refine ⟨D, xs.map (·.2), rfl, rfl, SqL.of (by rw [hDv, List.map_map]; rfl), ?_⟩
        have e : (xs.map (·.2)).all id = false := by rw [List.all_map]; exact hf
        rw [e]
        exact k H' hs
theorem sc_check_rules : FnScope ["rules"] ["rules"] (defScope s_check_rules) := ⟨rfl, rfl, rfl, by decide +kernel, rfl, by decide +kernel, by decide +kernel⟩
theorem ok_check_rules (T : TX K mg) : FnOk P w K mg base CX0 3 T.f_check_rules T.d_check_rules ["rules"] spCheckRules := by
  have G1 := ok_is_rules (P := P) (w := w) (base := base) T
  refine T.F_check_rules.ok sc_check_rules (fun vs H Q E h => ?_) (fun cdv A outer s H vs Q E hr h => ?_)
  · obtain ⟨a, R, rfl, _⟩ := h; rfl
  · obtain ⟨a, R, rfl, ha, hR, k⟩ := h
    refine ⟨_, pss_one (ps_if (pt_not (pt_val (pe_call G1 hr rfl T.m_is_rules T.F_is_rules.kp T.b_is_rules .nil pass0 (pa_cons (pv 0) pa_nil)))) pss_never pss_nil), ?_⟩
    exact ⟨_, rfl, a, R, rfl, ha, hR, fun H' s' => ⟨true, rfl, iteF (k H' s')⟩⟩
theorem sc_check_row : FnScope ["rules", "row"] ["rules", "row"] (defScope s_check_row) := ⟨rfl, rfl, rfl, by decide +kernel, rfl, by decide +kernel, by decide +kernel⟩
theorem ok_check_row (T : TX K mg) : FnOk P w K mg base CX0 2 T.f_check_row T.d_check_row ["rules", "row"] spCheckRow := by
  have G1 := ok_letters_of (P := P) (w := w) (base := base) T
  have G2 := ok_is_text_of (P := P) (w := w) (base := base) T
  refine T.F_check_row.ok sc_check_row (fun vs H Q E h => ?_) (fun cdv A outer s H vs Q E hr h => ?_)
  · obtain ⟨a, R, x, rfl, _⟩ := h; rfl
  · obtain ⟨a, R, x, rfl, ha, hR, hx, k⟩ := h
    refine ⟨_, pss_one (ps_if (pt_not (pt_val (pe_call G2 hr rfl T.m_is_text_of T.F_is_text_of.kp T.b_is_text_of .nil pass0 (pa_cons (pe_call G1 hr rfl T.m_letters_of T.F_letters_of.kp T.b_letters_of .nil pass0 (pa_cons (pv 0) pa_nil)) (pa_cons (pv 1) pa_nil))))) pss_never pss_nil), ?_⟩
    refine ⟨_, rfl, a, _, rfl, ha, by rw [List.length_map]; exact hR.top, _, rfl, R.length, x, by rw [List.length_map]; rfl, hR.top, hx, fun H' s' => ⟨true, rfl, iteF (k H' s')⟩⟩
theorem sc_check_times : FnScope ["times"] ["times"] (defScope s_check_times) := ⟨rfl, rfl, rfl, by decide +kernel, rfl, by decide +kernel, by decide +kernel⟩
theorem ok_check_times (T : TX K mg) : FnOk P w K mg base CX0 2 T.f_check_times T.d_check_times ["times"] spCheckTimes := by
  have G1 := ok_is_number_up_to (P := P) (w := w) (base := base) T
  refine T.F_check_times.ok sc_check_times (fun vs H Q E h => ?_) (fun cdv A outer s H vs Q E hr h => ?_)
  · obtain ⟨t, rfl, _⟩ := h; rfl
  · obtain ⟨t, rfl, h0, h1, k⟩ := h
    obtain ⟨u, hu⟩ := T.c_MOST_TIMES
    refine ⟨_, pss_one (ps_if (pt_not (pt_val (pe_call G1 hr rfl T.m_is_number_up_to T.F_is_number_up_to.kp T.b_is_number_up_to .nil pass0 (pa_cons (pgl_int rfl hu) (pa_cons (pv 0) pa_nil))))) pss_never pss_nil), ?_⟩
    refine ⟨_, rfl, 300, t, rfl, true, ?_, iteF k⟩
    rw [decide_eq_true ⟨h0, h1⟩]
theorem zipK_val {l : List Nat} {xs : List V} {c : Nat} {v : V} (nd : l.Nodup) : ∀ {i : Nat}, l[i]? = some c -> xs[i]? = some v -> valV (zipK l xs) (Sum.inr (tx [c]) : Key) = some v := by
  induction l generalizing xs with
  | nil => intro i h; simp at h
  | cons d l ih =>
    intro i h1 h2
    cases xs with
    | nil => simp at h2
    | cons x xs =>
      obtain ⟨n1, n2⟩ := List.nodup_cons.mp nd
      show valV ((Sum.inr (tx [d]), x) :: zipK l xs) _ = _
      cases i with
      | zero =>
        simp at h1 h2; subst h1; subst h2
        exact valV_pos rfl
      | succ i =>
        rw [valV_neg]
        · exact ih n2 (by simpa using h1) (by simpa using h2)
        · intro e
          have := (List.cons.inj (tx_inj (Sum.inr.inj e))).1
          have h1 : l[i]? = some c := by simpa using h1
          exact n1 (this ▸ List.mem_of_getElem? h1)
theorem flat_once (R : Ru) (x : Tx) : (x.map fun c => R.getD (c - 97) []).flatten = once R x := by
  unfold once; rw [List.flatMap_def]
theorem sc_grown_once : FnScope ["rules", "row", "rule_of"] ["rules", "row"] (defScope s_grown_once) := ⟨rfl, rfl, rfl, by decide +kernel, rfl, by decide +kernel, by decide +kernel⟩
theorem ok_grown_once (T : TX K mg) : FnOk P w K mg base CX0 2 T.f_grown_once T.d_grown_once ["rules", "row"] spOnce := by
  have G1 := ok_letters_of (P := P) (w := w) (base := base) T
  refine T.F_grown_once.ok sc_grown_once (fun vs H Q E h => ?_) (fun cdv A outer s H vs Q E hr h => ?_)
  · obtain ⟨a, R, x, rfl, _⟩ := h; rfl
  · obtain ⟨a, R, x, rfl, ha, hR, hx, hlx, hl, k⟩ := h
    have hu := hu_of hr
    have h2 := hR.top
    refine ⟨_, pss_cons (ps_set (i := 2) sc_grown_once.nd rfl (Or.inr rfl) (pe_dictzip rfl rfl T.n_dict rfl T.n_zip (pa_cons (pe_call G1 hr rfl T.m_letters_of T.F_letters_of.kp T.b_letters_of .nil pass0 (pa_cons (pv 0) pa_nil)) (pa_cons (pv 0) pa_nil))))
      (pss_one (ps_ret (pe_bmK K PySem.F.plainAttrs_str PySem.F.slot_str_join PySem.F.type_str_join (mt_joinK K) pe_str
        (pa_cons (pe_lc rfl (cs1 (ns := ["letter"]) (x := "rule_of") (k := 2) rfl (Or.inl rfl) rfl (by decide +kernel)) (pi_str (pv 1)) (fun _ _ _ _ _ => pgc 0) (fun _ _ _ _ _ => pif_nil) (fun _ _ _ _ _ => pe_dget hu (pv 1) (pv 0) (fun _ _ => rfl))) pa_nil)))), ?_⟩
    refine ⟨_, rfl, a, _, rfl, ha, by rw [List.length_map]; exact h2, _, rfl, lets (svs R).length, a, svs R, rfl, lets_asc (by rw [List.length_map]; exact h2), lets_nodup _, ha, by rw [lets_length], by rw [lets_length, List.length_map]; omega, fun d hd => ?_⟩
    rw [List.length_map]
    refine ⟨rfl, _, rfl, tx x, rfl, ?_⟩
    refine lcb_map (zs := x) (ι := fun c => sv [c]) (f := fun c => sv (R.getD (c - 97) [])) (wk_str x) rfl (sl_big hlx) (fun i c H' Kt hc hs kk => ?_) fun D H' hs hD hDv => ?_
    · refine ⟨_, rfl, _, rfl, d, _, rfl, ?_, kk H' (Same.refl _)⟩
      have hok := hx c (List.mem_of_getElem? hc)
      have hv : valV (zipK (lets R.length) (svs R)) (Sum.inr (tx [c]) : Key) = some (sv (R.getD (c - 97) [])) := zipK_val (lets_nodup _) (i := c - 97) (by rw [lets_get (by omega)]; congr 1; omega) (by
        rw [List.getElem?_map, List.getElem?_eq_getElem (show c - 97 < R.length by omega), List.getD_eq_getElem?_getD, List.getElem?_eq_getElem (show c - 97 < R.length by omega)]; rfl)
      rw [<- hv]
      exact DGet.k (k := Sum.inr (tx [c])) (hs _ _ upd_same)
    · refine ⟨D, x.map fun c => R.getD (c - 97) [], rfl, rfl, SqL.of (by rw [hDv, List.map_map]; rfl), ?_, ?_⟩
      · rw [flat_once]; omega
      · rw [flat_once]
        exact k H' ((same_new hd).trans hs)
theorem sc_counted : FnScope ["letters", "text"] ["letters", "text"] (defScope s_counted) := ⟨rfl, rfl, rfl, by decide +kernel, rfl, by decide +kernel, by decide +kernel⟩
theorem ok_counted (T : TX K mg) : FnOk P w K mg base CX0 1 T.f_counted T.d_counted ["letters", "text"] spCounted := by
  refine T.F_counted.ok sc_counted (fun vs H Q E h => ?_) (fun cdv A outer s H vs Q E hr h => ?_)
  · obtain ⟨n, x, rfl, _⟩ := h; rfl
  · obtain ⟨n, x, rfl, hn, k⟩ := h
    refine ⟨_, pss_one (ps_ret (pe_lc rfl (cs1 (ns := ["sign"]) (x := "text") (k := 1) rfl (Or.inl rfl) rfl (by decide +kernel)) (pi_str (pv 0)) (fun _ _ _ _ _ => pgc 0) (fun _ _ _ _ _ => pif_nil)
      (fun _ _ _ _ _ => pe_bmK K PySem.F.plainAttrs_str PySem.F.slot_str_count PySem.F.type_str_count mt_count (pv 1) (pa_cons (pv 0) pa_nil)))), ?_⟩
    refine ⟨_, rfl, tx (lets n), rfl, ?_⟩
    refine lcb_map (zs := lets n) (ι := fun c => sv [c]) (f := fun c => V.int (x.count c : Nat)) (wk_str (lets n)) rfl (by rw [lets_length]; exact small1000 (by omega)) (fun i c H' Kt hc hs kk => ?_) fun D H' hs hD hDv => ?_
    · exact ⟨_, rfl, rfl, _, rfl, x, c, rfl, rfl, kk H' (Same.refl _)⟩
    · exact k D H' hs hD (by rw [hDv]; unfold cnt ivs; rw [List.map_map]; rfl)
theorem zip_map_int (u v : List Int) : (ivs u).zip (ivs v) = (u.zip v).map fun p => (V.int p.1, V.int p.2) := by
  rw [List.zip_map]; rfl
theorem sc_weighed : FnScope ["held", "sizes"] ["held", "sizes"] (defScope s_weighed) := ⟨rfl, rfl, rfl, by decide +kernel, rfl, by decide +kernel, by decide +kernel⟩
theorem ok_weighed (T : TX K mg) : FnOk P w K mg base CX0 1 T.f_weighed T.d_weighed ["held", "sizes"] spWeighed := by
  refine T.F_weighed.ok sc_weighed (fun vs H Q E h => ?_) (fun cdv A outer s H vs Q E hr h => ?_)
  · obtain ⟨a, b, u, v, rfl, _⟩ := h; rfl
  · obtain ⟨a, b, u, v, rfl, ha, hb, hl, hl2, hsm, k⟩ := h
    refine ⟨_, pss_one (ps_ret (pe_callB (call_sumKK K) rfl T.n_sum boot_sum_ (pa_cons (pe_lc rfl (cs0 (ns := ["many", "size"])) (pi_zip rfl T.n_zip (pa_cons (pv 0) (pa_cons (pv 1) pa_nil))) (fun _ _ _ _ _ => pg_tupK K (n := 2) rfl (pgs_cons (pgc 0) (pgs_cons (pgc 1) pgs_nil))) (fun _ _ _ _ _ => pif_nil)
      (fun _ _ _ _ _ => pe_op op_mul (pv 0) (pv 1))) pa_nil))), ?_⟩
    refine ⟨_, rfl, _, rfl, .lst a, .lst b, ivs u, ivs v, rfl, ha, hb, ?_⟩
    refine lcb_pairs (zs := u.zip v) (ι := fun p => V.int p.1) (κ := fun p => V.int p.2) (f := fun p => V.int (p.1 * p.2)) (p := fun _ => true) (by
      rw [<- zip_map_int]
      exact wk_zip (src_lst ha) (src_lst hb) (by rw [List.length_map, List.length_map]; exact hl)) rfl (by rw [List.length_zip]; exact small1000 (by omega)) (fun i z H' Kt _ _ kk => kk H' (Same.refl _)) (fun i z H' Kt hz _ hs kk => ?_) fun D H' hs hD hDv => ?_
    · exact ⟨_, rfl, _, rfl, _, _, rfl, rfl, hsm z (List.mem_of_getElem? hz), kk H' (Same.refl _)⟩
    · refine ⟨D, (u.zip v).map fun p => p.1 * p.2, rfl, rfl, SqL.of (by rw [hDv, filt, List.map_map]; rfl), ?_⟩
      have e : ((u.zip v).map fun p => p.1 * p.2).sum = weigh u v := by
        unfold weigh
        rw [List.zip_eq_zipWith, List.map_zipWith]
      rw [e]
      exact k H' hs
theorem sc_table_of : FnScope ["rules", "letters"] ["rules"] (defScope s_table_of) := ⟨rfl, rfl, rfl, by decide +kernel, rfl, by decide +kernel, by decide +kernel⟩
theorem ok_table_of (T : TX K mg) : FnOk P w K mg base CX0 2 T.f_table_of T.d_table_of ["rules"] spTable := by
  have G1 := ok_letters_of (P := P) (w := w) (base := base) T
  have G2 := ok_counted (P := P) (w := w) (base := base) T
  refine T.F_table_of.ok sc_table_of (fun vs H Q E h => ?_) (fun cdv A outer s H vs Q E hr h => ?_)
  · obtain ⟨a, R, rfl, _⟩ := h; rfl
  · obtain ⟨a, R, rfl, ha, hR, k⟩ := h
    refine ⟨_, pss_cons (ps_set (i := 1) sc_table_of.nd rfl (Or.inr rfl) (pe_call G1 hr rfl T.m_letters_of T.F_letters_of.kp T.b_letters_of .nil pass0 (pa_cons (pv 0) pa_nil)))
      (pss_one (ps_ret (pe_lc rfl (cs1 (ns := ["text"]) (x := "letters") (k := 1) rfl (Or.inl rfl) rfl (by decide +kernel)) (pi_listK K (pv 0)) (fun _ _ _ _ _ => pgc 0) (fun _ _ _ _ _ => pif_nil)
        (fun _ _ _ _ _ => pe_call G2 hr rfl T.m_counted T.F_counted.kp T.b_counted .nil pass0 (pa_cons (pv 1) (pa_cons (pv 0) pa_nil)))))), ?_⟩
    refine ⟨_, rfl, a, _, rfl, ha, by rw [List.length_map]; exact hR, ?_⟩
    refine ⟨_, rfl, a, rfl, ⟨_, SqL.of ha⟩, ?_⟩
    refine lcb_refs (zs := R) (ι := sv) (f := fun r => ivs (cnt R.length r)) (wk_list (SqL.of ha)) rfl (small1000 (by omega)) (fun i r H' Kt hz hs kk => ?_) fun D ps H' hs hD hDv hRf => ?_
    · refine ⟨_, rfl, _, rfl, R.length, r, by rw [List.length_map]; rfl, hR, fun p H5 s5 hp hp5 => kk p H5 s5 hp hp5⟩
    · refine k D H' hs hD ⟨ps, hDv, by rw [hRf.len]; simp [GM.table], fun i p l h1 h2 => ?_⟩
      unfold GM.table at h2
      rw [List.getElem?_map] at h2
      obtain ⟨r, hr', rfl⟩ := Option.map_eq_some_iff.mp h2
      exact (hRf.at_ i p (ivs (cnt R.length r)) h1 (by rw [List.getElem?_map, hr']; rfl)).1
theorem sc_held_next : FnScope ["table", "held", "told", "many", "line"] ["table", "held"] (defScope s_held_next) := ⟨rfl, rfl, rfl, by decide +kernel, rfl, by decide +kernel, by decide +kernel⟩
theorem ok_held_next (T : TX K mg) : FnOk P w K mg base CX0 1 T.f_held_next T.d_held_next ["table", "held"] spNext := by
  refine T.F_held_next.ok sc_held_next (fun vs H Q E h => ?_) (fun cdv A outer s H vs Q E hr h => ?_)
  · obtain ⟨t, h, T, v, rfl, _⟩ := h; rfl
  · obtain ⟨t, h, M, v, rfl, ht, hM, hh, hl, k⟩ := h
    obtain ⟨ps, hps, lps, rows⟩ := id ht
    refine ⟨_, pss_cons (ps_lc rfl sc_held_next.nd (i := 2) rfl rfl (cs0 (ns := ["line"])) (pi_listK K (pv 0)) (fun _ _ _ _ _ => pgc 0) (fun _ _ _ _ _ => pif_nil) (fun _ _ _ _ _ => pe_int))
      (pss_cons (ps_for PassesOwn.never rfl (pi_zip rfl T.n_zip (pa_cons (pv 1) (pa_cons (pv 0) pa_nil))) (pg_tupK K (n := 2) rfl (pgs_cons (pg_name (i := 3) sc_held_next.nd rfl (Or.inr rfl)) (pgs_cons (pg_name (i := 4) sc_held_next.nd rfl (Or.inl rfl)) pgs_nil)))
        (pss_one (ps_if (pt_cmpR op_ne (pv 3) pe_int (nomark _))
          (pss_one (ps_lc rfl sc_held_next.nd (i := 2) rfl rfl (cs1 (ns := ["so_far", "each"]) (x := "many") (k := 3) rfl (Or.inl rfl) rfl (by decide +kernel)) (pi_zip rfl T.n_zip (pa_cons (pv 2) (pa_cons (pv 4) pa_nil)))
            (fun _ _ _ _ _ => pg_tupK K (n := 2) rfl (pgs_cons (pgc 0) (pgs_cons (pgc 1) pgs_nil))) (fun _ _ _ _ _ => pif_nil)
            (fun _ _ _ _ _ => pe_op op_add (pv 0) (pe_op op_mul (pv 2) (pv 1)))))
          pss_nil)))
      (pss_one (ps_ret (pv 2)))), ?_⟩
    refine ⟨_, rfl, t, rfl, ⟨_, SqL.of hps⟩, ?_⟩
    refine lcb_map (zs := ps) (ι := V.ref) (f := fun _ => V.int 0) (wk_list (SqL.of hps)) rfl (by rw [lps]; exact small1000 hM.top) (fun i z H' Kt _ _ kk => kk H' (Same.refl _)) fun D H1 hs1 hD hD1 => ?_
    have hh1 : IntsAt H1 h v := hs1 _ _ hh
    refine ⟨_, rfl, _, rfl, .lst h, .lst t, _, _, rfl, hh1, hs1 _ _ hps, ?_⟩
    have hz : (ps.map fun _ => V.int 0) = ivs (List.replicate M.length 0) := by
      rw [List.map_const', lps]; simp [ivs]
    refine for_pairs (wk_zip (src_lst hh1) (src_lst (hs1 _ _ hps)) (by rw [List.length_map, List.length_map]; omega))
      (fun i σ H2 => ∃ (d : Addr) (m l : Option V), σ = [some (.ref t), some (.ref h), some (.ref d), m, l] /\ Same H1 H2 /\ H d = none /\ IntsAt H2 d (((v.zip M).take i).foldl hstep (List.replicate M.length 0)))
      ⟨D, none, none, rfl, Same.refl _, hD, by show H1 D = some (.lst (ivs (List.replicate M.length 0))); rw [<- hz]; exact hD1⟩ (fun i σ H2 ⟨_, _, _, _, z, _⟩ => z) ?_ ?_
    · rintro i x y p σ H2 hxy ⟨d, m, l, rfl, s2, hd, hdv⟩ hp
      obtain ⟨n, en, rfl⟩ := getI (show (ivs v)[i]? = some x from (List.getElem?_zip_eq_some.mp hxy).1)
      have e2 : (ps.map V.ref)[i]? = some y := (List.getElem?_zip_eq_some.mp hxy).2
      rw [List.getElem?_map] at e2
      obtain ⟨q, eq, rfl⟩ := Option.map_eq_some_iff.mp e2
      have hi : i < M.length := by have := (List.getElem?_eq_some_iff.mp eq).1; omega
      have eM : M[i]? = some M[i] := by simp [hi]
      have hrow : IntsAt H q M[i] := rows i q M[i] eq eM
      have hlen : M[i].length = M.length := hM.rows _ (List.getElem_mem hi)
      have hzip : (v.zip M)[i]? = some (n, M[i]) := List.getElem?_zip_eq_some.mpr ⟨en, eM⟩
      have htk : (v.zip M).take (i + 1) = (v.zip M).take i ++ [(n, M[i])] := by rw [List.take_add_one, hzip]; rfl
      have hfl : (((v.zip M).take i).foldl hstep (List.replicate M.length 0)).length = M.length := by
        have := (foldl_hstep_get M.length ((v.zip M).take i) (List.replicate M.length 0) (by simp) fun p hp => hM.rows _ (List.of_mem_zip (List.mem_of_mem_take hp)).2).1
        exact this
      refine ⟨_, rfl, rfl, _, rfl, ?_⟩
      have dn : decide (V.int n = V.int 0) = decide (n = 0) := by
        by_cases z : n = 0
        · subst z; simp
        · rw [decide_eq_false z, decide_eq_false]; intro q; cases q; exact z rfl
      rw [dn]
      by_cases z : n = 0
      · rw [decide_eq_true z]
        refine iteF ⟨d, _, _, rfl, s2.trans (same_new hp), hd, ?_⟩
        rw [htk, List.foldl_append]
        show IntsAt _ _ (hstep _ _)
        unfold hstep
        rw [if_pos z]
        exact same_new hp _ _ hdv
      · rw [decide_eq_false z]
        refine iteT ?_
        have hdv' : IntsAt (upd H2 p (.tup [V.int n, V.ref q])) d (((v.zip M).take i).foldl hstep (List.replicate M.length 0)) := same_new hp _ _ hdv
        have hq' : IntsAt (upd H2 p (.tup [V.int n, V.ref q])) q M[i] := same_new hp _ _ (s2 _ _ (hs1 _ _ hrow))
        refine ⟨_, rfl, _, rfl, .lst d, .lst q, _, _, rfl, hdv', hq', ?_⟩
        refine lcb_pairs (zs := (((v.zip M).take i).foldl hstep (List.replicate M.length 0)).zip M[i]) (ι := fun p => V.int p.1) (κ := fun p => V.int p.2) (f := fun p => V.int (p.1 + n * p.2)) (p := fun _ => true) (by
          rw [<- zip_map_int]
          exact wk_zip (src_lst hdv') (src_lst hq') (by rw [List.length_map, List.length_map]; omega)) rfl (by rw [List.length_zip]; exact small1000 (by have := hM.top; omega)) (fun i z H' Kt _ _ kk => kk H' (Same.refl _)) (fun j e H' Kt he _ hs kk => ?_) fun D2 H3 hs3 hD2 hD3 => ?_
        · exact ⟨_, rfl, _, rfl, _, rfl, _, _, rfl, rfl, .inr (hM.small _ (List.getElem_mem hi) e.2 (List.of_mem_zip (List.mem_of_getElem? he)).2), _, _, rfl, rfl, kk H' (Same.refl _)⟩
        · have hHD : H D2 = none := ((hs1.trans s2).trans (same_new hp)).free hD2
          refine ⟨D2, _, _, rfl, (s2.trans (same_new hp)).trans hs3, hHD, ?_⟩
          rw [htk, List.foldl_append]
          show IntsAt _ _ (hstep _ _)
          unfold hstep
          rw [if_neg z, <- List.map_uncurry_zip_eq_zipWith]
          show H3 D2 = some (.lst (List.map _ _))
          rw [hD3, filt, List.map_map]
          rfl
    · rintro σ H2 ⟨d, m, l, rfl, s2, hd, hdv⟩
      refine ⟨_, rfl, k d H2 (hs1.trans s2) hd ?_⟩
      have el : ((ivs v).zip (ps.map V.ref)).length = (v.zip M).length := by rw [List.length_zip, List.length_zip, List.length_map, List.length_map, lps]
      rw [el, List.take_length] at hdv
      exact hdv
theorem sc_held_after : FnScope ["rules", "row", "times", "table", "held", "step"] ["rules", "row", "times"] (defScope s_held_after) := ⟨rfl, rfl, rfl, by decide +kernel, rfl, by decide +kernel, by decide +kernel⟩
theorem ok_held_after (T : TX K mg) : FnOk P w K mg base CX0 3 T.f_held_after T.d_held_after ["rules", "row", "times"] spAfter := by
  have G1 := ok_letters_of (P := P) (w := w) (base := base) T
  have G2 := ok_counted (P := P) (w := w) (base := base) T
  have G3 := ok_table_of (P := P) (w := w) (base := base) T
  have G4 := ok_held_next (P := P) (w := w) (base := base) T
  refine T.F_held_after.ok sc_held_after (fun vs H Q E h => ?_) (fun cdv A outer s H vs Q E hr h => ?_)
  · obtain ⟨a, R, x, t, rfl, _⟩ := h; rfl
  · obtain ⟨a, R, x, t, rfl, ha, hR, hb, hx, ht, k⟩ := h
    have hr1 := hr.mono (show 1 <= 2 by decide)
    refine ⟨_, pss_cons (ps_set (i := 3) sc_held_after.nd rfl (Or.inl rfl) (pe_call G3 hr rfl T.m_table_of T.F_table_of.kp T.b_table_of .nil pass0 (pa_cons (pv 0) pa_nil)))
      (pss_cons (ps_set (i := 4) sc_held_after.nd rfl (Or.inl rfl) (pe_call G2 hr1 rfl T.m_counted T.F_counted.kp T.b_counted .nil pass0 (pa_cons (pe_call G1 hr1 rfl T.m_letters_of T.F_letters_of.kp T.b_letters_of .nil pass0 (pa_cons (pv 0) pa_nil)) (pa_cons (pv 1) pa_nil))))
      (pss_cons (ps_for PassesOwn.never rfl (pi_range1 rfl T.n_range (pa_cons (pv 2) pa_nil)) (pg_name (i := 5) sc_held_after.nd rfl (Or.inl rfl))
        (pss_one (ps_set (i := 4) sc_held_after.nd rfl (Or.inl rfl) (pe_call G4 hr1 rfl T.m_held_next T.F_held_next.kp T.b_held_next .nil pass0 (pa_cons (pv 3) (pa_cons (pv 4) pa_nil))))))
      (pss_one (ps_ret (pv 4))))), ?_⟩
    have h2 := hR.top
    refine ⟨_, rfl, a, R, rfl, ha, h2, fun p H1 s1 hp hT => ?_⟩
    refine ⟨_, rfl, a, _, rfl, s1 _ _ ha, by rw [List.length_map]; exact h2, _, rfl, R.length, x, by rw [List.length_map]; rfl, h2, fun q H2 s2 hq hq2 => ?_⟩
    refine ⟨_, rfl, (t : Int), rfl, by omega, by omega, for_range (lo := 0) (n := (t : Int).toNat) (fun i σ H3 => ∃ (d : Addr) (o : Option V), σ = [some (.ref a), some (sv x), some (.int (t : Nat)), some (.ref p), some (.ref d), o] /\ Same H H3 /\ TabAt H3 p (table R) /\ H d = none /\ IntsAt H3 d (cnt R.length (grow R i x)))
      ⟨q, none, rfl, s1.trans s2, hT.same s2, s1.free hq, hq2⟩ ?_ ?_⟩
    · rintro i σ H3 hi ⟨d, o, rfl, s3, hT3, hd, hdv⟩
      refine ⟨_, rfl, _, rfl, p, d, table R, cnt R.length (grow R i x), rfl, hT3, table_sq h2 hb, hdv, by rw [cnt_length, table_length], fun e H4 s4 he he4 => ?_⟩
      refine ⟨e, _, rfl, s3.trans s4, hT3.same s4, s3.free he, ?_⟩
      rw [hnext_cnt (OkTx.grow hR hx), <- grow_succ'] at he4
      exact he4
    · rintro σ H3 ⟨d, o, rfl, s3, hT3, hd, hdv⟩
      refine ⟨_, rfl, k d H3 s3 hd ?_⟩
      rw [Int.toNat_natCast] at hdv
      exact hdv
theorem sc_check_asked : FnScope ["rules", "row", "times"] ["rules", "row", "times"] (defScope s_check_asked) := ⟨rfl, rfl, rfl, by decide +kernel, rfl, by decide +kernel, by decide +kernel⟩
theorem ok_check_asked (T : TX K mg) : FnOk P w K mg base CX0 4 T.f_check_asked T.d_check_asked ["rules", "row", "times"] spAsked := by
  have G1 := ok_check_rules (P := P) (w := w) (base := base) T
  have G2 := ok_check_row (P := P) (w := w) (base := base) T
  have G3 := ok_check_times (P := P) (w := w) (base := base) T
  refine T.F_check_asked.ok sc_check_asked (fun vs H Q E h => ?_) (fun cdv A outer s H vs Q E hr h => ?_)
  · obtain ⟨a, R, x, t, rfl, _⟩ := h; rfl
  · obtain ⟨a, R, x, t, rfl, ha, hR, hx, ht, k⟩ := h
    have hr2 := hr.mono (show 2 <= 3 by decide)
    refine ⟨_, pss_cons (ps_expr (pe_call G1 hr rfl T.m_check_rules T.F_check_rules.kp T.b_check_rules .nil pass0 (pa_cons (pv 0) pa_nil)))
      (pss_cons (ps_expr (pe_call G2 hr2 rfl T.m_check_row T.F_check_row.kp T.b_check_row .nil pass0 (pa_cons (pv 0) (pa_cons (pv 1) pa_nil))))
      (pss_one (ps_expr (pe_call G3 hr2 rfl T.m_check_times T.F_check_times.kp T.b_check_times .nil pass0 (pa_cons (pv 2) pa_nil))))), ?_⟩
    refine ⟨_, rfl, a, R, rfl, ha, hR, fun H1 s1 => ?_⟩
    refine ⟨_, rfl, _, rfl, a, R, x, rfl, s1 _ _ ha, hR, hx, fun H2 s2 => ?_⟩
    exact ⟨_, rfl, (t : Int), rfl, by omega, by omega, k H2 (s1.trans s2)⟩
theorem sc_check_length : FnScope ["many"] ["many"] (defScope s_check_length) := ⟨rfl, rfl, rfl, by decide +kernel, rfl, by decide +kernel, by decide +kernel⟩
theorem ok_check_length (T : TX K mg) : FnOk P w K mg base CX0 1 T.f_check_length T.d_check_length ["many"] spCheckLength := by
  refine T.F_check_length.ok sc_check_length (fun vs H Q E h => ?_) (fun cdv A outer s H vs Q E hr h => ?_)
  · obtain ⟨n, rfl, _⟩ := h; rfl
  · obtain ⟨n, rfl, hn, k⟩ := h
    obtain ⟨u, hu⟩ := T.c_MOST_LETTERS
    refine ⟨_, pss_one (ps_if (pt_cmpR op_gt (pv 0) (pgl_int rfl hu) (nomark _)) pss_never pss_nil), ?_⟩
    refine ⟨_, rfl, _, _, rfl, rfl, _, rfl, ?_⟩
    rw [decide_eq_false (by omega)]
    exact iteF k
theorem sc_check_way : FnScope ["rules", "row", "times", "table", "held", "step"] ["rules", "row", "times"] (defScope s_check_way) := ⟨rfl, rfl, rfl, by decide +kernel, rfl, by decide +kernel, by decide +kernel⟩
theorem ok_check_way (T : TX K mg) : FnOk P w K mg base CX0 3 T.f_check_way T.d_check_way ["rules", "row", "times"] spWay := by
  have G1 := ok_letters_of (P := P) (w := w) (base := base) T
  have G2 := ok_counted (P := P) (w := w) (base := base) T
  have G3 := ok_table_of (P := P) (w := w) (base := base) T
  have G4 := ok_held_next (P := P) (w := w) (base := base) T
  have G5 := ok_check_length (P := P) (w := w) (base := base) T
  refine T.F_check_way.ok sc_check_way (fun vs H Q E h => ?_) (fun cdv A outer s H vs Q E hr h => ?_)
  · obtain ⟨a, R, x, t, rfl, _⟩ := h; rfl
  · obtain ⟨a, R, x, t, rfl, ha, hR, hb, hx, ht, hsh, k⟩ := h
    have hr1 := hr.mono (show 1 <= 2 by decide)
    refine ⟨_, pss_cons (ps_set (i := 3) sc_check_way.nd rfl (Or.inl rfl) (pe_call G3 hr rfl T.m_table_of T.F_table_of.kp T.b_table_of .nil pass0 (pa_cons (pv 0) pa_nil)))
      (pss_cons (ps_set (i := 4) sc_check_way.nd rfl (Or.inl rfl) (pe_call G2 hr1 rfl T.m_counted T.F_counted.kp T.b_counted .nil pass0 (pa_cons (pe_call G1 hr1 rfl T.m_letters_of T.F_letters_of.kp T.b_letters_of .nil pass0 (pa_cons (pv 0) pa_nil)) (pa_cons (pv 1) pa_nil))))
      (pss_one (ps_for PassesOwn.never rfl (pi_range1 rfl T.n_range (pa_cons (pv 2) pa_nil)) (pg_name (i := 5) sc_check_way.nd rfl (Or.inl rfl))
        (pss_cons (ps_set (i := 4) sc_check_way.nd rfl (Or.inl rfl) (pe_call G4 hr1 rfl T.m_held_next T.F_held_next.kp T.b_held_next .nil pass0 (pa_cons (pv 3) (pa_cons (pv 4) pa_nil))))
        (pss_one (ps_expr (pe_call G5 hr1 rfl T.m_check_length T.F_check_length.kp T.b_check_length .nil pass0 (pa_cons (pe_callB (call_sumKK K) rfl T.n_sum boot_sum_ (pa_cons (pv 4) pa_nil)) pa_nil)))))))), ?_⟩
    have h2 := hR.top
    refine ⟨_, rfl, a, R, rfl, ha, h2, fun p H1 s1 hp hT => ?_⟩
    refine ⟨_, rfl, a, _, rfl, s1 _ _ ha, by rw [List.length_map]; exact h2, _, rfl, R.length, x, by rw [List.length_map]; rfl, h2, fun q H2 s2 hq hq2 => ?_⟩
    refine ⟨_, rfl, (t : Int), rfl, by omega, by omega, for_range (lo := 0) (n := (t : Int).toNat) (fun i σ H3 => ∃ (d : Addr) (o : Option V), σ = [some (.ref a), some (sv x), some (.int (t : Nat)), some (.ref p), some (.ref d), o] /\ Same H H3 /\ TabAt H3 p (table R) /\ IntsAt H3 d (cnt R.length (grow R i x)))
      ⟨q, none, rfl, s1.trans s2, hT.same s2, hq2⟩ ?_ ?_⟩
    · rintro i σ H3 hi ⟨d, o, rfl, s3, hT3, hdv⟩
      refine ⟨_, rfl, _, rfl, p, d, table R, cnt R.length (grow R i x), rfl, hT3, table_sq h2 hb, hdv, by rw [cnt_length, table_length], fun e H4 s4 he he4 => ?_⟩
      rw [hnext_cnt (OkTx.grow hR hx), <- grow_succ'] at he4
      refine ⟨_, rfl, e, _, rfl, rfl, SqL.of he4, _, rfl, ?_, e, _, rfl, s3.trans s4, hT3.same s4, he4⟩
      rw [cnt_sum (OkTx.grow hR hx)]
      have := hsh (i + 1) (by omega) (by rw [Int.toNat_natCast] at hi; omega)
      omega
    · rintro σ H3 ⟨d, o, rfl, s3, hT3, hdv⟩
      exact k H3 s3
theorem sc_grown : FnScope ["rules", "row", "times", "told", "step"] ["rules", "row", "times"] (defScope s_grown) := ⟨rfl, rfl, rfl, by decide +kernel, rfl, by decide +kernel, by decide +kernel⟩
theorem ok_grown (T : TX K mg) : FnOk P w K mg base CX0 5 T.f_grown T.d_grown ["rules", "row", "times"] spGrown := by
  have G1 := ok_check_asked (P := P) (w := w) (base := base) T
  have G2 := ok_check_way (P := P) (w := w) (base := base) T
  have G3 := ok_grown_once (P := P) (w := w) (base := base) T
  refine T.F_grown.ok sc_grown (fun vs H Q E h => ?_) (fun cdv A outer s H vs Q E hr h => ?_)
  · obtain ⟨a, R, x, t, rfl, _⟩ := h; rfl
  · obtain ⟨a, R, x, t, rfl, ha, hR, hb, hx, hlx, ht, hsh, k⟩ := h
    have hr3 := hr.mono (show 3 <= 4 by decide)
    have hr2 := hr.mono (show 2 <= 4 by decide)
    refine ⟨_, pss_cons (ps_expr (pe_call G1 hr rfl T.m_check_asked T.F_check_asked.kp T.b_check_asked .nil pass0 (pa_cons (pv 0) (pa_cons (pv 1) (pa_cons (pv 2) pa_nil)))))
      (pss_cons (ps_expr (pe_call G2 hr3 rfl T.m_check_way T.F_check_way.kp T.b_check_way .nil pass0 (pa_cons (pv 0) (pa_cons (pv 1) (pa_cons (pv 2) pa_nil)))))
      (pss_cons (ps_set (i := 3) sc_grown.nd rfl (Or.inl rfl) (pv 1))
      (pss_cons (ps_for PassesOwn.never rfl (pi_range1 rfl T.n_range (pa_cons (pv 2) pa_nil)) (pg_name (i := 4) sc_grown.nd rfl (Or.inl rfl))
        (pss_one (ps_set (i := 3) sc_grown.nd rfl (Or.inl rfl) (pe_call G3 hr2 rfl T.m_grown_once T.F_grown_once.kp T.b_grown_once .nil pass0 (pa_cons (pv 0) (pa_cons (pv 3) pa_nil))))))
      (pss_one (ps_ret (pv 3)))))), ?_⟩
    refine ⟨_, rfl, _, rfl, _, rfl, a, R, x, t, rfl, ha, hR, hx, ht, fun H1 s1 => ?_⟩
    refine ⟨_, rfl, _, rfl, _, rfl, a, R, x, t, rfl, s1 _ _ ha, hR, hb, hx, ht, hsh, fun H2 s2 => ?_⟩
    refine ⟨_, rfl, _, rfl, (t : Int), rfl, by omega, by omega, for_range (lo := 0) (n := (t : Int).toNat) (fun i σ H3 => ∃ o : Option V, σ = [some (.ref a), some (sv x), some (.int (t : Nat)), some (sv (grow R i x)), o] /\ Same H H3) ⟨none, rfl, s1.trans s2⟩ ?_ ?_⟩
    · rintro i σ H3 hi ⟨o, rfl, s3⟩
      rw [Int.toNat_natCast] at hi
      have e := grow_succ' R i x
      have l1 : (grow R i x).length <= 100000 := by
        cases i with
        | zero => exact hlx
        | succ j => exact hsh (j + 1) (by omega) (by omega)
      refine ⟨_, rfl, _, rfl, a, R, grow R i x, rfl, s3 _ _ ha, hR, OkTx.grow hR hx, l1, by rw [<- e]; exact hsh (i + 1) (by omega) (by omega), fun H4 s4 => ?_⟩
      rw [<- e]
      exact ⟨_, rfl, s3.trans s4⟩
    · rintro σ H3 ⟨o, rfl, s3⟩
      rw [Int.toNat_natCast]
      exact ⟨_, rfl, k H3 s3⟩
theorem sc_counts : FnScope ["rules", "row", "times"] ["rules", "row", "times"] (defScope s_counts) := ⟨rfl, rfl, rfl, by decide +kernel, rfl, by decide +kernel, by decide +kernel⟩
theorem ok_counts (T : TX K mg) : FnOk P w K mg base CX0 5 T.f_counts T.d_counts ["rules", "row", "times"] spCounts := by
  have G1 := ok_check_asked (P := P) (w := w) (base := base) T
  have G2 := ok_held_after (P := P) (w := w) (base := base) T
  refine T.F_counts.ok sc_counts (fun vs H Q E h => ?_) (fun cdv A outer s H vs Q E hr h => ?_)
  · obtain ⟨a, R, x, t, rfl, _⟩ := h; rfl
  · obtain ⟨a, R, x, t, rfl, ha, hR, hb, hx, ht, k⟩ := h
    have hr3 := hr.mono (show 3 <= 4 by decide)
    refine ⟨_, pss_cons (ps_expr (pe_call G1 hr rfl T.m_check_asked T.F_check_asked.kp T.b_check_asked .nil pass0 (pa_cons (pv 0) (pa_cons (pv 1) (pa_cons (pv 2) pa_nil)))))
      (pss_one (ps_ret (pe_call G2 hr3 rfl T.m_held_after T.F_held_after.kp T.b_held_after .nil pass0 (pa_cons (pv 0) (pa_cons (pv 1) (pa_cons (pv 2) pa_nil)))))), ?_⟩
    refine ⟨_, rfl, _, rfl, _, rfl, a, R, x, t, rfl, ha, hR, hx, ht, fun H1 s1 => ?_⟩
    exact ⟨_, rfl, _, rfl, _, rfl, a, R, x, t, rfl, s1 _ _ ha, hR, hb, hx, by omega, fun p H2 s2 hp hp2 => k p H2 (s1.trans s2) (s1.free hp) hp2⟩
theorem sc_length : FnScope ["rules", "row", "times"] ["rules", "row", "times"] (defScope s_length) := ⟨rfl, rfl, rfl, by decide +kernel, rfl, by decide +kernel, by decide +kernel⟩
theorem ok_length (T : TX K mg) : FnOk P w K mg base CX0 6 T.f_length T.d_length ["rules", "row", "times"] spLength := by
  have G1 := ok_counts (P := P) (w := w) (base := base) T
  refine T.F_length.ok sc_length (fun vs H Q E h => ?_) (fun cdv A outer s H vs Q E hr h => ?_)
  · obtain ⟨a, R, x, t, rfl, _⟩ := h; rfl
  · obtain ⟨a, R, x, t, rfl, ha, hR, hb, hx, ht, k⟩ := h
    refine ⟨_, pss_one (ps_ret (pe_callB (call_sumKK K) rfl T.n_sum boot_sum_ (pa_cons (pe_call G1 hr rfl T.m_counts T.F_counts.kp T.b_counts .nil pass0 (pa_cons (pv 0) (pa_cons (pv 1) (pa_cons (pv 2) pa_nil)))) pa_nil))), ?_⟩
    refine ⟨_, rfl, _, rfl, _, rfl, a, R, x, t, rfl, ha, hR, hb, hx, ht, fun p H2 s2 hp hp2 => ⟨p, _, rfl, rfl, SqL.of hp2, ?_⟩⟩
    rw [cnt_sum (OkTx.grow hR hx)]
    exact k H2 s2
theorem sc_added : FnScope ["ones", "others"] ["ones", "others"] (defScope s_added) := ⟨rfl, rfl, rfl, by decide +kernel, rfl, by decide +kernel, by decide +kernel⟩
theorem ok_added (T : TX K mg) : FnOk P w K mg base CX0 1 T.f_added T.d_added ["ones", "others"] spAdded := by
  refine T.F_added.ok sc_added (fun vs H Q E h => ?_) (fun cdv A outer s H vs Q E hr h => ?_)
  · obtain ⟨a, b, u, v, rfl, _⟩ := h; rfl
  · obtain ⟨a, b, u, v, rfl, ha, hb, hl, hl2, k⟩ := h
    refine ⟨_, pss_one (ps_ret (pe_lc rfl (cs0 (ns := ["one", "other"])) (pi_zip rfl T.n_zip (pa_cons (pv 0) (pa_cons (pv 1) pa_nil))) (fun _ _ _ _ _ => pg_tupK K (n := 2) rfl (pgs_cons (pgc 0) (pgs_cons (pgc 1) pgs_nil))) (fun _ _ _ _ _ => pif_nil)
      (fun _ _ _ _ _ => pe_op op_add (pv 0) (pv 1)))), ?_⟩
    refine ⟨_, rfl, _, rfl, .lst a, .lst b, ivs u, ivs v, rfl, ha, hb, ?_⟩
    refine lcb_pairs (zs := u.zip v) (ι := fun p => V.int p.1) (κ := fun p => V.int p.2) (f := fun p => V.int (p.1 + p.2)) (p := fun _ => true) (by
      rw [<- zip_map_int]
      exact wk_zip (src_lst ha) (src_lst hb) (by rw [List.length_map, List.length_map]; exact hl)) rfl (by rw [List.length_zip]; exact small1000 (by omega)) (fun i z H' Kt _ _ kk => kk H' (Same.refl _)) (fun i z H' Kt hz _ hs kk => ?_) fun D H' hs hD hDv => ?_
    · exact ⟨_, rfl, _, rfl, _, _, rfl, rfl, kk H' (Same.refl _)⟩
    · refine k D H' hs hD ?_
      rw [hDv, filt, <- List.map_uncurry_zip_eq_zipWith]
      unfold ivs
      rw [List.map_map]
      rfl
theorem sizesL_len (R : Ru) (t : Nat) : (sizesL R t).length = t + 1 := by simp [sizesL]
theorem sc_sizes_up_to : FnScope ["rules", "times", "table", "sizes", "step"] ["rules", "times"] (defScope s_sizes_up_to) := ⟨rfl, rfl, rfl, by decide +kernel, rfl, by decide +kernel, by decide +kernel⟩
theorem ok_sizes_up_to (T : TX K mg) : FnOk P w K mg base CX0 3 T.f_sizes_up_to T.d_sizes_up_to ["rules", "times"] spSizes := by
  have G1 := ok_table_of (P := P) (w := w) (base := base) T
  have G2 := ok_weighed (P := P) (w := w) (base := base) T
  refine T.F_sizes_up_to.ok sc_sizes_up_to (fun vs H Q E h => ?_) (fun cdv A outer s H vs Q E hr h => ?_)
  · obtain ⟨a, R, t, rfl, _⟩ := h; rfl
  · obtain ⟨a, R, t, rfl, ha, hR, hb, ht, k⟩ := h
    have hr1 := hr.mono (show 1 <= 2 by decide)
    have nd := sc_sizes_up_to.nd
    refine ⟨_, pss_cons (ps_set (i := 2) nd rfl (Or.inl rfl) (pe_call G1 hr rfl T.m_table_of T.F_table_of.kp T.b_table_of .nil pass0 (pa_cons (pv 0) pa_nil)))
      (pss_cons (ps_set (i := 3) nd rfl (Or.inr rfl) (pe_lst (pa_cons (pe_lc rfl (cs0 (ns := ["line"])) (pi_listK K (pv 2)) (fun _ _ _ _ _ => pgc 0) (fun _ _ _ _ _ => pif_nil) (fun _ _ _ _ _ => pe_int)) pa_nil)))
      (pss_cons (ps_for PassesOwn.never rfl (pi_range1 rfl T.n_range (pa_cons (pv 1) pa_nil)) (pg_name (i := 4) nd rfl (Or.inl rfl))
        (pss_one (ps_expr (pe_bmK K PySem.F.plainAttrs_list PySem.F.slot_list_append PySem.F.type_list_append mt_appendS (pv 3) (pa_cons (pe_lc rfl (cs1 (ns := ["line"]) (x := "sizes") (k := 3) rfl (Or.inl rfl) rfl (by decide +kernel)) (pi_listK K (pv 2)) (fun _ _ _ _ _ => pgc 0) (fun _ _ _ _ _ => pif_nil)
          (fun _ _ _ _ _ => pe_call G2 hr1 rfl T.m_weighed T.F_weighed.kp T.b_weighed .nil pass0 (pa_cons (pv 0) (pa_cons (pe_ix (ix_listKK K) (pv 1) (pe_un un_neg pe_int) (fun _ _ => rfl)) pa_nil)))) pa_nil)))))
      (pss_one (ps_ret (pv 3))))), ?_⟩
    have h2 := hR.top
    have hsq := table_sq h2 hb
    refine ⟨_, rfl, a, R, rfl, ha, h2, fun p H1 s1 hp hT => ?_⟩
    obtain ⟨ps, hps, lps, rows⟩ := id hT
    have lT := table_length R
    refine ⟨_, rfl, p, rfl, ⟨_, SqL.of hps⟩, ?_⟩
    refine lcb_map (zs := ps) (ι := V.ref) (f := fun _ => V.int 1) (wk_list (SqL.of hps)) rfl (by rw [lps, lT]; exact small1000 (by omega)) (fun i z H' Kt _ _ kk => kk H' (Same.refl _)) fun D H2 s2 hD hD2 => ⟨by show 1 <= sizeLine; decide, fun e he => ?_⟩
    have hD2' : IntsAt H2 D (szs R 0) := by
      show H2 D = _
      rw [hD2, List.map_const', lps, lT]
      unfold szs ivs
      rw [List.map_replicate]
    have hHe : H e = none := (s1.trans s2).free he
    have hHD : H D = none := s1.free hD
    have hDe : D ≠ e := ne_of_none hD2' he
    refine ⟨_, rfl, (t : Int), rfl, by omega, by omega, for_range (lo := 0) (n := (t : Int).toNat) (fun i σ H3 => ∃ (o : Option V) (qs : List Addr), σ = [some (.ref a), some (.int (t : Nat)), some (.ref p), some (.ref e), o] /\ (∀ b ob, b ≠ e -> upd H2 e (.lst [V.ref D]) b = some ob -> H3 b = some ob) /\ H3 e = some (.lst (qs.map V.ref)) /\ qs.length = i + 1 /\ ∀ (j : Nat) (q : Addr), qs[j]? = some q -> q ≠ e /\ IntsAt H3 q (szs R j) /\ H q = none)
      ⟨none, [D], rfl, fun b ob _ h => h, upd_same, rfl, fun j q ej => ?_⟩ ?_ ?_⟩
    · cases j with
      | zero => cases ej; exact ⟨hDe, by show upd H2 e _ D = _; rw [upd_ne hDe]; exact hD2', hHD⟩
      | succ j => simp at ej
    · rintro i σ H3 hi ⟨o, qs, rfl, hk, hqs, lqs, rq⟩
      have hi' : i < t := by rw [Int.toNat_natCast] at hi; exact hi
      have ne : ∀ b ob, H2 b = some ob -> b ≠ e := fun b ob q => ne_of_none q he
      have hk2 : ∀ b ob, H2 b = some ob -> H3 b = some ob := fun b ob q => hk b ob (ne b ob q) (by rw [upd_ne (ne b ob q)]; exact q)
      have hp3 := hk2 _ _ (s2 _ _ hps)
      obtain ⟨q, eq⟩ : ∃ q, qs[i]? = some q := ⟨qs[i], by simp [show i < qs.length by omega]⟩
      obtain ⟨qe, hq, _⟩ := rq i q eq
      refine ⟨_, rfl, .inl ⟨rfl, _, SqL.of hqs⟩, ?_⟩
      refine ⟨_, rfl, p, rfl, ⟨_, SqL.of hp3⟩, ?_⟩
      refine lcb_map (zs := ps.zip (GM.table R)) (ι := fun z => V.ref z.1) (f := fun z => V.int (weigh z.2 (szs R i))) (by
        have e1 : ((ps.zip (GM.table R)).map fun z => V.ref z.1) = ps.map V.ref := by
          have : ((ps.zip (GM.table R)).map Prod.fst) = ps := List.map_fst_zip (by omega)
          rw [<- this, List.map_map, this]; rfl
        rw [e1]
        exact wk_list (SqL.of hp3)) rfl (by rw [List.length_zip]; exact small1000 (by omega)) (fun j z H' Kt hz hs kk => ?_) fun D2 H4 s4 hD2 hD4 => ?_
      · obtain ⟨z1, z2⟩ := List.getElem?_zip_eq_some.mp hz
        have hrow := rows j z.1 z.2 z1 z2
        refine ⟨_, rfl, _, rfl, _, rfl, e, _, -1, V.ref q, rfl, rfl, SqL.of (hs _ _ hqs), ?_, ?_⟩
        · have : qs.map V.ref = (qs.dropLast.map V.ref) ++ [V.ref q] := by
            have e3 : qs = qs.dropLast ++ [q] := by
              have h4 : qs.getLast? = some q := by rw [List.getLast?_eq_getElem?, lqs]; exact eq
              obtain ⟨ys, hys⟩ := List.getLast?_eq_some_iff.mp h4
              rw [hys, List.dropLast_concat]
            conv => lhs; rw [e3]
            rw [List.map_append]; rfl
          rw [this]
          exact atI_last _ _
        · have hl := List.mem_of_getElem? z2
          have ll : z.2.length = R.length := by rw [hsq.rows _ hl, lT]
          refine ⟨z.1, q, z.2, szs R i, rfl, hs _ _ (hk2 _ _ (s2 _ _ hrow)), hs _ _ hq, by rw [szs_length, ll], by rw [ll]; omega, fun y hy => .inl (hsq.small _ hl y.1 (List.of_mem_zip hy).1), fun H' s' => kk H' s'⟩
      · have hD2e : D2 ≠ e := fun z => by rw [z, hqs] at hD2; cases hD2
        have hq4 : H4 e = some (.lst (qs.map V.ref)) := s4 _ _ hqs
        refine ⟨e, _, _, rfl, rfl, hq4, by rw [List.length_map, lqs]; exact small1000 (by omega), ?_⟩
        refine ⟨_, qs ++ [D2], rfl, fun b ob hb h => by rw [upd_ne hb]; exact s4 _ _ (hk b ob hb h), by rw [upd_same, List.map_append]; rfl, by rw [List.length_append, lqs]; rfl, fun j q' ej => ?_⟩
        by_cases hj : j < qs.length
        · rw [List.getElem?_append_left hj] at ej
          obtain ⟨n1, n2, n3⟩ := rq j q' ej
          exact ⟨n1, by show upd H4 e _ q' = _; rw [upd_ne n1]; exact s4 _ _ n2, n3⟩
        · have hjl : j = qs.length := by
            have := (List.getElem?_eq_some_iff.mp ej).1
            rw [List.length_append] at this; simp at this; omega
          subst hjl
          rw [List.getElem?_append_right (Nat.le_refl _), Nat.sub_self] at ej
          cases ej
          have hHD2 : H D2 = none := by
            cases hq' : H D2 with
            | none => rfl
            | some ob => rw [hk2 _ _ ((s1.trans s2) _ _ hq')] at hD2; cases hD2
          refine ⟨hD2e, ?_, hHD2⟩
          show upd H4 e _ D2 = _
          rw [upd_ne hD2e, hD4, lqs]
          congr 2
          show _ = ivs ((GM.table R).map fun l => weigh l (szs R i))
          have : ((ps.zip (GM.table R)).map Prod.snd) = GM.table R := List.map_snd_zip (by omega)
          unfold ivs
          conv => rhs; rw [<- this]
          rw [List.map_map, List.map_map]
          rfl
    · rintro σ H3 ⟨o, qs, rfl, hk, hqs, lqs, rq⟩
      have hk3 : Same H H3 := fun b ob h => hk b ob (ne_of_none h hHe) (by rw [upd_ne (ne_of_none h hHe)]; exact (s1.trans s2) b ob h)
      refine ⟨_, rfl, k e H3 hk3 ⟨hHe, qs, hqs, by rw [sizesL_len, lqs, Int.toNat_natCast], fun i q l h1 h2 => ?_⟩⟩
      have : l = szs R i := by
        unfold sizesL at h2
        rw [List.getElem?_map] at h2
        obtain ⟨z, hz, rfl⟩ := Option.map_eq_some_iff.mp h2
        have := (List.getElem?_eq_some_iff.mp hz).2
        simp at this
        rw [this]
      rw [this]
      exact (rq i q h1).2
theorem sc_marks_of : FnScope ["letters", "text", "marks", "front"] ["letters", "text"] (defScope s_marks_of) := ⟨rfl, rfl, rfl, by decide +kernel, rfl, by decide +kernel, by decide +kernel⟩
theorem ok_marks_of (T : TX K mg) : FnOk P w K mg base CX0 2 T.f_marks_of T.d_marks_of ["letters", "text"] spMarks := by
  have G1 := ok_added (P := P) (w := w) (base := base) T
  have G2 := ok_counted (P := P) (w := w) (base := base) T
  refine T.F_marks_of.ok sc_marks_of (fun vs H Q E h => ?_) (fun cdv A outer s H vs Q E hr h => ?_)
  · obtain ⟨n, x, rfl, _⟩ := h; rfl
  · obtain ⟨n, x, rfl, hn, hl, k⟩ := h
    have nd := sc_marks_of.nd
    obtain ⟨u, hu⟩ := T.c_BLOCK
    refine ⟨_, pss_cons (ps_set (i := 2) nd rfl (Or.inl rfl) (pe_lst (pa_cons (pe_lc rfl (cs0 (ns := ["sign"])) (pi_str (pv 0)) (fun _ _ _ _ _ => pgc 0) (fun _ _ _ _ _ => pif_nil) (fun _ _ _ _ _ => pe_int)) pa_nil)))
      (pss_cons (ps_for PassesOwn.never rfl (pi_range3 rfl T.n_range (pa_cons pe_int (pa_cons (pe_callB call_lenSS rfl T.n_len PySem.boot_len (pa_cons (pv 1) pa_nil)) (pa_cons (pgl_int rfl hu) pa_nil)))) (pg_name (i := 3) nd rfl (Or.inl rfl))
        (pss_one (ps_expr (pe_bmK K PySem.F.plainAttrs_list PySem.F.slot_list_append PySem.F.type_list_append mt_appendS (pv 2) (pa_cons (pe_call G1 hr rfl T.m_added T.F_added.kp T.b_added .nil pass0 (pa_cons (pe_ix (ix_listKK K) (pv 2) (pe_un un_neg pe_int) (fun _ _ => rfl))
          (pa_cons (pe_call G2 hr rfl T.m_counted T.F_counted.kp T.b_counted .nil pass0 (pa_cons (pv 0) (pa_cons (pe_slice sl_str (pv 1) (po_some (pv 3)) (po_some (pe_op op_add (pv 3) (pgl_int rfl hu)))) pa_nil))) pa_nil))) pa_nil)))))
      (pss_one (ps_ret (pv 2)))), ?_⟩
    refine ⟨_, rfl, tx (lets n), rfl, ?_⟩
    refine lcb_map (zs := lets n) (ι := fun c => sv [c]) (f := fun _ => V.int 0) (wk_str (lets n)) rfl (by rw [lets_length]; exact small1000 (by omega)) (fun i z H' Kt _ _ kk => kk H' (Same.refl _)) fun D H2 s2 hD hD2 => ⟨by show 1 <= sizeLine; decide, fun e he => ?_⟩
    have hD2' : IntsAt H2 D (cnt n (x.take (256 * 0))) := by
      show H2 D = _
      rw [hD2, List.map_const', lets_length, Nat.mul_zero, List.take_zero, cnt_nil]
      unfold ivs
      rw [List.map_replicate]
    have hHe : H e = none := s2.free he
    have hDe : D ≠ e := ne_of_none hD2' he
    refine ⟨_, rfl, _, rfl, tx_le hl (Nat.le_refl _), 0, (x.length : Int), 256, by rw [tx_len], ⟨by decide, by decide, by omega, by omega, by decide, by decide⟩, ?_⟩
    rw [rn_nb]
    refine for_range3 (lo := 0) (c := 256) (n := nb x) (fun i σ H3 => ∃ (o : Option V) (qs : List Addr), σ = [some (sv (lets n)), some (sv x), some (.ref e), o] /\ Same H H3 /\ H3 e = some (.lst (qs.map V.ref)) /\ qs.length = i + 1 /\ ∀ (j : Nat) (q : Addr), qs[j]? = some q -> q ≠ e /\ IntsAt H3 q (cnt n (x.take (256 * j))) /\ H q = none)
      ⟨none, [D], rfl, s2.upd hHe, upd_same, rfl, fun j q ej => ?_⟩ ?_ ?_
    · cases j with
      | zero => cases ej; exact ⟨hDe, by show upd H2 e _ D = _; rw [upd_ne hDe]; exact hD2', hD⟩
      | succ j => simp at ej
    · rintro i σ H3 hi ⟨o, qs, rfl, s3, hqs, lqs, rq⟩
      obtain ⟨q, eq⟩ : ∃ q, qs[i]? = some q := ⟨qs[i], by simp [show i < qs.length by omega]⟩
      obtain ⟨qe, hq, hqn⟩ := rq i q eq
      have hil : i < 400 := by unfold nb at hi; omega
      refine ⟨_, rfl, .inl ⟨rfl, _, SqL.of hqs⟩, ?_⟩
      refine ⟨_, rfl, _, rfl, e, _, -1, V.ref q, rfl, rfl, SqL.of hqs, ?_, ?_⟩
      · have : qs.map V.ref = (qs.dropLast.map V.ref) ++ [V.ref q] := by
          have e3 : qs = qs.dropLast ++ [q] := by
            have h4 : qs.getLast? = some q := by rw [List.getLast?_eq_getElem?, lqs]; exact eq
            obtain ⟨ys, hys⟩ := List.getLast?_eq_some_iff.mp h4
            rw [hys, List.dropLast_concat]
          conv => lhs; rw [e3]
          rw [List.map_append]; rfl
        rw [this]
        exact atI_last _ _
      · refine ⟨_, rfl, _, rfl, _, rfl, _, rfl, _, rfl, _, _, rfl, rfl, _, rfl, _, rfl, tx_le hl (Nat.le_refl _), n, (x.take (256 * i + 256)).drop (256 * i), ?_, hn, fun p5 H5 s5 hp5 h5 => ?_⟩
        · have e1 : (0 : Int) + (i : Int) * 256 = ((256 * i : Nat) : Int) := by omega
          have e2 : ((256 * i : Nat) : Int) + 256 = ((256 * i + 256 : Nat) : Int) := by omega
          rw [e1, e2, slice_tx]
          rfl
        refine ⟨q, p5, _, _, rfl, s5 _ _ hq, h5, by rw [cnt_length, cnt_length], by rw [cnt_length]; omega, fun p6 H6 s6 hp6 h6 => ?_⟩
        rw [cnt_take (by omega)] at h6
        have s56 := s5.trans s6
        have hp6e : p6 ≠ e := fun z => by rw [z, s5 _ _ hqs] at hp6; cases hp6
        refine ⟨e, _, _, rfl, rfl, s56 _ _ hqs, by rw [List.length_map, lqs]; exact small1000 (by omega), ?_⟩
        refine ⟨_, qs ++ [p6], rfl, (s3.trans s56).upd hHe, by rw [upd_same, List.map_append]; rfl, by rw [List.length_append, lqs]; rfl, fun j q' ej => ?_⟩
        by_cases hj : j < qs.length
        · rw [List.getElem?_append_left hj] at ej
          obtain ⟨n1, n2, n3⟩ := rq j q' ej
          exact ⟨n1, by show upd H6 e _ q' = _; rw [upd_ne n1]; exact s56 _ _ n2, n3⟩
        · have hjl : j = qs.length := by
            have := (List.getElem?_eq_some_iff.mp ej).1
            rw [List.length_append] at this; simp at this; omega
          subst hjl
          rw [List.getElem?_append_right (Nat.le_refl _), Nat.sub_self] at ej
          cases ej
          refine ⟨hp6e, ?_, (s3.trans s5).free hp6⟩
          show upd H6 e _ p6 = _
          rw [upd_ne hp6e, lqs]
          have : 256 * (i + 1) = 256 * i + 256 := by omega
          rw [this]
          exact h6
    · rintro σ H3 ⟨o, qs, rfl, s3, hqs, lqs, rq⟩
      refine ⟨_, rfl, k e H3 s3 ⟨hHe, qs, hqs, by rw [marksL_len, lqs], fun i q l h1 h2 => ?_⟩⟩
      have hi : i <= nb x := by have := (List.getElem?_eq_some_iff.mp h1).1; omega
      rw [marksL_get hi] at h2
      cases h2
      exact ⟨(rq i q h1).2.1, (rq i q h1).2.2⟩
theorem sc_mk_init : FnScope ["self", "letters", "text"] ["self", "letters", "text"] (defScope s_Marked_init) := ⟨rfl, rfl, rfl, by decide +kernel, rfl, by decide +kernel, by decide +kernel⟩
theorem ok_mk_init (T : TX K mg) : FnOk P w K mg base CX0 3 T.f_Marked_init T.d_Marked_init ["self", "letters", "text"] (spMkInit T.C_Marked) := by
  have G1 := ok_marks_of (P := P) (w := w) (base := base) T
  refine T.F_Marked_init.ok sc_mk_init (fun vs H Q E h => ?_) (fun cdv A outer s H vs Q E hr h => ?_)
  · obtain ⟨p, dx, n, x, rfl, _⟩ := h; rfl
  · obtain ⟨p, dx, n, x, rfl, hp, hn, hl, k⟩ := h
    refine ⟨_, pss_cons (ps_fld (pv 0) (pv 1) rfl) (pss_cons (ps_fld (pv 0) (pv 2) rfl) (pss_one (ps_fld (pv 0) (pe_call G1 hr rfl T.m_marks_of T.F_marks_of.kp T.b_marks_of .nil pass0 (pa_cons (pv 1) (pa_cons (pv 2) pa_nil))) rfl))), ?_⟩
    refine ⟨_, rfl, _, rfl, p, T.C_Marked, dx, [], rfl, hp, T.cl_Marked, T.na_Marked_letters, (by show 0 < 1000; decide), ?_⟩
    refine ⟨_, rfl, _, rfl, p, T.C_Marked, dx, _, rfl, upd_same, T.cl_Marked, T.na_Marked_text, (by show 1 < 1000; decide), ?_⟩
    rw [upd_upd]
    refine ⟨_, rfl, _, rfl, n, x, rfl, hn, hl, fun m H1 s1 hF => ?_⟩
    have hp1 := s1 _ _ (upd_same (H := H) (a := p))
    refine ⟨_, rfl, p, T.C_Marked, dx, _, rfl, hp1, T.cl_Marked, T.na_Marked_marks, ?_, ?_⟩
    · have e : putF "text" (sv x) (putF "letters" (sv (lets n)) []) = ([("letters", sv (lets n)), ("text", sv x)] : List (Str × V)) := by
        show (if ("letters" : Str) = "text" then _ else (("letters" : Str), sv (lets n)) :: putF "text" (sv x) []) = _
        rw [if_neg lt_]; rfl
      rw [e]; show 2 < 1000; decide
    · obtain ⟨hm, ps, e1, e2, e3⟩ := hF
      have hne : ∀ b, (upd H p (.ins T.C_Marked dx (putF "text" (sv x) (putF "letters" (sv (lets n)) [])))) b = none -> b ≠ p /\ H b = none := fun b hb => by
        have : b ≠ p := fun z => by rw [z, upd_same] at hb; cases hb
        exact ⟨this, by rw [upd_ne this] at hb; exact hb⟩
      refine k m _ upd_same ⟨(hne _ hm).2, ps, by rw [upd_ne (hne _ hm).1]; exact e1, e2, fun i q l h1 h2 => ?_⟩ fun b o hb hbp => ?_
      · obtain ⟨a1, a2⟩ := e3 i q l h1 h2
        exact ⟨by show upd H1 p _ q = _; rw [upd_ne (hne _ a2).1]; exact a1, (hne _ a2).2⟩
      · rw [upd_ne hbp]
        exact s1 _ _ (by rw [upd_ne hbp]; exact hb)
theorem sc_ahead_of : FnScope ["self", "index", "block"] ["self", "index"] (defScope s_Marked_ahead_of) := ⟨rfl, rfl, rfl, by decide +kernel, rfl, by decide +kernel, by decide +kernel⟩
theorem ok_ahead_of (T : TX K mg) : FnOk P w K mg base CX0 2 T.f_Marked_ahead_of T.d_Marked_ahead_of ["self", "index"] (spAhead T.C_Marked) := by
  have G1 := ok_added (P := P) (w := w) (base := base) T
  have G2 := ok_counted (P := P) (w := w) (base := base) T
  refine T.F_Marked_ahead_of.ok sc_ahead_of (fun vs H Q E h => ?_) (fun cdv A outer s H vs Q E hr h => ?_)
  · obtain ⟨p, n, x, i, rfl, _⟩ := h; rfl
  · obtain ⟨p, n, x, i, rfl, hM, hn, hl, hi, k⟩ := h
    have nd := sc_ahead_of.nd
    obtain ⟨u, hu⟩ := T.c_BLOCK
    obtain ⟨dx, m, hp, hT⟩ := hM.ob
    refine ⟨_, pss_cons (ps_set (i := 2) nd rfl (Or.inl rfl) (pe_op op_fdiv (pv 1) (pgl_int rfl hu)))
      (pss_one (ps_ret (pe_call G1 hr rfl T.m_added T.F_added.kp T.b_added .nil pass0 (pa_cons (pe_ix (ix_listKK K) (pe_fldKK K (pv 0) rfl) (pv 2) (fun _ _ => rfl))
        (pa_cons (pe_call G2 hr rfl T.m_counted T.F_counted.kp T.b_counted .nil pass0 (pa_cons (pe_fldKK K (pv 0) rfl) (pa_cons (pe_slice sl_str (pe_fldKK K (pv 0) rfl) (po_some (pe_op op_mul (pv 2) (pgl_int rfl hu))) (po_some (pv 1))) pa_nil))) pa_nil))))), ?_⟩
    have e0 : (i : Int) / 256 = ((i / 256 : Nat) : Int) := by omega
    have hb : i / 256 <= nb x := by unfold nb; omega
    obtain ⟨xs, q, hm, lxs, hxq, hq⟩ := hT.get (marksL_get hb)
    refine ⟨_, rfl, _, _, rfl, rfl, ⟨by decide, by decide⟩, ?_⟩
    refine ⟨_, rfl, p, T.C_Marked, dx, _, _, rfl, hp, T.cl_Marked, T.na_Marked_marks, mfl_marks _ _ _, _, rfl, m, xs, _, _, rfl, rfl, SqL.of hm, by rw [e0]; exact atI_nat hxq, ?_⟩
    refine ⟨_, rfl, p, T.C_Marked, dx, _, _, rfl, hp, T.cl_Marked, T.na_Marked_letters, mfl_letters _ _ _, _, rfl, p, T.C_Marked, dx, _, _, rfl, hp, T.cl_Marked, T.na_Marked_text, mfl_text _ _ _, ?_⟩
    refine ⟨_, rfl, _, _, rfl, rfl, .inr ⟨by decide, by decide⟩, _, rfl, _, rfl, _, rfl, _, rfl, tx_le hl (Nat.le_refl _), n, (x.take i).drop (256 * (i / 256)), ?_, hn, fun p5 H5 s5 hp5 h5 => ?_⟩
    · have e1 : (i : Int) / 256 * 256 = ((256 * (i / 256) : Nat) : Int) := by omega
      rw [e1, slice_tx]
      rfl
    refine ⟨q, p5, _, _, rfl, s5 _ _ hq, h5, by rw [cnt_length, cnt_length], by rw [cnt_length]; omega, fun p6 H6 s6 hp6 h6 => ?_⟩
    rw [cnt_take (by omega)] at h6
    exact k p6 H6 (s5.trans s6) (s5.free hp6) h6
theorem sc_block_with : FnScope ["self", "sizes", "place", "low", "high", "middle"] ["self", "sizes", "place"] (defScope s_Marked_block_with) := ⟨rfl, rfl, rfl, by decide +kernel, rfl, by decide +kernel, by decide +kernel⟩
theorem ok_block_with (T : TX K mg) : FnOk P w K mg base CX0 2 T.f_Marked_block_with T.d_Marked_block_with ["self", "sizes", "place"] (spBlock T.C_Marked) := by
  have G1 := ok_weighed (P := P) (w := w) (base := base) T
  refine T.F_Marked_block_with.ok sc_block_with (fun vs H Q E h => ?_) (fun cdv A outer s H vs Q E hr h => ?_)
  · obtain ⟨q, b, R, k, x, p, rfl, _⟩ := h; rfl
  · obtain ⟨q, b, R, n, x, p, rfl, hM, hI, k⟩ := h
    have nd := sc_block_with.nd
    obtain ⟨dx, m, hp, hT⟩ := hM.ob
    refine ⟨_, pss_cons (ps_set (i := 3) nd rfl (Or.inl rfl) pe_int)
      (pss_cons (ps_set (i := 4) nd rfl (Or.inl rfl) (pe_op op_sub (pe_callB (call_lenKK K) rfl T.n_len PySem.boot_len (pa_cons (pe_fldKK K (pv 0) rfl) pa_nil)) pe_int))
      (pss_cons (ps_while PassesOwn.never (pt_cmpR op_gt (pe_op op_sub (pv 4) (pv 3)) pe_int (nomark _))
        (pss_cons (ps_set (i := 5) nd rfl (Or.inl rfl) (pe_op op_fdiv (pe_op op_add (pv 3) (pv 4)) pe_int))
        (pss_one (ps_if (pt_cmpR op_le (pe_call G1 hr rfl T.m_weighed T.F_weighed.kp T.b_weighed .nil pass0 (pa_cons (pe_ix (ix_listKK K) (pe_fldKK K (pv 0) rfl) (pv 5) (fun _ _ => rfl)) (pa_cons (pv 1) pa_nil))) (pv 2) (nomark _))
          (pss_one (ps_set (i := 3) nd rfl (Or.inl rfl) (pv 5))) (pss_one (ps_set (i := 4) nd rfl (Or.inl rfl) (pv 5)))))))
      (pss_one (ps_ret (pv 3))))), ?_⟩
    have h2 := hI.ok.top
    have hlt := hI.lt
    have hle := hI.le
    obtain ⟨xs, _, hm, lxs, _, _⟩ := hT.get (marksL_get (n := R.length) (x := x) (Nat.zero_le _))
    rw [marksL_len] at lxs
    have hpos : 1 <= nb x := by
      have : x ≠ [] := fun z => by rw [z, grow_nil] at hlt; exact absurd hlt (Nat.not_lt_zero _)
      have : 0 < x.length := List.length_pos_iff.mpr this
      unfold nb; omega
    refine ⟨_, rfl, q, T.C_Marked, dx, _, _, rfl, hp, T.cl_Marked, T.na_Marked_marks, mfl_marks _ _ _, m, xs, rfl, .inl (SqL.of hm), _, _, rfl, rfl, ?_⟩
    refine ⟨fun d σ H2 => Same H H2 /\ ∃ (lo hi : Nat) (o : Option V), d = hi - lo /\ lo < hi /\ hi <= nb x /\ up R n x (256 * lo) <= p /\ p < up R n x (256 * hi) /\ σ = [some (.ref q), some (.ref b), some (.int (p : Nat)), some (.int (lo : Nat)), some (.int (hi : Nat)), o], ⟨nb x, Same.refl _, 0, nb x, none, by omega, by omega, Nat.le_refl _, by rw [Nat.mul_zero, up_zero]; omega, by rw [up_all (nb_all x)]; exact hlt, ?_⟩, ?_⟩
    · have e : ((xs.length : Nat) : Int) - 1 = ((nb x : Nat) : Int) := by omega
      show [some (V.ref q), some (V.ref b), some (V.int (p : Nat)), some (V.int 0), some (V.int (((xs.length : Nat) : Int) - 1)), none] = _
      rw [e]; rfl
    · rintro d σ H2 ⟨s2, lo, hi, o, rfl, h1, h3, h4, h5, rfl⟩
      refine ⟨_, rfl, _, rfl, _, _, rfl, rfl, _, _, rfl, rfl, _, rfl, ?_⟩
      by_cases hc : (1 : Int) < (hi : Int) - (lo : Int)
      · rw [decide_eq_true hc]
        refine iteT ⟨fun σ' H' => Same H H' /\ ∃ (lo' hi' : Nat) (o' : Option V), hi' - lo' < hi - lo /\ lo' < hi' /\ hi' <= nb x /\ up R n x (256 * lo') <= p /\ p < up R n x (256 * hi') /\ σ' = [some (.ref q), some (.ref b), some (.int (p : Nat)), some (.int (lo' : Nat)), some (.int (hi' : Nat)), o'], fun σ' H' ⟨z0, lo', hi', o', z1, z2⟩ => ⟨hi' - lo', z1, z0, lo', hi', o', rfl, z2⟩, ?_⟩
        have em : ((lo : Int) + (hi : Int)) / 2 = (((lo + hi) / 2 : Nat) : Int) := by omega
        have hmid : (lo + hi) / 2 <= nb x := by omega
        obtain ⟨xs', r, hm', lxs', hxr, hr'⟩ := hT.get (marksL_get (n := R.length) (x := x) hmid)
        refine ⟨_, rfl, _, rfl, _, _, rfl, rfl, _, _, rfl, rfl, ⟨by decide, by decide⟩, ?_⟩
        refine ⟨_, rfl, q, T.C_Marked, dx, _, _, rfl, s2 _ _ hp, T.cl_Marked, T.na_Marked_marks, mfl_marks _ _ _, _, rfl, m, xs', _, _, rfl, rfl, SqL.of (s2 _ _ hm'), by rw [em]; exact atI_nat hxr, _, rfl, r, b, _, _, rfl, s2 _ _ hr', s2 _ _ hI.sz, by rw [cnt_length, szs_length], by rw [cnt_length]; omega, cnt_small (by rw [List.length_take]; omega), fun H3 s3 => ?_⟩
        rw [weigh_szs hI.ok n (ok_take hI.tx _)]
        refine ⟨_, rfl, _, _, rfl, rfl, _, rfl, ?_⟩
        by_cases hw : (grow R n (x.take (256 * ((lo + hi) / 2)))).length <= p
        · rw [decide_eq_true (by omega)]
          refine iteT ⟨_, rfl, s2.trans s3, (lo + hi) / 2, hi, some (.int (((lo + hi) / 2 : Nat) : Int)), by omega, by omega, h3, hw, h5, ?_⟩
          show [some (V.ref q), some (V.ref b), some (V.int (p : Nat)), some (V.int (((lo : Int) + (hi : Int)) / 2)), some (V.int (hi : Nat)), some (V.int (((lo : Int) + (hi : Int)) / 2))] = _
          rw [em]
        · rw [decide_eq_false (by omega)]
          refine iteF ⟨_, rfl, s2.trans s3, lo, (lo + hi) / 2, some (.int (((lo + hi) / 2 : Nat) : Int)), by omega, by omega, hmid, h4, by show p < (grow R n (x.take _)).length; omega, ?_⟩
          show [some (V.ref q), some (V.ref b), some (V.int (p : Nat)), some (V.int (lo : Nat)), some (V.int (((lo : Int) + (hi : Int)) / 2)), some (V.int (((lo : Int) + (hi : Int)) / 2))] = _
          rw [em]
      · rw [decide_eq_false hc]
        exact iteF ⟨_, rfl, k lo (by omega) h4 H2 s2⟩
theorem sc_index_with : FnScope ["self", "sizes", "place", "block", "index", "left", "size"] ["self", "sizes", "place"] (defScope s_Marked_index_with) := ⟨rfl, rfl, rfl, by decide +kernel, rfl, by decide +kernel, by decide +kernel⟩
theorem ok_index_with (T : TX K mg) : FnOk P w K mg base CX0 3 T.f_Marked_index_with T.d_Marked_index_with ["self", "sizes", "place"] (spIndex T.C_Marked) := by
  have G1 := ok_block_with (P := P) (w := w) (base := base) T
  have G2 := ok_weighed (P := P) (w := w) (base := base) T
  refine T.F_Marked_index_with.ok sc_index_with (fun vs H Q E h => ?_) (fun cdv A outer s H vs Q E hr h => ?_)
  · obtain ⟨q, b, R, k, x, p, rfl, _⟩ := h; rfl
  · obtain ⟨q, b, R, n, x, p, rfl, hM, hI, k⟩ := h
    have nd := sc_index_with.nd
    have hr1 := hr.mono (show 1 <= 2 by decide)
    obtain ⟨u, hu⟩ := T.c_BLOCK
    obtain ⟨dx, m, hp, hT⟩ := hM.ob
    refine ⟨_, pss_cons (ps_set (i := 3) nd rfl (Or.inl rfl) (pe_meth (pv 0) T.cl_Marked T.me_Marked_block_with G1 hr T.b_Marked_block_with .nil pass0 (pa_cons (pv 1) (pa_cons (pv 2) pa_nil))))
      (pss_cons (ps_set (i := 4) nd rfl (Or.inl rfl) (pe_op op_mul (pv 3) (pgl_int rfl hu)))
      (pss_cons (ps_set (i := 5) nd rfl (Or.inl rfl) (pe_op op_sub (pv 2) (pe_call G2 hr1 rfl T.m_weighed T.F_weighed.kp T.b_weighed .nil pass0 (pa_cons (pe_ix (ix_listKK K) (pe_fldKK K (pv 0) rfl) (pv 3) (fun _ _ => rfl)) (pa_cons (pv 1) pa_nil)))))
      (pss_cons (ps_set (i := 6) nd rfl (Or.inl rfl) (pe_ix (ix_listKK K) (pv 1) (pe_bmK K PySem.F.plainAttrs_str PySem.F.slot_str_index PySem.F.type_str_index mt_index (pe_fldKK K (pv 0) rfl) (pa_cons (pe_ix ix_strS (pe_fldKK K (pv 0) rfl) (pv 4) (fun _ _ => rfl)) pa_nil)) (fun _ _ => rfl)))
      (pss_cons (ps_while PassesOwn.never (pt_cmpR op_ge (pv 5) (pv 6) (nomark _))
        (pss_cons (ps_aug (i := 5) nd rfl (Or.inl rfl) (pv 6) ip_sub)
        (pss_cons (ps_aug (i := 4) nd rfl (Or.inl rfl) pe_int ip_add)
        (pss_one (ps_set (i := 6) nd rfl (Or.inl rfl) (pe_ix (ix_listKK K) (pv 1) (pe_bmK K PySem.F.plainAttrs_str PySem.F.slot_str_index PySem.F.type_str_index mt_index (pe_fldKK K (pv 0) rfl) (pa_cons (pe_ix ix_strS (pe_fldKK K (pv 0) rfl) (pv 4) (fun _ _ => rfl)) pa_nil)) (fun _ _ => rfl)))))))
      (pss_one (ps_ret (pv 4))))))), ?_⟩
    have h2 := hI.ok.top
    have hlt := hI.lt
    have hle := hI.le
    have txl : (tx x).length <= sizeLine := tx_le hle (Nat.le_refl _)
    refine ⟨_, rfl, q, dx, _, rfl, hp, mfl_no _ _ _ (by decide +kernel) (by decide +kernel) (by decide +kernel), _, rfl, _, rfl, q, b, R, n, x, p, rfl, hM, hI, fun j hj hup H1 s1 => ?_⟩
    obtain ⟨xs, r, hm, lxs, hxr, hr'⟩ := hT.get (marksL_get (n := R.length) (x := x) (Nat.le_of_lt hj))
    refine ⟨_, rfl, _, _, rfl, rfl, .inr ⟨by decide, by decide⟩, ?_⟩
    refine ⟨_, rfl, _, rfl, q, T.C_Marked, dx, _, _, rfl, s1 _ _ hp, T.cl_Marked, T.na_Marked_marks, mfl_marks _ _ _, _, rfl, m, xs, _, _, rfl, rfl, SqL.of (s1 _ _ hm), atI_nat hxr, _, rfl, r, b, _, _, rfl, s1 _ _ hr', s1 _ _ hI.sz, by rw [cnt_length, szs_length], by rw [cnt_length]; omega, cnt_small (by rw [List.length_take]; omega), fun H2 s2 => ⟨_, _, rfl, rfl, ?_⟩⟩
    rw [weigh_szs hI.ok n (ok_take hI.tx _)]
    have s12 := s1.trans s2
    have look : ∀ (i : Nat) (c : Nat), x[i]? = some c -> (97 <= c /\ c < 97 + R.length) := fun i c hc => hI.tx c (List.mem_of_getElem? hc)
    have hjl : 256 * j < x.length := by unfold nb at hj; omega
    obtain ⟨c0, hc0⟩ : ∃ c0, x[256 * j]? = some c0 := ⟨x[256 * j], by simp [hjl]⟩
    have lk0 := look _ _ hc0
    have ej : ((j : Nat) : Int) * 256 = ((256 * j : Nat) : Int) := by omega
    refine ⟨_, rfl, _, rfl, q, T.C_Marked, dx, _, _, rfl, s12 _ _ hp, T.cl_Marked, T.na_Marked_letters, mfl_letters _ _ _, rfl, _, rfl, q, T.C_Marked, dx, _, _, rfl, s12 _ _ hp, T.cl_Marked, T.na_Marked_text, mfl_text _ _ _, _, rfl, tx x, _, c0, rfl, rfl, txl, by show atI x (((j : Nat) : Int) * 256) = some c0; rw [ej]; exact atI_nat hc0, lets R.length, c0, c0 - 97, rfl, rfl, (lets_ix lk0.1 lk0.2).1, (lets_ix lk0.1 lk0.2).2, b, _, _, _, rfl, rfl, SqL.of (s12 _ _ hI.sz), atI_nat (show (ivs (szs R n))[c0 - 97]? = some (V.int ((grow R n [c0]).length : Int)) by unfold ivs; rw [List.getElem?_map, szs_get hI.ok n lk0.1 lk0.2]; rfl), ?_⟩
    refine ⟨fun d σ H3 => Same H H3 /\ ∃ (i c : Nat), d = x.length - i /\ x[i]? = some c /\ up R n x i <= p /\ σ = [some (.ref q), some (.ref b), some (.int (p : Nat)), some (.int (j : Nat)), some (.int (i : Nat)), some (.int ((p : Int) - (up R n x i : Int))), some (.int ((grow R n [c]).length : Int))], ⟨_, s12, 256 * j, c0, rfl, hc0, hup, by rw [<- ej]; rfl⟩, ?_⟩
    rintro d σ H3 ⟨s3, i, c, rfl, hc, hupi, rfl⟩
    have hi := (List.getElem?_eq_some_iff.mp hc).1
    refine ⟨_, rfl, _, rfl, _, _, rfl, rfl, _, rfl, ?_⟩
    by_cases hg : ((grow R n [c]).length : Int) <= (p : Int) - (up R n x i : Int)
    · rw [decide_eq_true hg]
      have us := up_succ (R := R) (k := n) hc
      have hup' : up R n x (i + 1) <= p := by omega
      have hi' : i + 1 < x.length := by
        rcases Nat.lt_or_ge (i + 1) x.length with z | z
        · exact z
        · rw [up_all z] at hup'; omega
      obtain ⟨c', hc'⟩ : ∃ c', x[i + 1]? = some c' := ⟨x[i + 1], by simp [hi']⟩
      have lk := look _ _ hc'
      refine iteT ⟨fun σ' H' => Same H H' /\ ∃ (i' c : Nat), x.length - i' < x.length - i /\ x[i']? = some c /\ up R n x i' <= p /\ σ' = [some (.ref q), some (.ref b), some (.int (p : Nat)), some (.int (j : Nat)), some (.int (i' : Nat)), some (.int ((p : Int) - (up R n x i' : Int))), some (.int ((grow R n [c]).length : Int))], fun σ' H' ⟨z0, i', c, z1, z2⟩ => ⟨_, z1, z0, i', c, rfl, z2⟩, ?_⟩
      refine ⟨_, rfl, _, rfl, _, _, rfl, rfl, _, rfl, _, _, rfl, rfl, ?_⟩
      have ei : ((i : Nat) : Int) + 1 = ((i + 1 : Nat) : Int) := by omega
      refine ⟨_, rfl, _, rfl, q, T.C_Marked, dx, _, _, rfl, s3 _ _ hp, T.cl_Marked, T.na_Marked_letters, mfl_letters _ _ _, rfl, _, rfl, q, T.C_Marked, dx, _, _, rfl, s3 _ _ hp, T.cl_Marked, T.na_Marked_text, mfl_text _ _ _, _, rfl, tx x, _, c', rfl, rfl, txl, by show atI x (((i : Nat) : Int) + 1) = some c'; rw [ei]; exact atI_nat hc', lets R.length, c', c' - 97, rfl, rfl, (lets_ix lk.1 lk.2).1, (lets_ix lk.1 lk.2).2, b, _, _, _, rfl, rfl, SqL.of (s3 _ _ hI.sz), atI_nat (show (ivs (szs R n))[c' - 97]? = some (V.int ((grow R n [c']).length : Int)) by unfold ivs; rw [List.getElem?_map, szs_get hI.ok n lk.1 lk.2]; rfl), ?_⟩
      refine ⟨s3, i + 1, c', by omega, hc', hup', ?_⟩
      have el : (p : Int) - (up R n x i : Int) - ((grow R n [c]).length : Int) = (p : Int) - (up R n x (i + 1) : Int) := by omega
      rw [<- el, <- ei]; rfl
    · rw [decide_eq_false hg]
      have us := up_succ (R := R) (k := n) hc
      exact iteF ⟨_, rfl, k i c ⟨hc, hupi, by omega⟩ H3 s3⟩
theorem sc_check_place : FnScope ["place", "last"] ["place", "last"] (defScope s_check_place) := ⟨rfl, rfl, rfl, by decide +kernel, rfl, by decide +kernel, by decide +kernel⟩
theorem ok_check_place (T : TX K mg) : FnOk P w K mg base CX0 2 T.f_check_place T.d_check_place ["place", "last"] spCheckPlace := by
  have G1 := ok_is_number_up_to (P := P) (w := w) (base := base) T
  refine T.F_check_place.ok sc_check_place (fun vs H Q E h => ?_) (fun cdv A outer s H vs Q E hr h => ?_)
  · obtain ⟨p, l, rfl, _⟩ := h; rfl
  · obtain ⟨p, l, rfl, h0, h1, k⟩ := h
    refine ⟨_, pss_one (ps_if (pt_not (pt_val (pe_call G1 hr rfl T.m_is_number_up_to T.F_is_number_up_to.kp T.b_is_number_up_to .nil pass0 (pa_cons (pv 1) (pa_cons (pv 0) pa_nil))))) pss_never pss_nil), ?_⟩
    refine ⟨_, rfl, _, rfl, l, p, rfl, true, ?_, iteF k⟩
    rw [decide_eq_true ⟨h0, h1⟩]
theorem sc_way_to : FnScope ["rules", "row", "times", "place", "letters", "marked_rules", "marked", "left", "way", "sizes", "index", "ahead", "sign"] ["rules", "row", "times", "place"] (defScope s_way_to) := ⟨rfl, rfl, rfl, by decide +kernel, rfl, by decide +kernel, by decide +kernel⟩
theorem ok_way_to (T : TX K mg) : FnOk P w K mg base CX0 5 T.f_way_to T.d_way_to ["rules", "row", "times", "place"] spWayTo := by
  have G1 := ok_letters_of (P := P) (w := w) (base := base) T
  have G2 := ok_mk_init (P := P) (w := w) (base := base) T
  have G3 := ok_sizes_up_to (P := P) (w := w) (base := base) T
  have G4 := ok_index_with (P := P) (w := w) (base := base) T
  have G5 := ok_ahead_of (P := P) (w := w) (base := base) T
  have G6 := ok_weighed (P := P) (w := w) (base := base) T
  refine T.F_way_to.ok sc_way_to (fun vs H Q E h => ?_) (fun cdv A outer s H vs Q E hr h => ?_)
  · obtain ⟨a, R, x, t, p, rfl, _⟩ := h; rfl
  · obtain ⟨a, R, x, t, p, rfl, ha, hR, hb, hx, hlx, ht, hp, k⟩ := h
    have nd := sc_way_to.nd
    have hr1 := hr.mono (show 1 <= 4 by decide)
    have hr2 := hr.mono (show 2 <= 4 by decide)
    have hr3 := hr.mono (show 3 <= 4 by decide)
    refine ⟨_, pss_cons (ps_set (i := 4) nd rfl (Or.inr rfl) (pe_call G1 hr1 rfl T.m_letters_of T.F_letters_of.kp T.b_letters_of .nil pass0 (pa_cons (pv 0) pa_nil)))
      (pss_cons (ps_lc rfl nd (i := 5) rfl rfl (cs1 (ns := ["text"]) (x := "letters") (k := 4) rfl (Or.inl rfl) rfl (by decide +kernel)) (pi_listK K (pv 0)) (fun _ _ _ _ _ => pgc 0) (fun _ _ _ _ _ => pif_nil)
        (fun _ _ _ _ _ => pe_make T.mk_Marked G2 hr rfl T.mC_Marked T.b_Marked_init .nil pass0 (pa_cons (pv 1) (pa_cons (pv 0) pa_nil))))
      (pss_cons (ps_set (i := 6) nd rfl (Or.inl rfl) (pe_make T.mk_Marked G2 hr rfl T.mC_Marked T.b_Marked_init .nil pass0 (pa_cons (pv 4) (pa_cons (pv 1) pa_nil))))
      (pss_cons (ps_set (i := 7) nd rfl (Or.inl rfl) (pv 3))
      (pss_cons (ps_set (i := 8) nd rfl (Or.inl rfl) (pe_lst pa_nil))
      (pss_cons (ps_for PassesOwn.never rfl (pi_rev rfl T.n_reversed (pa_cons (pe_call G3 hr3 rfl T.m_sizes_up_to T.F_sizes_up_to.kp T.b_sizes_up_to .nil pass0 (pa_cons (pv 0) (pa_cons (pv 2) pa_nil))) pa_nil)) (pg_name (i := 9) nd rfl (Or.inl rfl))
        (pss_cons (ps_set (i := 10) nd rfl (Or.inl rfl) (pe_meth (pv 6) T.cl_Marked T.me_Marked_index_with G4 hr3 T.b_Marked_index_with .nil pass0 (pa_cons (pv 9) (pa_cons (pv 7) pa_nil))))
        (pss_cons (ps_set (i := 11) nd rfl (Or.inl rfl) (pe_meth (pv 6) T.cl_Marked T.me_Marked_ahead_of G5 hr2 T.b_Marked_ahead_of .nil pass0 (pa_cons (pv 10) pa_nil)))
        (pss_cons (ps_aug (i := 7) nd rfl (Or.inl rfl) (pe_call G6 hr1 rfl T.m_weighed T.F_weighed.kp T.b_weighed .nil pass0 (pa_cons (pv 11) (pa_cons (pv 9) pa_nil))) ip_sub)
        (pss_cons (ps_set (i := 12) nd rfl (Or.inl rfl) (pe_ix ix_strS (pe_fldKK K (pv 6) rfl) (pv 10) (fun _ _ => rfl)))
        (pss_cons (ps_expr (pe_bmK K PySem.F.plainAttrs_list PySem.F.slot_list_append PySem.F.type_list_append mt_appendS (pv 8) (pa_cons (pe_tup (pa_cons (pv 12) (pa_cons (pv 11) pa_nil))) pa_nil)))
        (pss_one (ps_set (i := 6) nd rfl (Or.inl rfl) (pe_ix (ix_listKK K) (pv 5) (pe_bmK K PySem.F.plainAttrs_str PySem.F.slot_str_index PySem.F.type_str_index mt_index (pv 4) (pa_cons (pv 12) pa_nil)) (fun _ _ => rfl))))))))))
      (pss_one (ps_ret (pv 8)))))))), ?_⟩
    have h2 := hR.top
    refine ⟨_, rfl, a, _, rfl, ha, by rw [List.length_map]; exact h2, ?_⟩
    rw [List.length_map]
    refine ⟨_, rfl, a, rfl, ⟨_, SqL.of ha⟩, ?_⟩
    refine lcb_objs (zs := R) (ι := sv) (ψ := fun H6 q r => MkAt T.C_Marked H6 q R.length r) (wk_list (SqL.of ha)) rfl (small1000 (by omega)) (fun i r H' Kt hz hs kk => ?_) fun pm ms H1 s1 hpm hm1 lms hms => ?_
    · refine ⟨_, rfl, _, rfl, fun y dy hy hdy hne => ?_⟩
      refine ⟨y, dy, R.length, r, rfl, upd_same, h2, hb r (List.mem_of_getElem? hz), fun m H5 h5 hF kp => ⟨rfl, ?_⟩⟩
      have sN : ∀ b o, H' b = some o -> (upd (upd H' dy (.own y)) y (.ins T.C_Marked dy [])) b = some o := fun b o e => by rw [upd_ne (ne_of_none e hy), upd_ne (ne_of_none e hdy)]; exact e
      refine kk y H5 (fun b o e => kp b o (sN b o e) (ne_of_none e hy)) hy fun H6 h6 => ⟨dy, m, h6 _ _ hy h5, ?_⟩
      refine FTab.new (hF.back (H0 := H') fun b hbn => ?_) h6
      cases hq : H' b with
      | none => rfl
      | some o => rw [sN b o hq] at hbn; cases hbn
    refine ⟨_, rfl, _, rfl, fun y dy hy hdy hne => ?_⟩
    refine ⟨y, dy, R.length, x, rfl, upd_same, h2, hlx, fun m H2 h5 hF kp => ⟨rfl, ?_⟩⟩
    have sN : ∀ b o, H1 b = some o -> (upd (upd H1 dy (.own y)) y (.ins T.C_Marked dy [])) b = some o := fun b o e => by rw [upd_ne (ne_of_none e hy), upd_ne (ne_of_none e hdy)]; exact e
    have s2 : Same H1 H2 := fun b o e => kp b o (sN b o e) (ne_of_none e hy)
    have hM2 : MkAt T.C_Marked H2 y R.length x := ⟨dy, m, h5, hF.tab⟩
    have sB := s1.trans s2
    refine ⟨_, rfl, by show 0 <= sizeLine; decide, fun wy hwy => ?_⟩
    have hHw : H wy = none := sB.free hwy
    have sC0 : Same H2 (upd H2 wy (.lst [])) := same_new hwy
    refine ⟨_, rfl, _, rfl, a, R, t, rfl, sC0 _ _ (sB _ _ ha), hR, hb, ht, fun pz HC sC hz => ?_⟩
    obtain ⟨hz0, ps, hps, lps, rows⟩ := hz
    rw [sizesL_len] at lps
    have nw : ∀ b, upd H2 wy (.lst []) b = none -> b ≠ wy := fun b hb' z => by rw [z, upd_same] at hb'; cases hb'
    refine ⟨pz, _, rfl, hps, ?_⟩
    have kB : ∀ {H3 : Hp}, (∀ b o, b ≠ wy -> HC b = some o -> H3 b = some o) -> Same H2 H3 := fun hk b o e => hk b o (ne_of_none e hwy) (sC _ _ (sC0 _ _ e))
    refine for_rev (a := pz) (xs := ps.map V.ref) (fun i σ H3 => (∀ b o, b ≠ wy -> HC b = some o -> H3 b = some o) /\ ∃ (ts : List Addr) (w : List (Nat × Tx)) (mk : Addr) (lf : Nat) (o1 o2 o3 o4 : Option V),
        σ = [some (.ref a), some (sv x), some (.int (t : Nat)), some (.int (p : Nat)), some (sv (lets R.length)), some (.ref pm), some (.ref mk), some (.int (lf : Nat)), some (.ref wy), o1, o2, o3, o4] /\
        H3 wy = some (.lst (ts.map V.ref)) /\ ts.length = w.length /\ w.length = i /\ (∀ (j : Nat) (tt : Addr) (c : Nat) (z : Tx), ts[j]? = some tt -> w[j]? = some (c, z) -> tt ≠ wy /\ ∃ q, q ≠ wy /\ H3 tt = some (.tup [sv [c], .ref q]) /\ IntsAt H3 q (cnt R.length z)) /\
        ((i <= t /\ ∃ z : Tx, OkTx R.length z /\ z.length <= 100000 /\ lf < (grow R (t - i) z).length /\ (∀ H6, Same H2 H6 -> MkAt T.C_Marked H6 mk R.length z) /\ ∀ rest, IsWay R (t - i) z lf rest -> IsWay R t x p (w ++ rest)) \/ (i = t + 1 /\ IsWay R t x p w)))
      ⟨fun b o _ h => h, [], [], y, p, none, none, none, none, rfl, sC _ _ upd_same, rfl, rfl, fun j tt c z e => by simp at e, .inl ⟨Nat.zero_le _, x, hx, hlx, hp, fun H6 s6 => hM2.same s6, fun rest h => h⟩⟩ (fun i σ H3 ⟨hk, _⟩ => hk _ _ (nw _ hz0) hps) ?_ ?_
    · rintro i v σ H3 hi hv ⟨hk, ts, w, mk, lf, o1, o2, o3, o4, rfl, hw3, lts, lw, hts, hcase⟩
      rw [List.length_map, lps] at hi
      rcases hcase with ⟨hit, z, hz1, hz2, hz3, hz4, hz5⟩ | ⟨hit, _⟩
      · rw [List.length_map, lps, List.getElem?_map] at hv
        obtain ⟨q, eq, rfl⟩ := Option.map_eq_some_iff.mp hv
        have eti : t + 1 - 1 - i = t - i := by omega
        rw [eti] at eq
        have hrow := rows (t - i) q (szs R (t - i)) eq (by unfold sizesL; rw [List.getElem?_map, List.getElem?_range (by omega)]; rfl)
        have hq3 : IntsAt H3 q (szs R (t - i)) := hk _ _ (nw _ hrow.2) hrow.1
        have hM := hz4 H3 (kB hk)
        obtain ⟨dx, m', hob, hT⟩ := hM.ob
        refine ⟨_, rfl, mk, dx, _, rfl, hob, mfl_no _ _ _ (by decide +kernel) (by decide +kernel) (by decide +kernel), _, rfl, _, rfl, mk, q, R, t - i, z, lf, rfl, hM, ⟨hR, hz2, hz1, hq3, hz3⟩, fun ix c hL H4 s4 => ?_⟩
        have hix := (List.getElem?_eq_some_iff.mp hL.at_).1
        have hc := hz1 c (List.mem_of_getElem? hL.at_)
        refine ⟨_, rfl, mk, dx, _, rfl, s4 _ _ hob, mfl_no _ _ _ (by decide +kernel) (by decide +kernel) (by decide +kernel), _, rfl, mk, R.length, z, ix, rfl, hM.same s4, h2, hz2, by omega, fun pa H5 s5 hpa h5a => ?_⟩
        refine ⟨_, rfl, _, rfl, _, rfl, pa, q, _, _, rfl, h5a, s5 _ _ (s4 _ _ hq3), by rw [cnt_length, szs_length], by rw [cnt_length]; omega, cnt_small (by rw [List.length_take]; omega), fun H6 s6 => ⟨_, _, rfl, rfl, ?_⟩⟩
        rw [weigh_szs hR (t - i) (ok_take hz1 _)]
        have s56 := s5.trans s6
        have s46 := s4.trans s56
        refine ⟨_, rfl, mk, T.C_Marked, dx, _, _, rfl, s46 _ _ hob, T.cl_Marked, T.na_Marked_text, mfl_text _ _ _, _, rfl, tx z, _, c, rfl, rfl, tx_le hz2 (Nat.le_refl _), atI_nat hL.at_, ?_⟩
        have hw6 := s46 _ _ hw3
        have hpaw : pa ≠ wy := fun e => by rw [e, s4 _ _ hw3] at hpa; cases hpa
        refine ⟨_, rfl, .inl ⟨rfl, _, SqL.of hw6⟩, _, rfl, _, rfl, by show 2 <= sizeLine; decide, fun tt htt => ?_⟩
        have httw : tt ≠ wy := fun e => by rw [e, hw6] at htt; cases htt
        have sT := same_new (o := HO.tup [V.str ⟨#[c]⟩, V.ref pa]) htt
        refine ⟨wy, _, _, rfl, rfl, sT _ _ hw6, by rw [List.length_map, lts, lw]; exact small1000 (by omega), ?_⟩
        obtain ⟨rm, erm⟩ : ∃ rm, ms[c - 97]? = some rm := ⟨ms[c - 97], by simp [show c - 97 < ms.length by omega]⟩
        have hmsw : ∀ o, upd (upd H6 tt (.tup [V.str ⟨#[c]⟩, V.ref pa])) wy o pm = some (.lst (ms.map V.ref)) := fun o => by
          have : pm ≠ wy := ne_of_none (s2 _ _ hm1) hwy
          rw [upd_ne this]
          exact sT _ _ (s46 _ _ (kB hk _ _ (s2 _ _ hm1)))
        refine ⟨_, rfl, _, rfl, rfl, _, rfl, lets R.length, c, c - 97, rfl, rfl, (lets_ix hc.1 hc.2).1, (lets_ix hc.1 hc.2).2, pm, _, _, _, rfl, rfl, SqL.of (hmsw _), atI_nat (show (ms.map V.ref)[c - 97]? = some (V.ref rm) by rw [List.getElem?_map, erm]; rfl), ?_⟩
        have sK : ∀ b o, b ≠ wy -> H3 b = some o -> upd (upd H6 tt (.tup [V.str ⟨#[c]⟩, V.ref pa])) wy (.lst (ts.map V.ref ++ [V.ref tt])) b = some o := fun b o hb' h => by
          rw [upd_ne hb']
          exact sT _ _ (s46 _ _ h)
        have hup := hL.lo
        have hhi := hL.hi
        rw [up_succ hL.at_] at hhi
        have eR : ∃ r, R[c - 97]? = some r /\ R.getD (c - 97) [] = r := ⟨R[c - 97], by simp [show c - 97 < R.length by omega], by rw [List.getD_eq_getElem?_getD, List.getElem?_eq_getElem (show c - 97 < R.length by omega)]; rfl⟩
        obtain ⟨r, er, er'⟩ := eR
        refine ⟨fun b o hb' h => sK b o hb' (hk b o hb' h), ts ++ [tt], w ++ [(c, z.take ix)], rm, lf - up R (t - i) z ix, some (V.ref q), some (V.int (ix : Nat)), some (V.ref pa), some (V.str ⟨#[c]⟩), ?_, by rw [upd_same, List.map_append]; rfl, by rw [List.length_append, List.length_append, lts]; rfl, by rw [List.length_append, lw]; rfl, fun j t' c' z' e1 e2 => ?_, ?_⟩
        · have el : ((lf - up R (t - i) z ix : Nat) : Int) = (lf : Int) - (up R (t - i) z ix : Int) := by omega
          rw [el]; rfl
        · by_cases hj : j < ts.length
          · rw [List.getElem?_append_left hj] at e1
            rw [List.getElem?_append_left (by omega)] at e2
            obtain ⟨n1, q', n2, n3, n4⟩ := hts j t' c' z' e1 e2
            exact ⟨n1, q', n2, sK _ _ n1 n3, sK _ _ n2 n4⟩
          · have hjl : j = ts.length := by
              have := (List.getElem?_eq_some_iff.mp e1).1
              rw [List.length_append] at this; simp at this; omega
            subst hjl
            rw [List.getElem?_append_right (Nat.le_refl _), Nat.sub_self] at e1
            rw [lts, List.getElem?_append_right (Nat.le_refl _), Nat.sub_self] at e2
            cases e1; cases e2
            refine ⟨httw, pa, hpaw, by rw [upd_ne httw, upd_same]; rfl, ?_⟩
            show upd _ wy _ pa = _
            rw [upd_ne hpaw]
            exact sT _ _ (s6 _ _ h5a)
        · by_cases htl : i = t
          · right
            subst htl
            refine ⟨rfl, ?_⟩
            rw [Nat.sub_self] at hL hz5
            exact hz5 _ (.zero hL)
          · left
            have e1 : t - i = (t - (i + 1)) + 1 := by omega
            rw [e1] at hhi hL hz5 hup
            rw [e1]
            refine ⟨by omega, r, ?_, hb r (List.mem_of_getElem? er), ?_, fun H7 s7 => hms (c - 97) rm r erm er H7 (s2.trans s7), fun rest h => ?_⟩
            · exact hR.all r (List.mem_of_getElem? er)
            · rw [grow_one, er'] at hhi
              omega
            · rw [List.append_assoc]
              refine hz5 _ (.succ hL ?_)
              rw [er']
              exact h
      · omega
    · rintro σ H3 ⟨hk, ts, w, mk, lf, o1, o2, o3, o4, rfl, hw3, lts, lw, hts, hcase⟩
      rw [List.length_map, lps] at hcase lw
      rcases hcase with ⟨hit, _⟩ | ⟨_, hW⟩
      · omega
      · refine ⟨_, rfl, k w wy H3 hW (sB.trans (kB hk)) hHw ⟨ts, hw3, lts, fun i tt c z h1 h3 => ?_⟩⟩
        obtain ⟨_, q, _, a1, a2⟩ := hts i tt c z h1 h3
        exact ⟨q, a1, a2⟩
theorem sc_letter : FnScope ["rules", "row", "times", "place"] ["rules", "row", "times", "place"] (defScope s_letter) := ⟨rfl, rfl, rfl, by decide +kernel, rfl, by decide +kernel, by decide +kernel⟩
theorem ok_letter (T : TX K mg) : FnOk P w K mg base CX0 7 T.f_letter T.d_letter ["rules", "row", "times", "place"] spLetter := by
  have G1 := ok_check_place (P := P) (w := w) (base := base) T
  have G2 := ok_length (P := P) (w := w) (base := base) T
  have G3 := ok_way_to (P := P) (w := w) (base := base) T
  refine T.F_letter.ok sc_letter (fun vs H Q E h => ?_) (fun cdv A outer s H vs Q E hr h => ?_)
  · obtain ⟨a, R, x, t, p, rfl, _⟩ := h; rfl
  · obtain ⟨a, R, x, t, p, rfl, ha, hR, hb, hx, hlx, ht, hp, k⟩ := h
    have hr2 := hr.mono (show 2 <= 6 by decide)
    have hr5 := hr.mono (show 5 <= 6 by decide)
    refine ⟨_, pss_cons (ps_expr (pe_call G1 hr2 rfl T.m_check_place T.F_check_place.kp T.b_check_place .nil pass0 (pa_cons (pv 3) (pa_cons (pe_op op_sub (pe_call G2 hr rfl T.m_length T.F_length.kp T.b_length .nil pass0 (pa_cons (pv 0) (pa_cons (pv 1) (pa_cons (pv 2) pa_nil)))) pe_int) pa_nil))))
      (pss_one (ps_ret (pe_ix (ix_tupK K) (pe_ix (ix_listKK K) (pe_call G3 hr5 rfl T.m_way_to T.F_way_to.kp T.b_way_to .nil pass0 (pa_cons (pv 0) (pa_cons (pv 1) (pa_cons (pv 2) (pa_cons (pv 3) pa_nil))))) (pe_un un_neg pe_int) (fun _ _ => rfl)) pe_int (fun _ _ => rfl)))), ?_⟩
    refine ⟨_, rfl, _, rfl, _, rfl, _, rfl, a, R, x, t, rfl, ha, hR, hb, hx, ht, fun H1 s1 => ⟨_, _, rfl, rfl, _, _, rfl, by omega, by omega, ?_⟩⟩
    refine ⟨_, rfl, _, rfl, _, rfl, _, rfl, a, R, x, t, p, rfl, s1 _ _ ha, hR, hb, hx, hlx, ht, hp, fun w q H2 hw s2 hq hW => ?_⟩
    obtain ⟨ts, h1, h2, h3⟩ := hW
    obtain ⟨c, z, hl, hc⟩ := hw.letter
    obtain ⟨w', rfl⟩ := List.getLast?_eq_some_iff.mp hl
    have htl : ts.length - 1 < ts.length := by rw [h2, List.length_append]; simp
    have ewl : (w' ++ [(c, z)])[ts.length - 1]? = some (c, z) := by rw [h2, List.length_append]; simp
    obtain ⟨q', g1, _⟩ := h3 (ts.length - 1) ts[ts.length - 1] c z (by simp [htl]) ewl
    refine ⟨_, rfl, q, _, -1, V.ref ts[ts.length - 1], rfl, rfl, SqL.of h1, ?_, ?_⟩
    · have e3 : ts = ts.dropLast ++ [ts[ts.length - 1]] := by
        have h4 : ts.getLast? = some ts[ts.length - 1] := by rw [List.getLast?_eq_getElem?]; simp [htl]
        obtain ⟨ys, hys⟩ := List.getLast?_eq_some_iff.mp h4
        conv => lhs; rw [hys]
        rw [show ts.dropLast = ys from by rw [hys, List.dropLast_concat]]
      have e4 : ts.map V.ref = ts.dropLast.map V.ref ++ [V.ref ts[ts.length - 1]] := by
        conv => lhs; rw [e3]
        rw [List.map_append]; rfl
      rw [e4]
      exact atI_last _ _
    · exact ⟨_, _, _, _, rfl, rfl, SqT.of g1, rfl, k c hc H2 (s1.trans s2)⟩
theorem sc_first : FnScope ["rules", "row", "times", "many", "everything", "table", "held", "sign", "ahead"] ["rules", "row", "times", "many"] (defScope s_first) := ⟨rfl, rfl, rfl, by decide +kernel, rfl, by decide +kernel, by decide +kernel⟩
theorem ok_first (T : TX K mg) : FnOk P w K mg base CX0 6 T.f_first T.d_first ["rules", "row", "times", "many"] spFirst := by
  have G1 := ok_counts (P := P) (w := w) (base := base) T
  have G2 := ok_check_place (P := P) (w := w) (base := base) T
  have G3 := ok_table_of (P := P) (w := w) (base := base) T
  have G4 := ok_way_to (P := P) (w := w) (base := base) T
  have G5 := ok_added (P := P) (w := w) (base := base) T
  have G6 := ok_held_next (P := P) (w := w) (base := base) T
  refine T.F_first.ok sc_first (fun vs H Q E h => ?_) (fun cdv A outer s H vs Q E hr h => ?_)
  · obtain ⟨a, R, x, t, p, rfl, _⟩ := h; rfl
  · obtain ⟨a, R, x, t, p, rfl, ha, hR, hb, hx, hlx, ht, hp, k⟩ := h
    have nd := sc_first.nd
    have hr1 := hr.mono (show 1 <= 5 by decide)
    have hr2 := hr.mono (show 2 <= 5 by decide)
    refine ⟨_, pss_cons (ps_set (i := 4) nd rfl (Or.inl rfl) (pe_call G1 hr rfl T.m_counts T.F_counts.kp T.b_counts .nil pass0 (pa_cons (pv 0) (pa_cons (pv 1) (pa_cons (pv 2) pa_nil)))))
      (pss_cons (ps_expr (pe_call G2 hr2 rfl T.m_check_place T.F_check_place.kp T.b_check_place .nil pass0 (pa_cons (pv 3) (pa_cons (pe_callB (call_sumKK K) rfl T.n_sum boot_sum_ (pa_cons (pv 4) pa_nil)) pa_nil))))
      (pss_cons (ps_if (pt_cmpR op_eq (pv 3) (pe_callB (call_sumKK K) rfl T.n_sum boot_sum_ (pa_cons (pv 4) pa_nil)) (nomark _)) (pss_one (ps_ret (pv 4))) pss_nil)
      (pss_cons (ps_set (i := 5) nd rfl (Or.inl rfl) (pe_call G3 hr2 rfl T.m_table_of T.F_table_of.kp T.b_table_of .nil pass0 (pa_cons (pv 0) pa_nil)))
      (pss_cons (ps_lc rfl nd (i := 6) rfl rfl (cs0 (ns := ["text"])) (pi_listK K (pv 0)) (fun _ _ _ _ _ => pgc 0) (fun _ _ _ _ _ => pif_nil) (fun _ _ _ _ _ => pe_int))
      (pss_cons (ps_for PassesOwn.never rfl (pi_listK K (pe_call G4 hr rfl T.m_way_to T.F_way_to.kp T.b_way_to .nil pass0 (pa_cons (pv 0) (pa_cons (pv 1) (pa_cons (pv 2) (pa_cons (pv 3) pa_nil)))))) (pg_tupK K (n := 2) rfl (pgs_cons (pg_name (i := 7) nd rfl (Or.inl rfl)) (pgs_cons (pg_name (i := 8) nd rfl (Or.inl rfl)) pgs_nil)))
        (pss_one (ps_set (i := 6) nd rfl (Or.inl rfl) (pe_call G5 hr1 rfl T.m_added T.F_added.kp T.b_added .nil pass0 (pa_cons (pe_call G6 hr1 rfl T.m_held_next T.F_held_next.kp T.b_held_next .nil pass0 (pa_cons (pv 5) (pa_cons (pv 6) pa_nil))) (pa_cons (pv 8) pa_nil))))))
      (pss_one (ps_ret (pv 6)))))))), ?_⟩
    have h2 := hR.top
    have hgx : OkTx R.length (grow R t x) := OkTx.grow hR hx
    refine ⟨_, rfl, _, rfl, _, rfl, a, R, x, t, rfl, ha, hR, hb, hx, ht, fun pe H1 s1 hpe h1 => ?_⟩
    refine ⟨_, rfl, _, rfl, pe, _, rfl, rfl, SqL.of h1, (p : Int), _, rfl, by omega, by rw [cnt_sum hgx]; omega, ?_⟩
    refine ⟨_, rfl, _, rfl, pe, _, rfl, rfl, SqL.of h1, rfl, _, rfl, ?_⟩
    rw [cnt_sum hgx]
    by_cases hpl : p = (grow R t x).length
    · rw [decide_eq_true (by rw [hpl])]
      refine iteT ⟨_, rfl, k pe H1 s1 hpe ?_⟩
      rw [hpl, List.take_length]
      exact h1
    · rw [decide_eq_false (by intro e; injection e with e; exact hpl (by omega))]
      refine iteF ?_
      refine ⟨_, rfl, a, R, rfl, s1 _ _ ha, h2, fun pt H2 s2 hpt hT => ?_⟩
      have ha2 := s2 _ _ (s1 _ _ ha)
      refine ⟨_, rfl, a, rfl, ⟨_, SqL.of ha2⟩, ?_⟩
      refine lcb_map (zs := R) (ι := sv) (f := fun _ => V.int 0) (wk_list (SqL.of ha2)) rfl (small1000 (by omega)) (fun i z H' Kt _ _ kk => kk H' (Same.refl _)) fun D H3 s3 hD hD3 => ?_
      have hD3' : IntsAt H3 D (cnt R.length (fold R [] [])) := by
        show H3 D = _
        rw [hD3, List.map_const']
        show _ = some (HO.lst (ivs (cnt R.length [])))
        rw [cnt_nil]
        unfold ivs
        rw [List.map_replicate]
      have s123 := (s1.trans s2).trans s3
      refine ⟨_, rfl, _, rfl, _, rfl, _, rfl, a, R, x, t, p, rfl, s3 _ _ ha2, hR, hb, hx, hlx, ht, by omega, fun w q H4 hw s4 hq hW => ⟨q, rfl, ⟨_, SqL.of hW.choose_spec.1⟩, ?_⟩⟩
      obtain ⟨ts, g1, g2, g3⟩ := hW
      have hwo := hw.ok hR hx
      refine for_list (K := K) (a := q) (xs := ts.map V.ref) (fun i σ H5 => ∃ (d : Addr) (o o' : Option V), σ = [some (.ref a), some (sv x), some (.int (t : Nat)), some (.int (p : Nat)), some (.ref pe), some (.ref pt), some (.ref d), o, o'] /\ Same H4 H5 /\ H d = none /\ IntsAt H5 d (cnt R.length (fold R [] (w.take i))))
        ⟨D, none, none, rfl, Same.refl _, (s1.trans s2).free hD, s4 _ _ hD3'⟩ (fun i σ H5 _ ⟨_, _, _, _, s5, _⟩ => SqL.of (s5 _ _ g1)) ?_ ?_
      · rintro i y σ H5 hy ⟨d, o, o', rfl, s5, hd, hdv⟩
        rw [List.getElem?_map] at hy
        obtain ⟨tt, ett, rfl⟩ := Option.map_eq_some_iff.mp hy
        have hi : i < w.length := by have := (List.getElem?_eq_some_iff.mp ett).1; omega
        have ew : w[i]? = some w[i] := by simp [hi]
        obtain ⟨q', e1, e2⟩ := g3 i tt w[i].1 w[i].2 ett ew
        have hwi := hwo w[i] (List.getElem_mem hi)
        have hZ : OkTx R.length (fold R [] (w.take i)) := fold_ok hR _ (fun c hc => by simp at hc) fun q hq => (hwo q (List.mem_of_mem_take hq)).1
        have hT5 := (hT.same (s3.trans s4)).same s5
        refine ⟨tt, _, rfl, SqT.of (s5 _ _ e1), rfl, _, _, rfl, _, _, rfl, rfl, ?_⟩
        refine ⟨_, rfl, _, rfl, pt, d, GM.table R, _, rfl, hT5, table_sq h2 hb, hdv, by rw [cnt_length, table_length], fun p6 H6 s6 hp6 h6 => ?_⟩
        rw [hnext_cnt hZ] at h6
        refine ⟨_, rfl, p6, q', _, _, rfl, h6, s6 _ _ (s5 _ _ e2), by rw [cnt_length, cnt_length], by rw [cnt_length]; omega, fun p7 H7 s7 hp7 h7 => ?_⟩
        rw [added_cnt] at h7
        refine ⟨p7, _, _, rfl, (s5.trans s6).trans s7, (((s123.trans s4).trans s5).trans s6).free hp7, ?_⟩
        have htk : w.take (i + 1) = w.take i ++ [w[i]] := by rw [List.take_add_one, ew]; rfl
        rw [htk]
        unfold fold
        rw [List.foldl_append]
        exact h7
      · rintro σ H5 ⟨d, o, o', rfl, s5, hd, hdv⟩
        refine ⟨_, rfl, k d H5 ((s123.trans s4).trans s5) hd ?_⟩
        rw [List.length_map, g2, List.take_length, hw.first, once_nil, grow_nil, List.nil_append] at hdv
        exact hdv
theorem sc_check_letter : FnScope ["rules", "letter"] ["rules", "letter"] (defScope s_check_letter) := ⟨rfl, rfl, rfl, by decide +kernel, rfl, by decide +kernel, by decide +kernel⟩
theorem ok_check_letter (T : TX K mg) : FnOk P w K mg base CX0 2 T.f_check_letter T.d_check_letter ["rules", "letter"] spCheckLetter := by
  have G1 := ok_is_text_of (P := P) (w := w) (base := base) T
  have G2 := ok_letters_of (P := P) (w := w) (base := base) T
  refine T.F_check_letter.ok sc_check_letter (fun vs H Q E h => ?_) (fun cdv A outer s H vs Q E hr h => ?_)
  · obtain ⟨a, R, c, rfl, _⟩ := h; rfl
  · obtain ⟨a, R, c, rfl, ha, hR, hc, k⟩ := h
    refine ⟨_, pss_one (ps_if (PW.pt (pw_or (pt_not (pt_val (pe_call G1 hr rfl T.m_is_text_of T.F_is_text_of.kp T.b_is_text_of .nil pass0 (pa_cons (pe_call G2 hr rfl T.m_letters_of T.F_letters_of.kp T.b_letters_of .nil pass0 (pa_cons (pv 0) pa_nil)) (pa_cons (pv 1) pa_nil)))))
      (pw_or1 (pt_cmpR op_ne (pe_callB call_lenSS rfl T.n_len PySem.boot_len (pa_cons (pv 1) pa_nil)) pe_int (nomark _))))) pss_never pss_nil), ?_⟩
    refine ⟨_, rfl, a, _, rfl, ha, by rw [List.length_map]; exact hR.top, ?_⟩
    rw [List.length_map]
    refine ⟨_, rfl, R.length, [c], rfl, hR.top, hc.ok, fun H1 s1 => ⟨true, rfl, iteF ?_⟩⟩
    exact ⟨_, rfl, tx [c], rfl, tx_le (n := 1) (Nat.le_refl _) (by decide), rfl, _, rfl, iteNS (by rw [tx_len]; rfl) (k H1 s1)⟩
theorem sc_Times_init : FnScope ["self", "many"] ["self", "many"] (defScope s_Times_init) := ⟨rfl, rfl, rfl, by decide +kernel, rfl, by decide +kernel, by decide +kernel⟩
theorem ok_Times_init (T : TX K mg) : FnOk P w K mg base CX0 1 T.f_Times_init T.d_Times_init ["self", "many"] (spInit1 T.C_Times "many") := by
  refine T.F_Times_init.ok sc_Times_init (fun vs H Q E h => ?_) (fun cdv A outer s H vs Q E hr h => ?_)
  · obtain ⟨p, dx, v, rfl, _⟩ := h; rfl
  · obtain ⟨p, dx, v, rfl, hp, k⟩ := h
    refine ⟨_, pss_one (ps_fld (pv 0) (pv 1) rfl), ?_⟩
    exact ⟨_, rfl, _, rfl, p, T.C_Times, dx, [], rfl, hp, T.cl_Times, T.na_Times_many, (by show 0 < 1000; decide), k⟩
theorem sc_Times_shows : FnScope ["self", "rules", "one", "other"] ["self", "rules", "one", "other"] (defScope s_Times_shows) := ⟨rfl, rfl, rfl, by decide +kernel, rfl, by decide +kernel, by decide +kernel⟩
theorem ok_Times_shows (T : TX K mg) : FnOk P w K mg base CX0 4 T.f_Times_shows T.d_Times_shows ["self", "rules", "one", "other"] (spTimes T.C_Times) := by
  have G1 := ok_is_number_up_to (P := P) (w := w) (base := base) T
  have G2 := ok_held_after (P := P) (w := w) (base := base) T
  have G3 := ok_letters_of (P := P) (w := w) (base := base) T
  refine T.F_Times_shows.ok sc_Times_shows (fun vs H Q E h => ?_) (fun cdv A outer s H vs Q E hr h => ?_)
  · obtain ⟨p, dx, m, a, R, c, d, rfl, _⟩ := h; rfl
  · obtain ⟨p, dx, m, a, R, c, d, rfl, hp, ha, hR, hb, hc, hd, k⟩ := h
    have hr1 := hr.mono (show 1 <= 3 by decide)
    refine ⟨_, pss_cons (ps_if (pt_not (pt_val (pe_call G1 hr1 rfl T.m_is_number_up_to T.F_is_number_up_to.kp T.b_is_number_up_to .nil pass0 (pa_cons (pe_callB (call_lenKK K) rfl T.n_len PySem.boot_len (pa_cons (pv 1) pa_nil)) (pa_cons (pe_fldKK K (pv 0) rfl) pa_nil))))) (pss_one (ps_ret pe_bl)) pss_nil)
      (pss_one (ps_ret (pe_cmpR op_gt (pe_ix (ix_listKK K) (pe_call G2 hr rfl T.m_held_after T.F_held_after.kp T.b_held_after .nil pass0 (pa_cons (pv 1) (pa_cons (pv 2) (pa_cons (pe_fldKK K (pv 0) rfl) pa_nil))))
        (pe_bmK K PySem.F.plainAttrs_str PySem.F.slot_str_index PySem.F.type_str_index mt_index (pe_call G3 hr1 rfl T.m_letters_of T.F_letters_of.kp T.b_letters_of .nil pass0 (pa_cons (pv 1) pa_nil)) (pa_cons (pv 3) pa_nil)) (fun _ _ => rfl)) pe_int (nomark _)))), ?_⟩
    refine ⟨_, rfl, a, _, rfl, .inl (SqL.of ha), _, rfl, p, T.C_Times, dx, _, _, rfl, hp, T.cl_Times, T.na_Times_many, putF_get _ _, (R.length : Int), m, by rw [List.length_map]; rfl, ?_⟩
    by_cases hm : 0 <= m /\ m <= (R.length : Int)
    · rw [decide_eq_true hm]
      refine ⟨true, rfl, iteF ?_⟩
      obtain ⟨t, rfl⟩ := Int.eq_ofNat_of_zero_le hm.1
      have h2 := hR.top
      refine ⟨_, rfl, _, rfl, _, rfl, p, T.C_Times, dx, _, _, rfl, hp, T.cl_Times, T.na_Times_many, putF_get _ _, a, R, [c], t, rfl, ha, hR, hb, hc.ok, by omega, fun ph H1 s1 hph h1 => ?_⟩
      refine ⟨_, rfl, a, _, rfl, s1 _ _ ha, by rw [List.length_map]; exact hR.top, rfl, _, rfl, lets R.length, d, d - 97, by rw [List.length_map], rfl, (lets_ix hd.1 hd.2).1, (lets_ix hd.1 hd.2).2, ph, _, _, _, rfl, rfl, SqL.of h1, atI_nat (cnt_ix hd), _, _, rfl, rfl, ?_⟩
      have e : decide (((grow R t [c]).count d : Nat) > (0 : Int)) = decide (0 <= (t : Int) /\ (t : Int) <= (R.length : Int) /\ d ∈ grow R (t : Int).toNat [c]) := by
        rw [decide_eq_decide, Int.toNat_natCast]
        constructor
        · intro h
          exact ⟨hm.1, hm.2, List.count_pos_iff.mp (by omega)⟩
        · intro h
          have := List.count_pos_iff.mpr h.2.2
          omega
      show Q (V.bl (decide (((grow R t [c]).count d : Nat) > (0 : Int)))) H1
      rw [e]
      exact k H1 s1
    · rw [decide_eq_false hm]
      refine ⟨false, rfl, iteT ?_⟩
      rw [decide_eq_false (fun z => hm ⟨z.1, z.2.1⟩)] at k
      exact k H (Same.refl _)
theorem sc_Shut_init : FnScope ["self", "letters"] ["self", "letters"] (defScope s_Shut_init) := ⟨rfl, rfl, rfl, by decide +kernel, rfl, by decide +kernel, by decide +kernel⟩
theorem ok_Shut_init (T : TX K mg) : FnOk P w K mg base CX0 1 T.f_Shut_init T.d_Shut_init ["self", "letters"] (spInit1 T.C_Shut "letters") := by
  refine T.F_Shut_init.ok sc_Shut_init (fun vs H Q E h => ?_) (fun cdv A outer s H vs Q E hr h => ?_)
  · obtain ⟨p, dx, v, rfl, _⟩ := h; rfl
  · obtain ⟨p, dx, v, rfl, hp, k⟩ := h
    refine ⟨_, pss_one (ps_fld (pv 0) (pv 1) rfl), ?_⟩
    exact ⟨_, rfl, _, rfl, p, T.C_Shut, dx, [], rfl, hp, T.cl_Shut, T.na_Shut_letters, (by show 0 < 1000; decide), k⟩
theorem valV_dL (ks : Tx) (e : Nat) : (valV (dL ks) (Sum.inr (tx [e]) : Key)).isSome = decide (e ∈ ks) := by
  rw [<- dL_any]
  unfold valV
  rw [Option.isSome_map, Bool.eq_iff_iff, List.find?_isSome, List.any_eq_true]
theorem boot_sorted_ : bootBuiltins "sorted" = some (.builtin "sorted") := by decide +kernel
theorem perm_tx {ss : List Str} {ks : Tx} (h : ss.Perm (ks.map fun e => tx [e])) : ∃ L : Tx, L.Perm ks /\ ss.map V.str = (L.map fun e => [e]).map sv := by
  refine ⟨ss.map fun s => s.cps.toList.headD 0, ?_, ?_⟩
  · have := h.map (fun s : Str => s.cps.toList.headD 0)
    rw [List.map_map] at this
    have e : (ks.map ((fun s : Str => s.cps.toList.headD 0) ∘ fun e => tx [e])) = ks := by
      conv => rhs; rw [<- List.map_id ks]
      exact List.map_congr_left fun e _ => rfl
    rw [e] at this
    exact this
  · rw [List.map_map, List.map_map]
    refine List.map_congr_left fun s hs => ?_
    obtain ⟨e, _, rfl⟩ := List.mem_map.mp (h.mem_iff.mp hs)
    rfl
theorem nd_nat : ∀ {l m : Tx}, l.Nodup -> (∀ k ∈ l, k ∈ m) -> l.length <= m.length
  | [], m, _, _ => Nat.zero_le _
  | a :: l, m, nd, h => by
    have ha := h a List.mem_cons_self
    have nd' := List.nodup_cons.mp nd
    have ih := nd_nat (l := l) (m := m.erase a) nd'.2 fun k hk => (List.mem_erase_of_ne (fun z => nd'.1 (by rw [<- z]; exact hk))).mpr (h k (List.mem_cons_of_mem _ hk))
    rw [List.length_erase_of_mem ha] at ih
    have : 0 < m.length := List.length_pos_of_mem ha
    rw [List.length_cons]; omega
theorem sc_comes : FnScope ["rules", "one", "other", "letters", "table", "held", "come", "times", "sign", "many"] ["rules", "one", "other"] (defScope s_comes) := ⟨rfl, rfl, rfl, by decide +kernel, rfl, by decide +kernel, by decide +kernel⟩
theorem ok_comes (T : TX K mg) : FnOk P w K mg base CX0 4 T.f_comes T.d_comes ["rules", "one", "other"] (spComes T.C_Times T.C_Shut) := by
  have G1 := ok_check_rules (P := P) (w := w) (base := base) T
  have G2 := ok_check_letter (P := P) (w := w) (base := base) T
  have G3 := ok_letters_of (P := P) (w := w) (base := base) T
  have G4 := ok_table_of (P := P) (w := w) (base := base) T
  have G5 := ok_counted (P := P) (w := w) (base := base) T
  have G6 := ok_held_next (P := P) (w := w) (base := base) T
  have G7 := ok_Times_init (P := P) (w := w) (base := base) T
  have G8 := ok_Shut_init (P := P) (w := w) (base := base) T
  refine T.F_comes.ok sc_comes (fun vs H Q E h => ?_) (fun cdv A outer s H vs Q E hr h => ?_)
  · obtain ⟨a, R, c, d, rfl, _⟩ := h; rfl
  · obtain ⟨a, R, c, d, rfl, ha, hR, hb, hc, hd, kT, kS⟩ := h
    have nd := sc_comes.nd
    have hu := hu_of hr
    have hr1 := hr.mono (show 1 <= 3 by decide)
    have hr2 := hr.mono (show 2 <= 3 by decide)
    refine ⟨_, pss_cons (ps_expr (pe_call G1 hr rfl T.m_check_rules T.F_check_rules.kp T.b_check_rules .nil pass0 (pa_cons (pv 0) pa_nil)))
      (pss_cons (ps_expr (pe_call G2 hr2 rfl T.m_check_letter T.F_check_letter.kp T.b_check_letter .nil pass0 (pa_cons (pv 0) (pa_cons (pv 1) pa_nil))))
      (pss_cons (ps_expr (pe_call G2 hr2 rfl T.m_check_letter T.F_check_letter.kp T.b_check_letter .nil pass0 (pa_cons (pv 0) (pa_cons (pv 2) pa_nil))))
      (pss_cons (ps_set (i := 3) nd rfl (Or.inl rfl) (pe_call G3 hr1 rfl T.m_letters_of T.F_letters_of.kp T.b_letters_of .nil pass0 (pa_cons (pv 0) pa_nil)))
      (pss_cons (ps_set (i := 4) nd rfl (Or.inl rfl) (pe_call G4 hr2 rfl T.m_table_of T.F_table_of.kp T.b_table_of .nil pass0 (pa_cons (pv 0) pa_nil)))
      (pss_cons (ps_set (i := 5) nd rfl (Or.inl rfl) (pe_call G5 hr1 rfl T.m_counted T.F_counted.kp T.b_counted .nil pass0 (pa_cons (pv 3) (pa_cons (pv 1) pa_nil))))
      (pss_cons (ps_set (i := 6) nd rfl (Or.inl rfl) pe_dnewK)
      (pss_cons (ps_for PassesOwn.never rfl (pi_range1 rfl T.n_range (pa_cons (pe_callB (call_lenKK K) rfl T.n_len PySem.boot_len (pa_cons (pv 0) pa_nil)) pa_nil)) (pg_name (i := 7) nd rfl (Or.inl rfl))
        (pss_cut (ps_for PassesOwn.never rfl (pi_zip rfl T.n_zip (pa_cons (pv 3) (pa_cons (pv 5) pa_nil))) (pg_tupK K (n := 2) rfl (pgs_cons (pg_name (i := 8) nd rfl (Or.inl rfl)) (pgs_cons (pg_name (i := 9) nd rfl (Or.inl rfl)) pgs_nil)))
          (pss_one (ps_if (pt_cmpR op_gt (pv 9) pe_int (nomark _)) (pss_one (ps_dput hu (pv 6) (pv 8) pe_bl rfl)) pss_nil)))
        (pss_cons (ps_if (pt_cmp (pc_din hu (pv 2) (pv 6))) (pss_one (ps_ret (pe_make T.mk_Times G7 hr2 rfl T.mC_Times T.b_Times_init .nil pass0 (pa_cons (pv 7) pa_nil)))) pss_nil)
        (pss_one (ps_set (i := 5) nd rfl (Or.inl rfl) (pe_call G6 hr1 rfl T.m_held_next T.F_held_next.kp T.b_held_next .nil pass0 (pa_cons (pv 4) (pa_cons (pv 5) pa_nil))))))))
      (pss_one (ps_ret (pe_make T.mk_Shut G8 hr2 rfl T.mC_Shut T.b_Shut_init .nil pass0 (pa_cons (pe_bmK K PySem.F.plainAttrs_str PySem.F.slot_str_join PySem.F.type_str_join (mt_joinK K) pe_str (pa_cons (pe_callB (call_sortedD rfl) rfl T.n_sorted boot_sorted_ (pa_cons (pv 6) pa_nil)) pa_nil)) pa_nil))))))))))), ?_⟩
    have h2 := hR.top
    have h1 := hR.pos
    have hgo : ∀ j, OkTx R.length (grow R j [c]) := fun j => OkTx.grow hR hc.ok
    refine ⟨_, rfl, a, R, rfl, ha, hR, fun H1 s1 => ?_⟩
    refine ⟨_, rfl, _, rfl, a, R, c, rfl, s1 _ _ ha, hR, hc, fun H2 s2 => ?_⟩
    refine ⟨_, rfl, _, rfl, a, R, d, rfl, (s1.trans s2) _ _ ha, hR, hd, fun H3 s3 => ?_⟩
    have s13 := (s1.trans s2).trans s3
    have ha3 := s13 _ _ ha
    refine ⟨_, rfl, a, _, rfl, ha3, by rw [List.length_map]; exact h2, ?_⟩
    rw [List.length_map]
    refine ⟨_, rfl, a, R, rfl, ha3, h2, fun pt H4 s4 hpt hT => ?_⟩
    refine ⟨_, rfl, _, rfl, R.length, [c], rfl, h2, fun ph H5 s5 hph h5 => ?_⟩
    have s15 := (s13.trans s4).trans s5
    have ha5 := s15 _ _ ha
    have hT5 := hT.same s5
    intro pd hpd
    have hHd : H pd = none := s15.free hpd
    have hne : ∀ b o, H5 b = some o -> b ≠ pd := fun b o e => ne_of_none e hpd
    have kH : ∀ {H' : Hp}, (∀ b o, b ≠ pd -> H5 b = some o -> H' b = some o) -> Same H H' := fun hk b o e => hk b o (ne_of_none e hHd) (s15 _ _ e)
    have kT5 : ∀ {H' : Hp}, (∀ b o, b ≠ pd -> H5 b = some o -> H' b = some o) -> Same H5 H' := fun hk b o e => hk b o (hne _ _ e) e
    refine ⟨_, rfl, a, _, rfl, .inl (SqL.of (same_new hpd _ _ ha5)), ((svs R).length : Int), rfl, by omega, by rw [List.length_map]; omega, ?_⟩
    refine for_range (lo := 0) (n := ((svs R).length : Int).toNat) (fun t σ H6 => (∀ b o, b ≠ pd -> H5 b = some o -> H6 b = some o) /\ ∃ (q : Addr) (ks : Tx) (o7 o8 o9 : Option V), σ = [some (.ref a), some (sv [c]), some (sv [d]), some (sv (lets R.length)), some (.ref pt), some (.ref q), some (.ref pd), o7, o8, o9] /\ q ≠ pd /\ IntsAt H6 q (cnt R.length (grow R t [c])) /\ H6 pd = some (.dK (dL ks)) /\ ks.Nodup /\ (∀ e, e ∈ ks ↔ ∃ j, j < t /\ e ∈ grow R j [c]) /\ d ∉ ks)
      ⟨fun b o hb e => by rw [upd_ne hb]; exact e, ph, [], none, none, none, rfl, hne _ _ h5, by show upd H5 pd _ ph = _; rw [upd_ne (hne _ _ h5)]; exact h5, upd_same, List.nodup_nil, fun e => ⟨fun z => by simp at z, fun ⟨j, hj, _⟩ => by omega⟩, fun z => by simp at z⟩ ?_ ?_
    · rintro t σ H6 ht ⟨k6, q, ks, o7, o8, o9, rfl, hqd, hq6, hd6, nd6, mem6, not6⟩
      rw [List.length_map, Int.toNat_natCast] at ht
      have hin26 : ∀ ks' : Tx, ks'.Nodup -> (∀ e ∈ ks', e ∈ lets R.length) -> ks'.length <= 26 := fun ks' n1 n2 => by
        have := nd_nat n1 n2
        rw [lets_length] at this; omega
      refine ⟨fun σ' H' => (∀ b o, b ≠ pd -> H6 b = some o -> H' b = some o) /\ ∃ (ks' : Tx) (o8 o9 : Option V), σ' = [some (.ref a), some (sv [c]), some (sv [d]), some (sv (lets R.length)), some (.ref pt), some (.ref q), some (.ref pd), some (.int (0 + (t : Nat))), o8, o9] /\ H' pd = some (.dK (dL ks')) /\ ks'.Nodup /\ ∀ e, e ∈ ks' ↔ e ∈ ks \/ e ∈ grow R t [c], ?_, ?_⟩
      · refine ⟨_, rfl, _, rfl, .str (tx (lets R.length)), .lst q, _, _, rfl, (src_str (lets_asc h2) : Src.Ok _ H6 _) H6 (Same.refl _), hq6, ?_⟩
        have hqb : but H6 pd q = some (.lst (ivs (cnt R.length (grow R t [c])))) := by rw [but_ne hqd]; exact hq6
        refine for_pairs2 (Hw := but H6 pd) (wk_zip (src_str (lets_asc h2)) (src_lst hqb) (by rw [List.length_map, List.length_map, lets_length, cnt_length]))
          (fun i σ' H' => (∀ b o, b ≠ pd -> H6 b = some o -> H' b = some o) /\ ∃ (ks' : Tx) (o8 o9 : Option V), σ' = [some (.ref a), some (sv [c]), some (sv [d]), some (sv (lets R.length)), some (.ref pt), some (.ref q), some (.ref pd), some (.int (0 + (t : Nat))), o8, o9] /\ H' pd = some (.dK (dL ks')) /\ ks'.Nodup /\ (∀ e ∈ ks', e ∈ lets R.length) /\ ∀ e, e ∈ ks' ↔ e ∈ ks \/ (e ∈ (lets R.length).take i /\ e ∈ grow R t [c]))
          ⟨fun b o _ e => e, ks, o8, o9, rfl, hd6, nd6, fun e he => by obtain ⟨j, _, hj⟩ := (mem6 e).mp he; exact mem_lets.mpr (hgo j e hj), fun e => by simp⟩ (fun i σ' H' z b o e => by obtain ⟨e1, e2⟩ := but_some e; exact z.1 b o e1 e2) ?_ ?_
        · rintro i x y p σ' H7 hxy ⟨k7, ks', o8', o9', rfl, hd7, nd7, in7, mem7⟩ hp
          obtain ⟨e1, e2⟩ := List.getElem?_zip_eq_some.mp hxy
          have hi : i < R.length := by have := (List.getElem?_eq_some_iff.mp e1).1; rw [List.length_map, lets_length] at this; exact this
          rw [List.getElem?_map, lets_get hi] at e1
          have ex : x = V.str (tx [97 + i]) := (Option.some.inj e1).symm
          have hle : Let R.length (97 + i) := ⟨by omega, by omega⟩
          have e3 := cnt_ix (x := grow R t [c]) hle
          rw [show 97 + i - 97 = i by omega] at e3
          rw [e3] at e2
          have ey : y = V.int ((grow R t [c]).count (97 + i) : Nat) := (Option.some.inj e2).symm
          subst ex; subst ey
          have hdp : pd ≠ p := ne_of_none hd7 hp
          have htk : (lets R.length).take (i + 1) = (lets R.length).take i ++ [97 + i] := by rw [List.take_add_one, lets_get hi]; rfl
          refine ⟨_, rfl, _, _, rfl, rfl, _, rfl, ?_⟩
          by_cases hm : ((grow R t [c]).count (97 + i) : Int) > 0
          · rw [decide_eq_true hm]
            have hmg : 97 + i ∈ grow R t [c] := List.count_pos_iff.mp (by omega)
            refine iteT ⟨_, rfl, _, rfl, pd, _, rfl, DPut.k (k := Sum.inr (tx [97 + i])) (by rw [upd_ne hdp]; exact hd7) ?_, ?_⟩
            · unfold dL
              rw [List.length_map]
              exact small1000 (Nat.le_trans (hin26 ks' nd7 in7) (by decide))
            rw [dL_put]
            refine ⟨fun b o hb e => by rw [upd_ne hb, upd_ne (ne_of_none (k7 b o hb e) hp)]; exact k7 b o hb e, if 97 + i ∈ ks' then ks' else ks' ++ [97 + i], _, _, rfl, upd_same, ?_, ?_, fun e => ?_⟩
            · split
              · exact nd7
              · rename_i hn
                rw [List.nodup_append]
                refine ⟨nd7, by simp, fun u hu v hv => ?_⟩
                rw [List.mem_singleton.mp hv]
                intro z; rw [z] at hu; exact hn hu
            · intro e he
              split at he
              · exact in7 e he
              · rcases List.mem_append.mp he with z | z
                · exact in7 e z
                · rw [List.mem_singleton.mp z]; exact mem_lets.mpr hle
            · have hk : e ∈ (if 97 + i ∈ ks' then ks' else ks' ++ [97 + i]) ↔ e ∈ ks' \/ e = 97 + i := by
                split
                · rename_i hn
                  exact ⟨.inl, fun z => z.elim id fun z => by rw [z]; exact hn⟩
                · rw [List.mem_append, List.mem_singleton]
              rw [hk, mem7 e, htk, List.mem_append, List.mem_singleton]
              constructor
              · rintro ((z | ⟨z1, z2⟩) | rfl)
                · exact .inl z
                · exact .inr ⟨.inl z1, z2⟩
                · exact .inr ⟨.inr rfl, hmg⟩
              · rintro (z | ⟨z1 | z1, z2⟩)
                · exact .inl (.inl z)
                · exact .inl (.inr ⟨z1, z2⟩)
                · exact .inr z1
          · rw [decide_eq_false hm]
            refine iteF ⟨fun b o hb e => by rw [upd_ne (ne_of_none (k7 b o hb e) hp)]; exact k7 b o hb e, ks', _, _, rfl, by rw [upd_ne hdp]; exact hd7, nd7, in7, fun e => ?_⟩
            rw [mem7 e, htk, List.mem_append, List.mem_singleton]
            constructor
            · rintro (z | ⟨z1, z2⟩)
              · exact .inl z
              · exact .inr ⟨.inl z1, z2⟩
            · rintro (z | ⟨z1 | z1, z2⟩)
              · exact .inl z
              · exact .inr ⟨z1, z2⟩
              · rw [z1] at z2
                have := List.count_pos_iff.mpr z2
                omega
        · rintro σ' H7 ⟨k7, ks', o8', o9', rfl, hd7, nd7, in7, mem7⟩
          refine ⟨k7, ks', o8', o9', rfl, hd7, nd7, fun e => ?_⟩
          rw [mem7 e, List.length_zip, List.length_map, List.length_map, lets_length, cnt_length, Nat.min_self, List.take_of_length_le (by rw [lets_length]; exact Nat.le_refl _)]
          exact ⟨fun z => z.elim .inl fun z => .inr z.2, fun z => z.elim .inl fun z => .inr ⟨mem_lets.mpr (hgo t e z), z⟩⟩
      rintro _ H7 ⟨k7, ks', o8', o9', rfl, hd7, nd7, mem7⟩
      have k57 : ∀ b o, b ≠ pd -> H5 b = some o -> H7 b = some o := fun b o hb e => k7 b o hb (k6 b o hb e)
      refine ⟨_, rfl, _, rfl, pd, _, rfl, DGet.k (k := Sum.inr (tx [d])) hd7, _, rfl, ?_⟩
      rw [valV_dL]
      by_cases hdk : d ∈ ks'
      · rw [decide_eq_true hdk]
        have hdg : d ∈ grow R t [c] := ((mem7 d).mp hdk).elim (fun z => absurd z not6) id
        refine iteT ⟨_, rfl, fun y dy hy hdy hyd => ⟨y, dy, .int (0 + (t : Nat)), rfl, upd_same, rfl, ?_⟩⟩
        rw [Int.zero_add]
        refine kT t y dy _ ht hdg (fun b o e => ?_) (by
          cases hq : H y with
          | none => rfl
          | some o => rw [kH k57 y o hq] at hy; cases hy) upd_same
        have e7 := kH k57 b o e
        rw [upd_ne (ne_of_none e7 hy), upd_ne (ne_of_none e7 hy), upd_ne (ne_of_none e7 hdy)]
        exact e7
      · rw [decide_eq_false hdk]
        refine iteF ⟨_, rfl, _, rfl, pt, q, GM.table R, _, rfl, hT5.same (kT5 k57), table_sq h2 hb, k7 _ _ hqd hq6, by rw [cnt_length, table_length], fun q8 H8 s8 hq8 h8 => ?_⟩
        rw [hnext_cnt (hgo t), <- grow_succ'] at h8
        refine ⟨fun b o hb e => s8 _ _ (k57 b o hb e), q8, ks', _, _, _, rfl, (fun z => by rw [z, hd7] at hq8; cases hq8), h8, s8 _ _ hd7, nd7, fun e => ?_, hdk⟩
        rw [mem7 e, mem6 e]
        constructor
        · rintro (⟨j, hj, he⟩ | he)
          · exact ⟨j, by omega, he⟩
          · exact ⟨t, by omega, he⟩
        · rintro ⟨j, hj, he⟩
          by_cases hjt : j = t
          · subst hjt; exact .inr he
          · exact .inl ⟨j, by omega, he⟩
    · rintro σ H6 ⟨k6, q, ks, o7, o8, o9, rfl, hqd, hq6, hd6, nd6, mem6, not6⟩
      rw [List.length_map, Int.toNat_natCast] at mem6
      have inl : ∀ e ∈ ks, e ∈ lets R.length := fun e he => by obtain ⟨j, _, hj⟩ := (mem6 e).mp he; exact mem_lets.mpr (hgo j e hj)
      have l26 : ks.length <= 26 := by
        have := nd_nat nd6 inl
        rw [lets_length] at this; omega
      have hmet : ∀ e, e ∈ ks ↔ Met R c (R.length - 1) e := fun e => by
        rw [mem6 e]
        exact ⟨fun ⟨j, hj, he⟩ => ⟨j, by omega, he⟩, fun ⟨j, hj, he⟩ => ⟨j, by omega, he⟩⟩
      refine ⟨rfl, _, rfl, pd, _, ks.map (fun e => tx [e]), rfl, hd6, by unfold dL; rw [List.map_map, List.map_map]; rfl, by rw [List.length_map]; omega, fun ql ss' hql hperm => ?_⟩
      obtain ⟨L, hL, eL⟩ := perm_tx hperm
      have lL : L.length <= 26 := by rw [hL.length_eq]; exact l26
      have eF : (L.map fun e => [e]).flatten = L := flat_single L
      refine ⟨ql, L.map fun e => [e], rfl, rfl, SqL.of (by rw [upd_same, eL]), by rw [eF]; exact Nat.le_trans lL (by decide), ?_⟩
      rw [eF]
      have mL : ∀ e, e ∈ L ↔ Met R c (R.length - 1) e := fun e => by rw [hL.mem_iff]; exact hmet e
      refine fun y dy hy hdy hyd => ⟨y, dy, sv L, rfl, upd_same, rfl, ?_⟩
      have hS : ShutIs R L c d := ⟨fun e he => by have := mem_lets.mp (inl e (hL.mem_iff.mp he)); exact this, lL, (mL c).mpr ⟨0, Nat.zero_le _, List.mem_singleton.mpr rfl⟩, fun z => not6 (hL.mem_iff.mp z), fun e he g hg => (mL g).mpr (shut hR hc hd (fun z => not6 ((hmet d).mpr z)) ((mL e).mp he) hg)⟩
      have sQ : Same H6 (upd H6 ql (.lst (ss'.map V.str))) := same_new hql
      refine kS L y dy _ hS (fun b o e => ?_) (by
        cases hq : H y with
        | none => rfl
        | some o => rw [sQ _ _ (kH k6 y o hq)] at hy; cases hy) upd_same
      have e7 := sQ _ _ (kH k6 b o e)
      rw [upd_ne (ne_of_none e7 hy), upd_ne (ne_of_none e7 hy), upd_ne (ne_of_none e7 hdy)]
      exact e7
theorem x_check_rules (T : TX K mg) : FnOk P w K mg base (CX1 P w base) 3 T.f_check_rules T.d_check_rules ["rules"] (spXRules K T.C_BadRules) := by
  have G1 := ok_not_rules (P := P) (w := w) (base := base) T
  refine T.F_check_rules.ok1 sc_check_rules (fun vs H Q E h => ?_) (fun cdv A outer s H vs Q E hr h => ?_)
  · obtain ⟨v, rfl, _⟩ := h; rfl
  · obtain ⟨v, rfl, hb, k⟩ := h
    refine ⟨_, pss_one (ps_if (pt_not (pt_val (pe_call G1 hr rfl T.m_is_rules T.F_is_rules.kp T.b_is_rules .nil pass0 (pa_cons (pv 0) pa_nil)))) (pss_one (ps_raise PySem.F.excBase_ValueError T.er_BadRules.xc rfl T.mC_BadRules raises1 rfl (pa_cons pe_str pa_nil))) pss_nil), ?_⟩
    exact ⟨_, rfl, v, rfl, hb, fun H' s' => ⟨false, rfl, iteT ⟨by decide, k H' s'⟩⟩⟩
theorem x_check_row (T : TX K mg) : FnOk P w K mg base (CX1 P w base) 2 T.f_check_row T.d_check_row ["rules", "row"] (spXRow K T.C_BadRow) := by
  have G1 := ok_letters_of (P := P) (w := w) (base := base) T
  have G2 := ok_is_text_X (P := P) (w := w) (base := base) T
  refine T.F_check_row.ok1 sc_check_row (fun vs H Q E h => ?_) (fun cdv A outer s H vs Q E hr h => ?_)
  · obtain ⟨a, R, v, rfl, _⟩ := h; rfl
  · obtain ⟨a, R, v, rfl, ha, hR, hb, k⟩ := h
    refine ⟨_, pss_one (ps_if (pt_not (pt_val (pe_call G2 hr rfl T.m_is_text_of T.F_is_text_of.kp T.b_is_text_of .nil pass0 (pa_cons (pe_call G1 hr rfl T.m_letters_of T.F_letters_of.kp T.b_letters_of .nil pass0 (pa_cons (pv 0) pa_nil)) (pa_cons (pv 1) pa_nil)))))
      (pss_one (ps_raise PySem.F.excBase_ValueError T.er_BadRow.xc rfl T.mC_BadRow raises1 rfl (pa_cons pe_str pa_nil))) pss_nil), ?_⟩
    exact ⟨_, rfl, a, _, rfl, ha, by rw [List.length_map]; exact hR.top, _, rfl, lets R.length, v, false, by rw [List.length_map]; rfl, sgn_letsX hR.top, hb, fun H' s' => ⟨false, rfl, iteT ⟨by decide, k H' s'⟩⟩⟩
theorem x_check_letter (T : TX K mg) : FnOk P w K mg base (CX1 P w base) 2 T.f_check_letter T.d_check_letter ["rules", "letter"] (spXLetter K T.C_BadLetter) := by
  have G1 := ok_is_text_X (P := P) (w := w) (base := base) T
  have G2 := ok_letters_of (P := P) (w := w) (base := base) T
  refine T.F_check_letter.ok1 sc_check_letter (fun vs H Q E h => ?_) (fun cdv A outer s H vs Q E hr h => ?_)
  · obtain ⟨a, R, v, rfl, _⟩ := h; rfl
  · obtain ⟨a, R, v, rfl, ha, hR, hb, k⟩ := h
    refine ⟨_, pss_one (ps_if (PW.pt (pw_or (pt_not (pt_val (pe_call G1 hr rfl T.m_is_text_of T.F_is_text_of.kp T.b_is_text_of .nil pass0 (pa_cons (pe_call G2 hr rfl T.m_letters_of T.F_letters_of.kp T.b_letters_of .nil pass0 (pa_cons (pv 0) pa_nil)) (pa_cons (pv 1) pa_nil)))))
      (pw_or1 (pt_cmpR op_ne (pe_callB call_lenSS rfl T.n_len PySem.boot_len (pa_cons (pv 1) pa_nil)) pe_int (nomark _)))))
      (pss_one (ps_raise PySem.F.excBase_ValueError T.er_BadLetter.xc rfl T.mC_BadLetter raises1 rfl (pa_cons pe_str pa_nil))) pss_nil), ?_⟩
    cases hb with
    | ans _ h => exact ⟨_, rfl, a, _, rfl, ha, by rw [List.length_map]; exact hR.top, _, rfl, lets R.length, v, false, by rw [List.length_map]; rfl, sgn_letsX hR.top, h, fun H' s' => ⟨false, rfl, iteT (iteT ⟨by decide, k H' s'⟩)⟩⟩
    | many z h l n hz =>
      refine ⟨_, rfl, a, _, rfl, ha, by rw [List.length_map]; exact hR.top, _, rfl, lets R.length, sv z, decide (∀ c ∈ z, c ∈ lets R.length), by rw [List.length_map]; rfl, sgn_letsX hR.top, .text z h, fun H' s' => ?_⟩
      rw [decide_eq_true l]
      refine ⟨true, rfl, iteF ⟨_, rfl, tx z, rfl, by rw [tx_len]; exact hz, rfl, true, ?_, iteT ⟨by decide, k H' s'⟩⟩⟩
      show V.bl (!decide (V.int ((tx z).length : Int) = V.int 1)) = V.bl true
      rw [decide_eq_false fun e => n (by rw [tx_len] at e; injection e with e; omega)]
      rfl
theorem x_check_times (T : TX K mg) : FnOk P w K mg base (CX1 P w base) 2 T.f_check_times T.d_check_times ["times"] (spXTimes K T.C_BadTimes) := by
  have G1 := ok_not_number (P := P) (w := w) (base := base) T
  refine T.F_check_times.ok1 sc_check_times (fun vs H Q E h => ?_) (fun cdv A outer s H vs Q E hr h => ?_)
  · obtain ⟨v, rfl, _⟩ := h; rfl
  · obtain ⟨v, rfl, hb, k⟩ := h
    obtain ⟨u, hu⟩ := T.c_MOST_TIMES
    refine ⟨_, pss_one (ps_if (pt_not (pt_val (pe_call G1 hr rfl T.m_is_number_up_to T.F_is_number_up_to.kp T.b_is_number_up_to .nil pass0 (pa_cons (pgl_int rfl hu) (pa_cons (pv 0) pa_nil))))) (pss_one (ps_raise PySem.F.excBase_ValueError T.er_BadTimes.xc rfl T.mC_BadTimes raises1 rfl (pa_cons pe_str pa_nil))) pss_nil), ?_⟩
    exact ⟨_, rfl, 300, v, rfl, hb, ⟨false, rfl, iteT ⟨by decide, k H (Same.refl H)⟩⟩⟩
theorem x_check_place (T : TX K mg) : FnOk P w K mg base (CX1 P w base) 2 T.f_check_place T.d_check_place ["place", "last"] (spXPlace K T.C_BadPlace) := by
  have G1 := ok_not_number (P := P) (w := w) (base := base) T
  refine T.F_check_place.ok1 sc_check_place (fun vs H Q E h => ?_) (fun cdv A outer s H vs Q E hr h => ?_)
  · obtain ⟨m, v, rfl, _⟩ := h; rfl
  · obtain ⟨m, v, rfl, hb, k⟩ := h
    refine ⟨_, pss_one (ps_if (pt_not (pt_val (pe_call G1 hr rfl T.m_is_number_up_to T.F_is_number_up_to.kp T.b_is_number_up_to .nil pass0 (pa_cons (pv 1) (pa_cons (pv 0) pa_nil))))) (pss_one (ps_raise PySem.F.excBase_ValueError T.er_BadPlace.xc rfl T.mC_BadPlace raises1 rfl (pa_cons pe_str pa_nil))) pss_nil), ?_⟩
    exact ⟨_, rfl, _, rfl, m, v, rfl, hb, ⟨false, rfl, iteT ⟨by decide, k H (Same.refl H)⟩⟩⟩
noncomputable def spXLen (C : Addr) : Sp := fun vs H Q E => ∃ n : Int, vs = [.int n] /\ (n <= 100000 -> Q .non H) /\ (100000 < n -> E (.ref C) none H)
theorem x_check_length (T : TX K mg) : FnOk P w K mg base (CX1 P w base) 1 T.f_check_length T.d_check_length ["many"] (spXLen T.C_TooLong) := by
  refine T.F_check_length.ok1 sc_check_length (fun vs H Q E h => ?_) (fun cdv A outer s H vs Q E hr h => ?_)
  · obtain ⟨n, rfl, _⟩ := h; rfl
  · obtain ⟨n, rfl, k1, k2⟩ := h
    obtain ⟨u, hu⟩ := T.c_MOST_LETTERS
    refine ⟨_, pss_one (ps_if (pt_cmpR op_gt (pv 0) (pgl_int rfl hu) (nomark _)) (pss_one (ps_raise PySem.F.excBase_ValueError T.er_TooLong.xc rfl T.mC_TooLong raises1 rfl (pa_cons pe_str pa_nil))) pss_nil), ?_⟩
    by_cases hn : 100000 < n
    · refine ⟨_, rfl, _, _, rfl, rfl, true, ?_, iteT ⟨by decide, k2 hn⟩⟩
      show V.bl (decide (100000 < n)) = V.bl true
      rw [decide_eq_true hn]
    · refine ⟨_, rfl, _, _, rfl, rfl, false, ?_, iteF (k1 (by omega))⟩
      show V.bl (decide (100000 < n)) = V.bl false
      rw [decide_eq_false hn]
theorem x_check_asked (T : TX K mg) : FnOk P w K mg base (CX1 P w base) 4 T.f_check_asked T.d_check_asked ["rules", "row", "times"] (spXAsk K T.C_BadRules T.C_BadRow T.C_BadTimes) := by
  have G1 := ok_check_rules (P := P) (w := w) (base := base) T
  have G2 := ok_check_row (P := P) (w := w) (base := base) T
  have Y1 := x_check_rules (P := P) (w := w) (base := base) T
  have Y2 := x_check_row (P := P) (w := w) (base := base) T
  have Y3 := x_check_times (P := P) (w := w) (base := base) T
  refine T.F_check_asked.ok1 sc_check_asked (fun vs H Q E h => ?_) (fun cdv A outer s H vs Q E hr h => ?_)
  · obtain ⟨v, r, t, C, rfl, _⟩ := h; rfl
  · obtain ⟨v, r, t, C, rfl, hb, k⟩ := h
    have hr2 := hr.mono (show 2 <= 3 by decide)
    cases hb with
    | rules _ _ _ h =>
      refine ⟨_, pss_cons (ps_expr (pe_call Y1 hr rfl T.m_check_rules T.F_check_rules.kp T.b_check_rules .nil (pass1 fun _ _ h => h) (pa_cons (pv 0) pa_nil))) pss_never, ?_⟩
      exact ⟨_, rfl, v, rfl, h, k⟩
    | row a R _ _ ha hR h =>
      refine ⟨_, pss_cons (ps_expr (pe_call G1 hr rfl T.m_check_rules T.F_check_rules.kp T.b_check_rules .nil pass0 (pa_cons (pv 0) pa_nil)))
        (pss_cons (ps_expr (pe_call Y2 hr2 rfl T.m_check_row T.F_check_row.kp T.b_check_row .nil (pass1 fun _ _ h => h) (pa_cons (pv 0) (pa_cons (pv 1) pa_nil)))) pss_never), ?_⟩
      refine ⟨_, rfl, a, R, rfl, ha, hR, fun H1 s1 => ?_⟩
      exact ⟨_, rfl, _, rfl, a, R, r, rfl, s1 _ _ ha, hR, h.same s1, fun H2 s2 => k H2 (s1.trans s2)⟩
    | times a R x _ ha hR hx h =>
      refine ⟨_, pss_cons (ps_expr (pe_call G1 hr rfl T.m_check_rules T.F_check_rules.kp T.b_check_rules .nil pass0 (pa_cons (pv 0) pa_nil)))
        (pss_cons (ps_expr (pe_call G2 hr2 rfl T.m_check_row T.F_check_row.kp T.b_check_row .nil pass0 (pa_cons (pv 0) (pa_cons (pv 1) pa_nil))))
        (pss_one (ps_expr (pe_call Y3 hr2 rfl T.m_check_times T.F_check_times.kp T.b_check_times .nil (pass1 fun _ _ h => h) (pa_cons (pv 2) pa_nil))))), ?_⟩
      refine ⟨_, rfl, a, R, rfl, ha, hR, fun H1 s1 => ?_⟩
      refine ⟨_, rfl, _, rfl, a, R, x, rfl, s1 _ _ ha, hR, hx, fun H2 s2 => ?_⟩
      exact ⟨_, rfl, t, rfl, h.same (s1.trans s2), fun H3 s3 => k H3 ((s1.trans s2).trans s3)⟩
theorem x_grown (T : TX K mg) : FnOk P w K mg base (CX1 P w base) 5 T.f_grown T.d_grown ["rules", "row", "times"] (spXAsk K T.C_BadRules T.C_BadRow T.C_BadTimes) := by
  have Y1 := x_check_asked (P := P) (w := w) (base := base) T
  refine T.F_grown.ok1 sc_grown (fun vs H Q E h => ?_) (fun cdv A outer s H vs Q E hr h => ?_)
  · obtain ⟨v, r, t, C, rfl, _⟩ := h; rfl
  · obtain ⟨v, r, t, C, rfl, hb, k⟩ := h
    exact ⟨_, pss_cons (ps_expr (pe_call Y1 hr rfl T.m_check_asked T.F_check_asked.kp T.b_check_asked .nil (pass1 fun _ _ h => h) (pa_cons (pv 0) (pa_cons (pv 1) (pa_cons (pv 2) pa_nil))))) pss_never, _, rfl, _, rfl, _, rfl, v, r, t, C, rfl, hb, k⟩
theorem x_counts (T : TX K mg) : FnOk P w K mg base (CX1 P w base) 5 T.f_counts T.d_counts ["rules", "row", "times"] (spXAsk K T.C_BadRules T.C_BadRow T.C_BadTimes) := by
  have Y1 := x_check_asked (P := P) (w := w) (base := base) T
  refine T.F_counts.ok1 sc_counts (fun vs H Q E h => ?_) (fun cdv A outer s H vs Q E hr h => ?_)
  · obtain ⟨v, r, t, C, rfl, _⟩ := h; rfl
  · obtain ⟨v, r, t, C, rfl, hb, k⟩ := h
    exact ⟨_, pss_cons (ps_expr (pe_call Y1 hr rfl T.m_check_asked T.F_check_asked.kp T.b_check_asked .nil (pass1 fun _ _ h => h) (pa_cons (pv 0) (pa_cons (pv 1) (pa_cons (pv 2) pa_nil))))) pss_never, _, rfl, _, rfl, _, rfl, v, r, t, C, rfl, hb, k⟩
theorem x_length (T : TX K mg) : FnOk P w K mg base (CX1 P w base) 6 T.f_length T.d_length ["rules", "row", "times"] (spXAsk K T.C_BadRules T.C_BadRow T.C_BadTimes) := by
  have Y1 := x_counts (P := P) (w := w) (base := base) T
  refine T.F_length.ok1 sc_length (fun vs H Q E h => ?_) (fun cdv A outer s H vs Q E hr h => ?_)
  · obtain ⟨v, r, t, C, rfl, _⟩ := h; rfl
  · obtain ⟨v, r, t, C, rfl, hb, k⟩ := h
    exact ⟨_, pss_one (ps_ret (pe_callB (call_sumKK K) rfl T.n_sum boot_sum_ (pa_cons (pe_call Y1 hr rfl T.m_counts T.F_counts.kp T.b_counts .nil (pass1 fun _ _ h => h) (pa_cons (pv 0) (pa_cons (pv 1) (pa_cons (pv 2) pa_nil)))) pa_nil))), _, rfl, _, rfl, _, rfl, v, r, t, C, rfl, hb, k⟩
theorem x_letter (T : TX K mg) : FnOk P w K mg base (CX1 P w base) 7 T.f_letter T.d_letter ["rules", "row", "times", "place"] (spXAsk4 K T.C_BadRules T.C_BadRow T.C_BadTimes) := by
  have Y1 := x_length (P := P) (w := w) (base := base) T
  have Y2 := ok_check_place (P := P) (w := w) (base := base) T
  refine T.F_letter.ok1 sc_letter (fun vs H Q E h => ?_) (fun cdv A outer s H vs Q E hr h => ?_)
  · obtain ⟨v, r, t, p, C, rfl, _⟩ := h; rfl
  · obtain ⟨v, r, t, p, C, rfl, hb, k⟩ := h
    exact ⟨_, pss_cons (ps_expr (pe_call Y2 (hr.mono (by decide)) rfl T.m_check_place T.F_check_place.kp T.b_check_place .nil pass0 (pa_cons (pv 3) (pa_cons (pe_op op_sub (pe_call Y1 hr rfl T.m_length T.F_length.kp T.b_length .nil (pass1 fun _ _ h => h) (pa_cons (pv 0) (pa_cons (pv 1) (pa_cons (pv 2) pa_nil)))) pe_int) pa_nil)))) pss_never, _, rfl, _, rfl, _, rfl, _, rfl, v, r, t, C, rfl, hb, k⟩
theorem x_first (T : TX K mg) : FnOk P w K mg base (CX1 P w base) 6 T.f_first T.d_first ["rules", "row", "times", "many"] (spXAsk4 K T.C_BadRules T.C_BadRow T.C_BadTimes) := by
  have Y1 := x_counts (P := P) (w := w) (base := base) T
  refine T.F_first.ok1 sc_first (fun vs H Q E h => ?_) (fun cdv A outer s H vs Q E hr h => ?_)
  · obtain ⟨v, r, t, p, C, rfl, _⟩ := h; rfl
  · obtain ⟨v, r, t, p, C, rfl, hb, k⟩ := h
    exact ⟨_, pss_cons (ps_set (i := 4) sc_first.nd rfl (Or.inl rfl) (pe_call Y1 hr rfl T.m_counts T.F_counts.kp T.b_counts .nil (pass1 fun _ _ h => h) (pa_cons (pv 0) (pa_cons (pv 1) (pa_cons (pv 2) pa_nil))))) pss_never, _, rfl, _, rfl, _, rfl, v, r, t, C, rfl, hb, k⟩
theorem sc_behind : FnScope ["one", "other", "letters", "sizes", "text"] ["one", "other"] (defScope s_behind) := ⟨rfl, rfl, rfl, by decide +kernel, rfl, by decide +kernel, by decide +kernel⟩
theorem sc_lengths : FnScope ["rules", "one", "other", "times"] ["rules", "one", "other"] (defScope s_lengths) := ⟨rfl, rfl, rfl, by decide +kernel, rfl, by decide +kernel, by decide +kernel⟩
inductive SpX3R (K : PySem.W.Frag) (C : Addr) (vs : List V) (H : Hp) (E : XK) : Prop
  | mk (v r t : V) (h0 : vs = [v, r, t]) (h1 : BadRu K H v) (h2 : anyX H E C) : SpX3R K C vs H E
noncomputable def spX3R (K : PySem.W.Frag) (C : Addr) : Sp := fun vs H _ E => SpX3R K C vs H E
theorem x_comes_rules (T : TX K mg) : FnOk P w K mg base (CX1 P w base) 4 T.f_comes T.d_comes ["rules", "one", "other"] (spX3R K T.C_BadRules) := by
  have Y1 := x_check_rules (P := P) (w := w) (base := base) T
  refine T.F_comes.ok1 sc_comes (fun vs H Q E h => ?_) (fun cdv A outer s H vs Q E hr h => ?_)
  · obtain ⟨v, r, t, rfl, _⟩ := h; rfl
  · obtain ⟨v, r, t, rfl, hb, k⟩ := h
    exact ⟨_, pss_cons (ps_expr (pe_call Y1 hr rfl T.m_check_rules T.F_check_rules.kp T.b_check_rules .nil (pass1 fun _ _ h => h) (pa_cons (pv 0) pa_nil))) pss_never, _, rfl, v, rfl, hb, k⟩
theorem x_lengths_rules (T : TX K mg) : FnOk P w K mg base (CX1 P w base) 4 T.f_lengths T.d_lengths ["rules", "one", "other"] (spX3R K T.C_BadRules) := by
  have Y1 := x_check_rules (P := P) (w := w) (base := base) T
  refine T.F_lengths.ok1 sc_lengths (fun vs H Q E h => ?_) (fun cdv A outer s H vs Q E hr h => ?_)
  · obtain ⟨v, r, t, rfl, _⟩ := h; rfl
  · obtain ⟨v, r, t, rfl, hb, k⟩ := h
    exact ⟨_, pss_cons (ps_expr (pe_call Y1 hr rfl T.m_check_rules T.F_check_rules.kp T.b_check_rules .nil (pass1 fun _ _ h => h) (pa_cons (pv 0) pa_nil))) pss_never, _, rfl, v, rfl, hb, k⟩
inductive SpXLetters (K : PySem.W.Frag) (C : Addr) (vs : List V) (H : Hp) (E : XK) : Prop
  | one (a : Addr) (R : Ru) (v u : V) (h0 : vs = [.ref a, v, u]) (h1 : RuAt H a R) (h2 : OkRu R) (h3 : BadLet K H (lets R.length) v) (h4 : anyX H E C) : SpXLetters K C vs H E
  | two (a : Addr) (R : Ru) (c : Nat) (u : V) (h0 : vs = [.ref a, sv [c], u]) (h1 : RuAt H a R) (h2 : OkRu R) (hc : Let R.length c) (h3 : BadLet K H (lets R.length) u) (h4 : anyX H E C) : SpXLetters K C vs H E
noncomputable def spXLetters (K : PySem.W.Frag) (C : Addr) : Sp := fun vs H _ E => SpXLetters K C vs H E
theorem x_comes_letter (T : TX K mg) : FnOk P w K mg base (CX1 P w base) 4 T.f_comes T.d_comes ["rules", "one", "other"] (spXLetters K T.C_BadLetter) := by
  have G1 := ok_check_rules (P := P) (w := w) (base := base) T
  have G2 := ok_check_letter (P := P) (w := w) (base := base) T
  have Y2 := x_check_letter (P := P) (w := w) (base := base) T
  refine T.F_comes.ok1 sc_comes (fun vs H Q E h => ?_) (fun cdv A outer s H vs Q E hr h => ?_)
  · obtain ⟨a, R, v, u, rfl, _⟩ | ⟨a, R, c, u, rfl, _⟩ := h <;> rfl
  · have hr2 := hr.mono (show 2 <= 3 by decide)
    obtain ⟨a, R, v, u, rfl, ha, hR, hb, k⟩ | ⟨a, R, c, u, rfl, ha, hR, hc, hb, k⟩ := h
    · refine ⟨_, pss_cons (ps_expr (pe_call G1 hr rfl T.m_check_rules T.F_check_rules.kp T.b_check_rules .nil pass0 (pa_cons (pv 0) pa_nil)))
        (pss_cons (ps_expr (pe_call Y2 hr2 rfl T.m_check_letter T.F_check_letter.kp T.b_check_letter .nil (pass1 fun _ _ h => h) (pa_cons (pv 0) (pa_cons (pv 1) pa_nil)))) pss_never), ?_⟩
      refine ⟨_, rfl, a, R, rfl, ha, hR, fun H1 s1 => ?_⟩
      exact ⟨_, rfl, _, rfl, a, R, v, rfl, s1 _ _ ha, hR, hb.same s1, fun H2 s2 => k H2 (s1.trans s2)⟩
    · refine ⟨_, pss_cons (ps_expr (pe_call G1 hr rfl T.m_check_rules T.F_check_rules.kp T.b_check_rules .nil pass0 (pa_cons (pv 0) pa_nil)))
        (pss_cons (ps_expr (pe_call G2 hr2 rfl T.m_check_letter T.F_check_letter.kp T.b_check_letter .nil pass0 (pa_cons (pv 0) (pa_cons (pv 1) pa_nil))))
        (pss_cons (ps_expr (pe_call Y2 hr2 rfl T.m_check_letter T.F_check_letter.kp T.b_check_letter .nil (pass1 fun _ _ h => h) (pa_cons (pv 0) (pa_cons (pv 2) pa_nil)))) pss_never)), ?_⟩
      refine ⟨_, rfl, a, R, rfl, ha, hR, fun H1 s1 => ⟨_, rfl, _, rfl, a, R, c, rfl, s1 _ _ ha, hR, hc, fun H2 s2 => ?_⟩⟩
      exact ⟨_, rfl, _, rfl, a, R, u, rfl, s2 _ _ (s1 _ _ ha), hR, hb.same (s1.trans s2), fun H3 s3 => k H3 ((s1.trans s2).trans s3)⟩
inductive SpXRows (K : PySem.W.Frag) (C : Addr) (vs : List V) (H : Hp) (E : XK) : Prop
  | one (a : Addr) (R : Ru) (v u : V) (h0 : vs = [.ref a, v, u]) (h1 : RuAt H a R) (h2 : OkRu R) (h3 : Ans K H (lets R.length) v false) (h4 : anyX H E C) : SpXRows K C vs H E
  | two (a : Addr) (R : Ru) (x : Tx) (u : V) (h0 : vs = [.ref a, sv x, u]) (h1 : RuAt H a R) (h2 : OkRu R) (hc : OkTx R.length x) (h3 : Ans K H (lets R.length) u false) (h4 : anyX H E C) : SpXRows K C vs H E
noncomputable def spXRows (K : PySem.W.Frag) (C : Addr) : Sp := fun vs H _ E => SpXRows K C vs H E
theorem x_lengths_row (T : TX K mg) : FnOk P w K mg base (CX1 P w base) 4 T.f_lengths T.d_lengths ["rules", "one", "other"] (spXRows K T.C_BadRow) := by
  have G1 := ok_check_rules (P := P) (w := w) (base := base) T
  have G2 := ok_check_row (P := P) (w := w) (base := base) T
  have Y2 := x_check_row (P := P) (w := w) (base := base) T
  refine T.F_lengths.ok1 sc_lengths (fun vs H Q E h => ?_) (fun cdv A outer s H vs Q E hr h => ?_)
  · obtain ⟨a, R, v, u, rfl, _⟩ | ⟨a, R, c, u, rfl, _⟩ := h <;> rfl
  · have hr2 := hr.mono (show 2 <= 3 by decide)
    obtain ⟨a, R, v, u, rfl, ha, hR, hb, k⟩ | ⟨a, R, c, u, rfl, ha, hR, hc, hb, k⟩ := h
    · refine ⟨_, pss_cons (ps_expr (pe_call G1 hr rfl T.m_check_rules T.F_check_rules.kp T.b_check_rules .nil pass0 (pa_cons (pv 0) pa_nil)))
        (pss_cons (ps_expr (pe_call Y2 hr2 rfl T.m_check_row T.F_check_row.kp T.b_check_row .nil (pass1 fun _ _ h => h) (pa_cons (pv 0) (pa_cons (pv 1) pa_nil)))) pss_never), ?_⟩
      refine ⟨_, rfl, a, R, rfl, ha, hR, fun H1 s1 => ?_⟩
      exact ⟨_, rfl, _, rfl, a, R, v, rfl, s1 _ _ ha, hR, hb.same s1, fun H2 s2 => k H2 (s1.trans s2)⟩
    · refine ⟨_, pss_cons (ps_expr (pe_call G1 hr rfl T.m_check_rules T.F_check_rules.kp T.b_check_rules .nil pass0 (pa_cons (pv 0) pa_nil)))
        (pss_cons (ps_expr (pe_call G2 hr2 rfl T.m_check_row T.F_check_row.kp T.b_check_row .nil pass0 (pa_cons (pv 0) (pa_cons (pv 1) pa_nil))))
        (pss_cons (ps_expr (pe_call Y2 hr2 rfl T.m_check_row T.F_check_row.kp T.b_check_row .nil (pass1 fun _ _ h => h) (pa_cons (pv 0) (pa_cons (pv 2) pa_nil)))) pss_never)), ?_⟩
      refine ⟨_, rfl, a, R, rfl, ha, hR, fun H1 s1 => ⟨_, rfl, _, rfl, a, R, c, rfl, s1 _ _ ha, hR, hc, fun H2 s2 => ?_⟩⟩
      exact ⟨_, rfl, _, rfl, a, R, u, rfl, s2 _ _ (s1 _ _ ha), hR, hb.same (s1.trans s2), fun H3 s3 => k H3 ((s1.trans s2).trans s3)⟩
inductive SpXBehind (K : PySem.W.Frag) (CR CO CL : Addr) (vs : List V) (H : Hp) (E : XK) : Prop
  | one (v u : V) (h0 : vs = [v, u]) (h1 : BadRu K H v) (h4 : anyX H E CR) : SpXBehind K CR CO CL vs H E
  | two (a : Addr) (R : Ru) (u : V) (h0 : vs = [.ref a, u]) (h1 : RuAt H a R) (h2 : OkRu R) (h3 : BadRu K H u) (h4 : anyX H E CR) : SpXBehind K CR CO CL vs H E
  | other (a b : Addr) (R S : Ru) (h0 : vs = [.ref a, .ref b]) (h1 : RuAt H a R) (h2 : OkRu R) (h3 : RuAt H b S) (h5 : OkRu S) (h6 : R.length ≠ S.length) (h4 : anyX H E CO) : SpXBehind K CR CO CL vs H E
  | long (a b : Addr) (R S : Ru) (h0 : vs = [.ref a, .ref b]) (h1 : RuAt H a R) (h2 : OkRu R) (h3 : RuAt H b S) (h5 : OkRu S) (h6 : S.length = R.length) (h7 : ∀ r ∈ R, r.length <= 100000) (h8 : ∀ r ∈ S, r.length <= 100000)
      (h9 : ∃ r ∈ R, 100000 < (once S r).length) (h4 : anyX H E CL) : SpXBehind K CR CO CL vs H E
noncomputable def spXBehind (K : PySem.W.Frag) (CR CO CL : Addr) : Sp := fun vs H _ E => SpXBehind K CR CO CL vs H E
theorem x_behind (T : TX K mg) : FnOk P w K mg base (CX1 P w base) 4 T.f_behind T.d_behind ["one", "other"] (spXBehind K T.C_BadRules T.C_OtherRules T.C_TooLong) := by
  have G1 := ok_check_rules (P := P) (w := w) (base := base) T
  have Y1 := x_check_rules (P := P) (w := w) (base := base) T
  have G2 := ok_letters_of (P := P) (w := w) (base := base) T
  have G3 := ok_counted (P := P) (w := w) (base := base) T
  have G4 := ok_weighed (P := P) (w := w) (base := base) T
  have Y5 := x_check_length (P := P) (w := w) (base := base) T
  refine T.F_behind.ok1 sc_behind (fun vs H Q E h => ?_) (fun cdv A outer s H vs Q E hr h => ?_)
  · obtain ⟨_, _, rfl, _⟩ | ⟨_, _, _, rfl, _⟩ | ⟨_, _, _, _, rfl, _⟩ | ⟨_, _, _, _, rfl, _⟩ := h <;> rfl
  · have hr1 := hr.mono (show 1 <= 3 by decide)
    obtain ⟨v, u, rfl, hb, k⟩ | ⟨a, R, u, rfl, ha, hR, hb, k⟩ | ⟨a, b, R, S, rfl, ha, hR, hb, hS, hl, k⟩ | ⟨a, b, R, S, rfl, ha, hR, hb, hS, hl, h1, h2, h3, k⟩ := h
    · exact ⟨_, pss_cons (ps_expr (pe_call Y1 hr rfl T.m_check_rules T.F_check_rules.kp T.b_check_rules .nil (pass1 fun _ _ h => h) (pa_cons (pv 0) pa_nil))) pss_never, _, rfl, v, rfl, hb, k⟩
    · refine ⟨_, pss_cons (ps_expr (pe_call G1 hr rfl T.m_check_rules T.F_check_rules.kp T.b_check_rules .nil pass0 (pa_cons (pv 0) pa_nil)))
        (pss_cons (ps_expr (pe_call Y1 hr rfl T.m_check_rules T.F_check_rules.kp T.b_check_rules .nil (pass1 fun _ _ h => h) (pa_cons (pv 1) pa_nil))) pss_never), ?_⟩
      exact ⟨_, rfl, a, R, rfl, ha, hR, fun H1 s1 => ⟨_, rfl, u, rfl, hb.same s1, fun H2 s2 => k H2 (s1.trans s2)⟩⟩
    · refine ⟨_, pss_cons (ps_expr (pe_call G1 hr rfl T.m_check_rules T.F_check_rules.kp T.b_check_rules .nil pass0 (pa_cons (pv 0) pa_nil)))
        (pss_cons (ps_expr (pe_call G1 hr rfl T.m_check_rules T.F_check_rules.kp T.b_check_rules .nil pass0 (pa_cons (pv 1) pa_nil)))
        (pss_cons (ps_if (pt_cmpR op_ne (pe_callB (call_lenKK K) rfl T.n_len PySem.boot_len (pa_cons (pv 0) pa_nil)) (pe_callB (call_lenKK K) rfl T.n_len PySem.boot_len (pa_cons (pv 1) pa_nil)) (nomark _))
          (pss_one (ps_raise PySem.F.excBase_ValueError T.er_OtherRules.xc rfl T.mC_OtherRules raises1 rfl (pa_cons pe_str pa_nil))) pss_nil) pss_never)), ?_⟩
      refine ⟨_, rfl, a, R, rfl, ha, hR, fun H1 s1 => ⟨_, rfl, b, S, rfl, s1 _ _ hb, hS, fun H2 s2 => ?_⟩⟩
      refine ⟨_, rfl, a, _, rfl, .inl (SqL.of (s2 _ _ (s1 _ _ ha))), _, rfl, b, _, rfl, .inl (SqL.of (s2 _ _ (s1 _ _ hb))), rfl, true, ?_, iteT ⟨by decide, k H2 (s1.trans s2)⟩⟩
      show V.bl (!decide (V.int ((svs R).length : Int) = V.int ((svs S).length : Int))) = V.bl true
      rw [decide_eq_false fun e => hl (by rw [List.length_map, List.length_map] at e; injection e with e; omega)]
      rfl
    · refine ⟨_, pss_cons (ps_expr (pe_call G1 hr rfl T.m_check_rules T.F_check_rules.kp T.b_check_rules .nil pass0 (pa_cons (pv 0) pa_nil)))
        (pss_cons (ps_expr (pe_call G1 hr rfl T.m_check_rules T.F_check_rules.kp T.b_check_rules .nil pass0 (pa_cons (pv 1) pa_nil)))
        (pss_cons (ps_if (pt_cmpR op_ne (pe_callB (call_lenKK K) rfl T.n_len PySem.boot_len (pa_cons (pv 0) pa_nil)) (pe_callB (call_lenKK K) rfl T.n_len PySem.boot_len (pa_cons (pv 1) pa_nil)) (nomark _)) pss_never pss_nil)
        (pss_cons (ps_set (i := 2) sc_behind.nd rfl (Or.inl rfl) (pe_call G2 hr1 rfl T.m_letters_of T.F_letters_of.kp T.b_letters_of .nil pass0 (pa_cons (pv 1) pa_nil)))
        (pss_cons (ps_lc rfl sc_behind.nd (i := 3) rfl rfl (cs0 (ns := ["text"])) (pi_listK K (pv 1)) (fun _ _ _ _ _ => pgc 0) (fun _ _ _ _ _ => pif_nil) (fun _ _ _ _ _ => pe_callB call_lenSS rfl T.n_len PySem.boot_len (pa_cons (pv 0) pa_nil)))
        (pss_cons (ps_for PassesOwn.leaving rfl (pi_listK K (pv 0)) (pg_name (i := 4) sc_behind.nd rfl (Or.inl rfl))
          (pss_one (ps_expr (pe_call Y5 hr1 rfl T.m_check_length T.F_check_length.kp T.b_check_length .nil (pass1 fun _ _ h => h) (pa_cons (pe_call G4 hr1 rfl T.m_weighed T.F_weighed.kp T.b_weighed .nil pass0 (pa_cons (pe_call G3 hr1 rfl T.m_counted T.F_counted.kp T.b_counted .nil pass0 (pa_cons (pv 2) (pa_cons (pv 4) pa_nil))) (pa_cons (pv 3) pa_nil))) pa_nil)))))
        pss_never))))), ?_⟩
      have t1 := hR.top
      have t2 := hS.top
      refine ⟨_, rfl, a, R, rfl, ha, hR, fun H1 s1 => ⟨_, rfl, b, S, rfl, s1 _ _ hb, hS, fun H2 s2 => ?_⟩⟩
      have ha2 := s2 _ _ (s1 _ _ ha)
      have hb2 := s2 _ _ (s1 _ _ hb)
      refine ⟨_, rfl, a, _, rfl, .inl (SqL.of ha2), _, rfl, b, _, rfl, .inl (SqL.of hb2), rfl, _, rfl, ?_⟩
      refine iteNS (by rw [List.length_map, List.length_map, hl]) ?_
      refine ⟨_, rfl, b, _, rfl, hb2, by rw [List.length_map]; exact t2, ?_⟩
      rw [List.length_map]
      refine ⟨_, rfl, b, rfl, ⟨_, SqL.of hb2⟩, ?_⟩
      refine lcb_map (zs := S) (ι := sv) (f := fun r => V.int (r.length : Nat)) (wk_list (SqL.of hb2)) rfl (small1000 (by omega)) (fun i r H' Kt hz hs kk => ?_) fun D H3 s3 hD hD3 => ?_
      · refine ⟨_, rfl, tx r, rfl, tx_le (h2 r (List.mem_of_getElem? hz)) (Nat.le_refl _), ?_⟩
        rw [tx_len]
        exact kk H' (Same.refl _)
      have hD3' : IntsAt H3 D (S.map fun r => (r.length : Int)) := by
        show H3 D = _
        rw [hD3]
        unfold ivs
        rw [List.map_map]
        rfl
      have ha3 := s3 _ _ ha2
      refine ⟨_, rfl, a, rfl, ⟨_, SqL.of ha3⟩, for_list (K := K) (a := a) (xs := svs R) (fun i σ H4 => ∃ o : Option V, σ = [some (.ref a), some (.ref b), some (sv (lets S.length)), some (.ref D), o] /\ Same H3 H4 /\ ∀ j r, j < i -> R[j]? = some r -> (once S r).length <= 100000) ⟨none, rfl, Same.refl _, fun j r hj => absurd hj (by omega)⟩ (fun i σ H4 _ ⟨_, _, s4, _⟩ => SqL.of (s4 _ _ ha3)) ?_ ?_⟩
      · rintro i y σ H4 hy ⟨o, rfl, s4, hsh⟩
        rw [List.getElem?_map] at hy
        obtain ⟨r, er, rfl⟩ := Option.map_eq_some_iff.mp hy
        have hrm := List.mem_of_getElem? er
        have hrx : OkTx S.length r := by rw [hl]; exact hR.all r hrm
        refine ⟨_, rfl, _, rfl, S.length, r, rfl, t2, fun p H5 s5 hp hp5 => ?_⟩
        refine ⟨_, rfl, p, D, cnt S.length r, S.map fun r => (r.length : Int), rfl, hp5, s5 _ _ (s4 _ _ hD3'), by rw [cnt_length, List.length_map], by rw [cnt_length]; omega, fun z hz => ?_, fun H6 s6 => ?_⟩
        · left
          obtain ⟨c, _, hc⟩ := List.mem_map.mp (List.of_mem_zip hz).1
          rw [<- hc]
          have q1 : r.count c <= r.length := List.count_le_length
          have q2 := h1 r hrm
          omega
        · rw [weigh_lens hrx]
          refine ⟨_, rfl, fun hle => ⟨_, rfl, (s4.trans s5).trans s6, fun j r' hj e' => ?_⟩, fun _ => k _ ((((s1.trans s2).trans s3).trans ((s4.trans s5).trans s6)))⟩
          rcases Nat.lt_succ_iff_lt_or_eq.mp hj with hj | hj
          · exact hsh j r' hj e'
          · subst hj
            rw [er] at e'; cases e'
            omega
      · rintro σ H4 ⟨o, rfl, s4, hsh⟩
        obtain ⟨r, hr', hlong⟩ := h3
        obtain ⟨j, hj, e⟩ := List.getElem_of_mem hr'
        have := hsh j r (by rw [List.length_map]; exact hj) (by rw [List.getElem?_eq_getElem hj, e])
        omega
inductive SpXLong (C : Addr) (vs : List V) (H : Hp) (E : XK) : Prop
  | mk (a : Addr) (R : Ru) (x : Tx) (t : Nat) (h0 : vs = [.ref a, sv x, .int (t : Nat)]) (h1 : RuAt H a R) (h2 : OkRu R) (h3 : ∀ r ∈ R, r.length <= 100000) (h4 : OkTx R.length x) (h5 : t <= 300) (h6 : ∃ k, 1 <= k /\ k <= t /\ 100000 < (grow R k x).length) (h7 : anyX H E C) : SpXLong C vs H E
noncomputable def spXLong (C : Addr) : Sp := fun vs H _ E => SpXLong C vs H E
theorem x_check_way (T : TX K mg) : FnOk P w K mg base (CX1 P w base) 3 T.f_check_way T.d_check_way ["rules", "row", "times"] (spXLong T.C_TooLong) := by
  have G1 := ok_letters_of (P := P) (w := w) (base := base) T
  have G2 := ok_counted (P := P) (w := w) (base := base) T
  have G3 := ok_table_of (P := P) (w := w) (base := base) T
  have G4 := ok_held_next (P := P) (w := w) (base := base) T
  have Y5 := x_check_length (P := P) (w := w) (base := base) T
  refine T.F_check_way.ok1 sc_check_way (fun vs H Q E h => ?_) (fun cdv A outer s H vs Q E hr h => ?_)
  · obtain ⟨a, R, x, t, rfl, _⟩ := h; rfl
  · obtain ⟨a, R, x, t, rfl, ha, hR, hb, hx, ht, hlo, k⟩ := h
    have hr1 := hr.mono (show 1 <= 2 by decide)
    refine ⟨_, pss_cons (ps_set (i := 3) sc_check_way.nd rfl (Or.inl rfl) (pe_call G3 hr rfl T.m_table_of T.F_table_of.kp T.b_table_of .nil pass0 (pa_cons (pv 0) pa_nil)))
      (pss_cons (ps_set (i := 4) sc_check_way.nd rfl (Or.inl rfl) (pe_call G2 hr1 rfl T.m_counted T.F_counted.kp T.b_counted .nil pass0 (pa_cons (pe_call G1 hr1 rfl T.m_letters_of T.F_letters_of.kp T.b_letters_of .nil pass0 (pa_cons (pv 0) pa_nil)) (pa_cons (pv 1) pa_nil))))
      (pss_one (ps_for PassesOwn.leaving rfl (pi_range1 rfl T.n_range (pa_cons (pv 2) pa_nil)) (pg_name (i := 5) sc_check_way.nd rfl (Or.inl rfl))
        (pss_cons (ps_set (i := 4) sc_check_way.nd rfl (Or.inl rfl) (pe_call G4 hr1 rfl T.m_held_next T.F_held_next.kp T.b_held_next .nil pass0 (pa_cons (pv 3) (pa_cons (pv 4) pa_nil))))
        (pss_one (ps_expr (pe_call Y5 hr1 rfl T.m_check_length T.F_check_length.kp T.b_check_length .nil (pass1 fun _ _ h => h) (pa_cons (pe_callB (call_sumKK K) rfl T.n_sum boot_sum_ (pa_cons (pv 4) pa_nil)) pa_nil)))))))), ?_⟩
    have h2 := hR.top
    refine ⟨_, rfl, a, R, rfl, ha, h2, fun p H1 s1 hp hT => ?_⟩
    refine ⟨_, rfl, a, _, rfl, s1 _ _ ha, by rw [List.length_map]; exact h2, _, rfl, R.length, x, by rw [List.length_map]; rfl, h2, fun q H2 s2 hq hq2 => ?_⟩
    refine ⟨_, rfl, (t : Int), rfl, by omega, by omega, for_range (lo := 0) (n := (t : Int).toNat) (fun i σ H3 => ∃ (d : Addr) (o : Option V), σ = [some (.ref a), some (sv x), some (.int (t : Nat)), some (.ref p), some (.ref d), o] /\ Same H H3 /\ TabAt H3 p (table R) /\ IntsAt H3 d (cnt R.length (grow R i x)) /\ ∀ j, 1 <= j -> j <= i -> (grow R j x).length <= 100000)
      ⟨q, none, rfl, s1.trans s2, hT.same s2, hq2, fun j h1 h2 => by omega⟩ ?_ ?_⟩
    · rintro i σ H3 hi ⟨d, o, rfl, s3, hT3, hdv, hsh⟩
      refine ⟨_, rfl, _, rfl, p, d, table R, cnt R.length (grow R i x), rfl, hT3, table_sq h2 hb, hdv, by rw [cnt_length, table_length], fun e H4 s4 he he4 => ?_⟩
      rw [hnext_cnt (OkTx.grow hR hx), <- grow_succ'] at he4
      refine ⟨_, rfl, e, _, rfl, rfl, SqL.of he4, _, rfl, fun hle => ⟨e, _, rfl, s3.trans s4, hT3.same s4, he4, fun j h1 h2 => ?_⟩, fun _ => k H4 (s3.trans s4)⟩
      rw [cnt_sum (OkTx.grow hR hx)] at hle
      by_cases hj : j <= i
      · exact hsh j h1 hj
      · have : j = i + 1 := by omega
        subst this
        omega
    · rintro σ H3 ⟨d, o, rfl, s3, hT3, hdv, hsh⟩
      obtain ⟨j, h1, h2, h3⟩ := hlo
      have := hsh j h1 (by rw [Int.toNat_natCast]; exact h2)
      omega
theorem x_grown_long (T : TX K mg) : FnOk P w K mg base (CX1 P w base) 5 T.f_grown T.d_grown ["rules", "row", "times"] (spXLong T.C_TooLong) := by
  have G1 := ok_check_asked (P := P) (w := w) (base := base) T
  have Y1 := x_check_way (P := P) (w := w) (base := base) T
  refine T.F_grown.ok1 sc_grown (fun vs H Q E h => ?_) (fun cdv A outer s H vs Q E hr h => ?_)
  · obtain ⟨a, R, x, t, rfl, _⟩ := h; rfl
  · obtain ⟨a, R, x, t, rfl, ha, hR, hb, hx, ht, hlo, k⟩ := h
    refine ⟨_, pss_cons (ps_expr (pe_call G1 hr rfl T.m_check_asked T.F_check_asked.kp T.b_check_asked .nil pass0 (pa_cons (pv 0) (pa_cons (pv 1) (pa_cons (pv 2) pa_nil)))))
      (pss_cons (ps_expr (pe_call Y1 (hr.mono (by decide)) rfl T.m_check_way T.F_check_way.kp T.b_check_way .nil (pass1 fun _ _ h => h) (pa_cons (pv 0) (pa_cons (pv 1) (pa_cons (pv 2) pa_nil))))) pss_never), ?_⟩
    refine ⟨_, rfl, _, rfl, _, rfl, a, R, x, t, rfl, ha, hR, hx, ht, fun H1 s1 => ?_⟩
    exact ⟨_, rfl, _, rfl, _, rfl, a, R, x, t, rfl, s1 _ _ ha, hR, hb, hx, ht, hlo, fun H2 s2 => k H2 (s1.trans s2)⟩
inductive SpXAt (K : PySem.W.Frag) (m : Int) (C : Addr) (vs : List V) (H : Hp) (E : XK) : Prop
  | mk (a : Addr) (R : Ru) (x : Tx) (t : Nat) (v : V) (h0 : vs = [.ref a, sv x, .int (t : Nat), v]) (h1 : RuAt H a R) (h2 : OkRu R) (h3 : ∀ r ∈ R, r.length <= 100000) (h4 : OkTx R.length x) (h5 : t <= 300) (h6 : BadNum K H (((grow R t x).length : Int) - m) v) (h7 : anyX H E C) : SpXAt K m C vs H E
noncomputable def spXAt (K : PySem.W.Frag) (m : Int) (C : Addr) : Sp := fun vs H _ E => SpXAt K m C vs H E
theorem x_letter_place (T : TX K mg) : FnOk P w K mg base (CX1 P w base) 7 T.f_letter T.d_letter ["rules", "row", "times", "place"] (spXAt K 1 T.C_BadPlace) := by
  have Y1 := x_check_place (P := P) (w := w) (base := base) T
  have G2 := ok_length (P := P) (w := w) (base := base) T
  refine T.F_letter.ok1 sc_letter (fun vs H Q E h => ?_) (fun cdv A outer s H vs Q E hr h => ?_)
  · obtain ⟨a, R, x, t, v, rfl, _⟩ := h; rfl
  · obtain ⟨a, R, x, t, v, rfl, ha, hR, hb, hx, ht, hbad, k⟩ := h
    refine ⟨_, pss_cons (ps_expr (pe_call Y1 (hr.mono (by decide)) rfl T.m_check_place T.F_check_place.kp T.b_check_place .nil (pass1 fun _ _ h => h) (pa_cons (pv 3) (pa_cons (pe_op op_sub (pe_call G2 hr rfl T.m_length T.F_length.kp T.b_length .nil pass0 (pa_cons (pv 0) (pa_cons (pv 1) (pa_cons (pv 2) pa_nil)))) pe_int) pa_nil)))) pss_never, ?_⟩
    exact ⟨_, rfl, _, rfl, _, rfl, _, rfl, a, R, x, t, rfl, ha, hR, hb, hx, ht, fun H1 s1 => ⟨_, _, rfl, rfl, _, v, rfl, hbad.same s1, fun H2 s2 => k H2 (s1.trans s2)⟩⟩
theorem x_first_place (T : TX K mg) : FnOk P w K mg base (CX1 P w base) 6 T.f_first T.d_first ["rules", "row", "times", "many"] (spXAt K 0 T.C_BadPlace) := by
  have Y1 := x_check_place (P := P) (w := w) (base := base) T
  have G1 := ok_counts (P := P) (w := w) (base := base) T
  refine T.F_first.ok1 sc_first (fun vs H Q E h => ?_) (fun cdv A outer s H vs Q E hr h => ?_)
  · obtain ⟨a, R, x, t, v, rfl, _⟩ := h; rfl
  · obtain ⟨a, R, x, t, v, rfl, ha, hR, hb, hx, ht, hbad, k⟩ := h
    refine ⟨_, pss_cons (ps_set (i := 4) sc_first.nd rfl (Or.inl rfl) (pe_call G1 hr rfl T.m_counts T.F_counts.kp T.b_counts .nil pass0 (pa_cons (pv 0) (pa_cons (pv 1) (pa_cons (pv 2) pa_nil)))))
      (pss_cons (ps_expr (pe_call Y1 (hr.mono (by decide)) rfl T.m_check_place T.F_check_place.kp T.b_check_place .nil (pass1 fun _ _ h => h) (pa_cons (pv 3) (pa_cons (pe_callB (call_sumKK K) rfl T.n_sum boot_sum_ (pa_cons (pv 4) pa_nil)) pa_nil)))) pss_never), ?_⟩
    refine ⟨_, rfl, _, rfl, _, rfl, a, R, x, t, rfl, ha, hR, hb, hx, ht, fun pe H1 s1 hpe h1 => ?_⟩
    refine ⟨_, rfl, _, rfl, pe, _, rfl, rfl, SqL.of h1, _, v, rfl, ?_, fun H2 s2 => k H2 (s1.trans s2)⟩
    rw [cnt_sum (OkTx.grow hR hx)]
    have e := hbad.same s1
    rw [Int.sub_zero] at e
    exact e
theorem Ans.lit {H : Hp} {L : Tx} {x : Str} {b : Bool} (z : Tx) (e : x = tx z) (h : (sgn z).length <= 100) (hb : decide (∀ c ∈ z, c ∈ L) = b) : Ans K H L (.str x) b := by
  subst e; rw [<- hb]; exact .text z h
theorem kitF (K : PySem.W.Frag) : (PySem.W.kitOne K (.type "NoneType") (.type "str") = some false /\ PySem.W.kitOne K (.type "NoneType") (.type "list") = some false /\ PySem.W.kitOne K (.type "NoneType") (.type "int") = some false) /\
    (PySem.W.kitOne K (.type "int") (.type "str") = some false /\ PySem.W.kitOne K (.type "int") (.type "list") = some false) /\ (PySem.W.kitOne K (.type "str") (.type "list") = some false /\ PySem.W.kitOne K (.type "str") (.type "int") = some false) /\
    (PySem.W.kitOne K (.type "tuple") (.type "list") = some false /\ PySem.W.kitOne K (.type "tuple") (.type "int") = some false) /\ (PySem.W.kitOne K (.type "list") (.type "str") = some false /\ PySem.W.kitOne K (.type "list") (.type "int") = some false) :=
  ⟨⟨by kernel_rfl, by kernel_rfl, by kernel_rfl⟩, ⟨by kernel_rfl, by kernel_rfl⟩, ⟨by kernel_rfl, by kernel_rfl⟩, ⟨by kernel_rfl, by kernel_rfl⟩, ⟨by kernel_rfl, by kernel_rfl⟩⟩
theorem atI_mem {α : Type} {xs : List α} {i : Int} (h0 : 0 <= i) (h1 : i < xs.length) : ∃ v ∈ xs, atI xs i = some v := by
  obtain ⟨n, rfl⟩ := Int.eq_ofNat_of_zero_le h0
  have hn : n < xs.length := by exact_mod_cast h1
  exact ⟨xs[n], List.getElem_mem hn, atI_nat (List.getElem?_eq_getElem hn)⟩
inductive SpXLaw2 (C : Addr) (vs : List V) (H : Hp) (E : XK) : Prop
  | mk (i j : Int) (h0 : vs = [.int i, .int j]) (hi : 0 <= i) (hj : 0 <= j) (hj' : j < 1000) (k : anyX H E C) : SpXLaw2 C vs H E
noncomputable def spXLaw2 (C : Addr) : Sp := fun vs H _ E => SpXLaw2 C vs H E
theorem callees3 (T : TX K mg) : ∀ f ∈ [T.f_grown, T.f_counts, T.f_length], Callee P w K mg base (CX1 P w base) 7 (spXAsk K T.C_BadRules T.C_BadRow T.C_BadTimes) f := by
  intro f hf
  rcases List.mem_cons.mp hf with rfl | hf
  · exact ⟨_, _, (x_grown T).mono (by decide), T.b_grown, T.F_grown.kp⟩
  rcases List.mem_cons.mp hf with rfl | hf
  · exact ⟨_, _, (x_counts T).mono (by decide), T.b_counts, T.F_counts.kp⟩
  rcases List.mem_cons.mp hf with rfl | hf
  · exact ⟨_, _, (x_length T).mono (by decide), T.b_length, T.F_length.kp⟩
  · cases hf
theorem callees2 (T : TX K mg) : ∀ f ∈ [T.f_letter, T.f_first], Callee P w K mg base (CX1 P w base) 7 (spXAsk4 K T.C_BadRules T.C_BadRow T.C_BadTimes) f := by
  intro f hf
  rcases List.mem_cons.mp hf with rfl | hf
  · exact ⟨_, _, (x_letter T).mono (by decide), T.b_letter, T.F_letter.kp⟩
  rcases List.mem_cons.mp hf with rfl | hf
  · exact ⟨_, _, (x_first T).mono (by decide), T.b_first, T.F_first.kp⟩
  · cases hf
theorem calleesT (T : TX K mg) : ∀ f ∈ [T.f_comes, T.f_lengths], Callee P w K mg base (CX1 P w base) 7 (spX3R K T.C_BadRules) f := by
  intro f hf
  rcases List.mem_cons.mp hf with rfl | hf
  · exact ⟨_, _, (x_comes_rules T).mono (by decide), T.b_comes, T.F_comes.kp⟩
  rcases List.mem_cons.mp hf with rfl | hf
  · exact ⟨_, _, (x_lengths_rules T).mono (by decide), T.b_lengths, T.F_lengths.kp⟩
  · cases hf
theorem ruA {H : Hp} {a : Addr} (h : H a = some (.lst [.str (Str.ofString "a")])) : RuAt H a [[97]] := h.trans (by rw [show Str.ofString "a" = tx [97] from by decide +kernel]; rfl)
theorem okA : OkRu [[97]] := ⟨by decide, by decide, fun r hr => by rw [List.mem_singleton.mp hr]; exact fun c hc => by rw [List.mem_singleton.mp hc]; decide⟩
section
seal L2.PSs L2.PS L2.PE L2.PA
theorem sc_law_rules_asked : FnScope ["_law_which", "_law_more", "_law_bad", "_law_door"] ["_law_which", "_law_more"] (defScope s_law_rules_asked) := ⟨rfl, rfl, rfl, by decide +kernel, rfl, by decide +kernel, by decide +kernel⟩
theorem x_law_rules_asked (T : TX K mg) : FnOk P w K mg base (CX1 P w base) 8 T.f_law_rules_asked T.d_law_rules_asked ["_law_which", "_law_more"] (spXLaw2 T.C_BadRules) := by
  have C3 := callees3 (P := P) (w := w) (base := base) T
  have C2 := callees2 (P := P) (w := w) (base := base) T
  have CT := calleesT (P := P) (w := w) (base := base) T
  have Y1 := x_behind (P := P) (w := w) (base := base) T
  refine T.F_law_rules_asked.ok1 sc_law_rules_asked (fun vs H Q E h => ?_) (fun cdv A outer s H vs Q E hr h => ?_)
  · obtain ⟨i, j, rfl, _⟩ := h; rfl
  · obtain ⟨i, j, rfl, hi, hj, hj', k⟩ := h
    have nd := sc_law_rules_asked.nd
    have hr4 := hr.mono (show 4 <= 7 by decide)
    refine ⟨_, pss_cons (ps_set (i := 2) nd rfl (Or.inl rfl) (pe_lst (pa_cons pe_non (pa_cons (pe_tup (pa_cons pe_str pa_nil)) (pa_cons pe_str (pa_cons pe_int (pa_cons (pe_lst pa_nil) (pa_cons (pe_lst (pa_cons pe_str pa_nil)) (pa_cons (pe_lst (pa_cons pe_str (pa_cons pe_non pa_nil)))
        (pa_cons (pe_lst (pa_cons pe_str pa_nil)) (pa_cons (pe_lst (pa_cons pe_str (pa_cons pe_str pa_nil))) (pa_cons (pe_op op_rep (pe_lst (pa_cons pe_str pa_nil)) (pe_op op_add pe_int (pe_op op_mod (pv 1) pe_int))) pa_nil))))))))))))
      (pss_cons (ps_set (i := 2) nd rfl (Or.inl rfl) (pe_ix (ix_listKK K) (pe_op op_cat (pv 2) (pe_lst (pa_cons (pe_lst (pa_cons pe_str (pa_cons pe_str pa_nil))) pa_nil))) (pe_op op_mod (pv 0) pe_int) (fun _ _ => rfl)))
      (pss_cons (ps_set (i := 3) nd rfl (Or.inl rfl) (pe_op op_mod (pe_op op_fdiv (pv 0) pe_int) pe_int))
      (pss_cons (ps_if (pt_cmpR op_lt (pv 3) pe_int (nomark _)) (pss_one (ps_ret (pe_callL (pe_ix (ix_listKK K) (pe_lst (pa_cons (pe_cls rfl T.m_grown) (pa_cons (pe_cls rfl T.m_counts) (pa_cons (pe_cls rfl T.m_length) pa_nil)))) (pv 3) (fun _ _ => rfl)) C3 hr (pass1 fun _ _ h => h)
        (pa_cons (pv 2) (pa_cons pe_non (pa_cons pe_non pa_nil)))))) pss_nil)
      (pss_cons (ps_if (pt_cmpR op_lt (pv 3) pe_int (nomark _)) (pss_one (ps_ret (pe_callL (pe_ix (ix_listKK K) (pe_lst (pa_cons (pe_cls rfl T.m_letter) (pa_cons (pe_cls rfl T.m_first) pa_nil))) (pe_op op_sub (pv 3) pe_int) (fun _ _ => rfl)) C2 hr (pass1 fun _ _ h => h)
        (pa_cons (pv 2) (pa_cons pe_non (pa_cons pe_non (pa_cons pe_non pa_nil))))))) pss_nil)
      (pss_cons (ps_if (pt_cmpR op_lt (pv 3) pe_int (nomark _)) (pss_one (ps_ret (pe_callL (pe_ix (ix_listKK K) (pe_lst (pa_cons (pe_cls rfl T.m_comes) (pa_cons (pe_cls rfl T.m_lengths) pa_nil))) (pe_op op_sub (pv 3) pe_int) (fun _ _ => rfl)) CT hr (pass1 fun _ _ h => h)
        (pa_cons (pv 2) (pa_cons pe_non (pa_cons pe_non pa_nil)))))) pss_nil)
      (pss_one (ps_ret (pe_ifExp (pt_cmpR op_eq (pv 3) pe_int (nomark _)) (pe_call Y1 hr4 rfl T.m_behind T.F_behind.kp T.b_behind .nil (pass1 fun _ _ h => h) (pa_cons (pv 2) (pa_cons pe_non pa_nil)))
        (pe_call Y1 hr4 rfl T.m_behind T.F_behind.kp T.b_behind .nil (pass1 fun _ _ h => h) (pa_cons (pe_lst (pa_cons pe_str pa_nil)) (pa_cons (pv 2) pa_nil))))))))))), ?_⟩
    obtain ⟨⟨k1, k2, k3⟩, ⟨k4, k5⟩, ⟨k6, k7⟩, ⟨k8, k9⟩, k10, k11⟩ := kitF K
    have txa : Str.ofString "a" = tx [97] := by decide +kernel
    refine ⟨by decide, fun p hp => ?_⟩
    generalize hH1 : upd H p _ = H1
    have s1 : Same H H1 := hH1 ▸ same_new hp
    have a1 : H1 p = some (.tup _) := hH1 ▸ upd_same
    refine ⟨by decide, fun l0 h0 => ?_⟩
    generalize hH2 : upd H1 l0 _ = H2
    have s2 : Same H1 H2 := hH2 ▸ same_new h0
    have a2 : H2 l0 = some (.lst []) := hH2 ▸ upd_same
    refine ⟨by decide, fun l1 h1 => ?_⟩
    generalize hH3 : upd H2 l1 _ = H3
    have s3 : Same H2 H3 := hH3 ▸ same_new h1
    have a3 : H3 l1 = some (.lst [.str (Str.ofString "b")]) := hH3 ▸ upd_same
    refine ⟨by decide, fun l2 h2 => ?_⟩
    generalize hH4 : upd H3 l2 _ = H4
    have s4 : Same H3 H4 := hH4 ▸ same_new h2
    have a4 : H4 l2 = some (.lst [.str (Str.ofString "a"), .non]) := hH4 ▸ upd_same
    refine ⟨by decide, fun l3 h3 => ?_⟩
    generalize hH5 : upd H4 l3 _ = H5
    have s5 : Same H4 H5 := hH5 ▸ same_new h3
    have a5 : H5 l3 = some (.lst [.str (Str.ofString "aB")]) := hH5 ▸ upd_same
    refine ⟨by decide, fun l4 h4 => ?_⟩
    generalize hH6 : upd H5 l4 _ = H6
    have s6 : Same H5 H6 := hH6 ▸ same_new h4
    have a6 : H6 l4 = some (.lst [.str (Str.ofString "a b"), .str (Str.ofString "a")]) := hH6 ▸ upd_same
    refine ⟨by decide, fun l5 h5 => ?_⟩
    generalize hH7 : upd H6 l5 _ = H7
    have s7 : Same H6 H7 := hH7 ▸ same_new h5
    have a7 : H7 l5 = some (.lst [.str (Str.ofString "a")]) := hH7 ▸ upd_same
    have hm9 : 0 <= j % 9 /\ j % 9 < 9 := ⟨Int.emod_nonneg _ (by decide), Int.emod_lt_of_pos _ (by decide)⟩
    refine ⟨_, rfl, _, _, rfl, rfl, (by show (0 : Int) < 9; decide), _, _, rfl, rfl, l5, _, _, rfl, rfl, a7, by omega, by omega, by show 1 * (27 + j % 9).toNat <= sizeLine; exact Nat.le_trans (show 1 * (27 + j % 9).toNat <= 100 by omega) (by decide), fun l6 h6 => ?_⟩
    generalize hH8 : upd H7 l6 _ = H8
    have s8 : Same H7 H8 := hH8 ▸ same_new h6
    have a8 : H8 l6 = some (.lst (List.replicate (27 + j % 9).toNat [V.str (Str.ofString "a")]).flatten) := hH8 ▸ upd_same
    refine ⟨by show 10 <= sizeLine; decide, fun L hL => ?_⟩
    generalize hH9 : upd H8 L _ = H9
    have s9 : Same H8 H9 := hH9 ▸ same_new hL
    have a9 : H9 L = some (.lst [.non, .ref p, .str (Str.ofString "a"), .int 5, .ref l0, .ref l1, .ref l2, .ref l3, .ref l4, .ref l6]) := hH9 ▸ upd_same
    refine ⟨_, rfl, by decide, fun l7 h7 => ?_⟩
    generalize hH10 : upd H9 l7 _ = H10
    have s10 : Same H9 H10 := hH10 ▸ same_new h7
    have a10 : H10 l7 = some (.lst [.str (Str.ofString "a"), .str (Str.ofString "b`")]) := hH10 ▸ upd_same
    refine ⟨by show 1 <= sizeLine; decide, fun l8 h8 => ?_⟩
    generalize hH11 : upd H10 l8 _ = H11
    have s11 : Same H10 H11 := hH11 ▸ same_new h8
    have a11 : H11 l8 = some (.lst [.ref l7]) := hH11 ▸ upd_same
    refine ⟨L, l8, _, _, rfl, rfl, s11 _ _ (s10 _ _ a9), a11, by show 10 + 1 <= sizeLine; decide, fun l9 h9 => ?_⟩
    generalize hH12 : upd H11 l9 _ = H12
    have s12 : Same H11 H12 := hH12 ▸ same_new h9
    have a12 : H12 l9 = some (.lst ([.non, .ref p, .str (Str.ofString "a"), .int 5, .ref l0, .ref l1, .ref l2, .ref l3, .ref l4, .ref l6] ++ [.ref l7])) := hH12 ▸ upd_same
    have sB : Same H10 H12 := s11.trans s12
    have sA : Same H8 H12 := (s9.trans s10).trans sB
    have s78 := s8.trans sA
    have s67 := s7.trans s78
    have s56 := s6.trans s67
    have s45 := s5.trans s56
    have s34 := s4.trans s45
    have s23 := s3.trans s34
    have s12' := s2.trans s23
    have sH := s1.trans s12'
    have bads : ∀ v ∈ ([.non, .ref p, .str (Str.ofString "a"), .int 5, .ref l0, .ref l1, .ref l2, .ref l3, .ref l4, .ref l6] ++ [.ref l7] : List V), BadRu K H12 v := by
      intro v hv
      rcases List.mem_append.mp hv with hv | hv
      · rcases List.mem_cons.mp hv with rfl | hv
        · exact .ty _ _ .non k2
        rcases List.mem_cons.mp hv with rfl | hv
        · exact .ty _ _ (.tup (s12' _ _ a1)) k8
        rcases List.mem_cons.mp hv with rfl | hv
        · exact .ty _ _ (.str _) k6
        rcases List.mem_cons.mp hv with rfl | hv
        · exact .ty _ _ (.int _) k5
        rcases List.mem_cons.mp hv with rfl | hv
        · exact .len _ _ (s23 _ _ a2) (.inl rfl) (by decide)
        rcases List.mem_cons.mp hv with rfl | hv
        · exact .one _ [(.str (Str.ofString "b"), false)] (s34 _ _ a3) (by decide) (by decide) (fun x hx => by rw [List.mem_singleton.mp hx]; exact Ans.lit [98] (by decide +kernel) (by decide +kernel) (by decide +kernel)) rfl
        rcases List.mem_cons.mp hv with rfl | hv
        · refine .one _ [(.str (Str.ofString "a"), true), (.non, false)] (s45 _ _ a4) (by decide) (by decide) (fun x hx => ?_) rfl
          rcases List.mem_cons.mp hx with rfl | hx
          · exact Ans.lit [97] txa (by decide +kernel) (by decide +kernel)
          · rw [List.mem_singleton.mp hx]; exact .not _ _ .non k1
        rcases List.mem_cons.mp hv with rfl | hv
        · exact .one _ [(.str (Str.ofString "aB"), false)] (s56 _ _ a5) (by decide) (by decide) (fun x hx => by rw [List.mem_singleton.mp hx]; exact Ans.lit [97, 66] (by decide +kernel) (by decide +kernel) (by decide +kernel)) rfl
        rcases List.mem_cons.mp hv with rfl | hv
        · refine .one _ [(.str (Str.ofString "a b"), false), (.str (Str.ofString "a"), true)] (s67 _ _ a6) (by decide) (by decide) (fun x hx => ?_) rfl
          rcases List.mem_cons.mp hx with rfl | hx
          · exact Ans.lit [97, 32, 98] (by decide +kernel) (by decide +kernel) (by decide +kernel)
          · rw [List.mem_singleton.mp hx]; exact Ans.lit [97] txa (by decide +kernel) (by decide +kernel)
        · rw [List.mem_singleton.mp hv]
          refine .len _ _ (sA _ _ a8) (.inr ?_) ?_
          · rw [len_rep]; show 26 < (27 + j % 9).toNat * 1; omega
          · rw [len_rep]; exact Nat.le_trans (show (27 + j % 9).toNat * 1 <= 100 by omega) (by decide)
      · rw [List.mem_singleton.mp hv]
        refine .one _ [(.str (Str.ofString "a"), true), (.str (Str.ofString "b`"), false)] (sB _ _ a10) (by decide) (by decide) (fun x hx => ?_) rfl
        rcases List.mem_cons.mp hx with rfl | hx
        · exact Ans.lit [97] txa (by decide +kernel) (by decide +kernel)
        · rw [List.mem_singleton.mp hx]; exact Ans.lit [98, 96] (by decide +kernel) (by decide +kernel) (by decide +kernel)
    have h11 : 0 <= i % 11 /\ i % 11 < 11 := ⟨Int.emod_nonneg _ (by decide), Int.emod_lt_of_pos _ (by decide)⟩
    obtain ⟨v, hv, ev⟩ := atI_mem (xs := ([.non, .ref p, .str (Str.ofString "a"), .int 5, .ref l0, .ref l1, .ref l2, .ref l3, .ref l4, .ref l6] ++ [.ref l7] : List V)) h11.1 (by show i % 11 < 11; exact h11.2)
    have hb := bads v hv
    refine ⟨_, rfl, _, _, rfl, rfl, (by show (0 : Int) < 11; decide), l9, _, _, v, rfl, rfl, SqL.of a12, ev, ?_⟩
    refine ⟨_, rfl, _, _, rfl, rfl, ⟨by decide, by decide⟩, _, _, rfl, rfl, (by show (0 : Int) < 9; decide), ?_⟩
    have h9 : 0 <= i / 11 % 9 /\ i / 11 % 9 < 9 := ⟨Int.emod_nonneg _ (by decide), Int.emod_lt_of_pos _ (by decide)⟩
    by_cases d3 : (i / 11 % 9) < 3
    · refine ⟨_, rfl, _, _, rfl, rfl, true, (by show V.bl (decide ((i / 11 % 9) < 3)) = V.bl true; rw [decide_eq_true d3]), iteT ?_⟩
      refine ⟨by show 3 <= sizeLine; decide, fun q hq => ?_⟩
      obtain ⟨f, hf, ef⟩ := atI_mem (xs := [V.ref T.f_grown, V.ref T.f_counts, V.ref T.f_length]) h9.1 (by show (i / 11 % 9) < 3; exact d3)
      have hf' : ∃ g, f = .ref g /\ g ∈ [T.f_grown, T.f_counts, T.f_length] := by
        rcases List.mem_cons.mp hf with rfl | hf
        · exact ⟨_, rfl, List.mem_cons_self⟩
        rcases List.mem_cons.mp hf with rfl | hf
        · exact ⟨_, rfl, List.mem_cons_of_mem _ List.mem_cons_self⟩
        · rw [List.mem_singleton.mp hf]; exact ⟨_, rfl, List.mem_cons_of_mem _ (List.mem_cons_of_mem _ List.mem_cons_self)⟩
      obtain ⟨g, rfl, hg⟩ := hf'
      exact ⟨_, rfl, q, _, _, _, rfl, rfl, SqL.of upd_same, ef, g, rfl, hg, _, rfl, v, .non, .non, _, rfl, .rules _ _ _ (hb.same (same_new hq)), fun H' s' => k H' ((sH.trans (same_new hq)).trans s')⟩
    refine ⟨_, rfl, _, _, rfl, rfl, false, (by show V.bl (decide ((i / 11 % 9) < 3)) = V.bl false; rw [decide_eq_false d3]), iteF ?_⟩
    by_cases d5 : (i / 11 % 9) < 5
    · refine ⟨_, rfl, _, _, rfl, rfl, true, (by show V.bl (decide ((i / 11 % 9) < 5)) = V.bl true; rw [decide_eq_true d5]), iteT ?_⟩
      refine ⟨by show 2 <= sizeLine; decide, fun q hq => ?_⟩
      obtain ⟨f, hf, ef⟩ := atI_mem (xs := [V.ref T.f_letter, V.ref T.f_first]) (i := (i / 11 % 9) - 3) (by omega) (by show (i / 11 % 9) - 3 < 2; omega)
      have hf' : ∃ g, f = .ref g /\ g ∈ [T.f_letter, T.f_first] := by
        rcases List.mem_cons.mp hf with rfl | hf
        · exact ⟨_, rfl, List.mem_cons_self⟩
        · rw [List.mem_singleton.mp hf]; exact ⟨_, rfl, List.mem_cons_of_mem _ List.mem_cons_self⟩
      obtain ⟨g, rfl, hg⟩ := hf'
      exact ⟨_, rfl, _, _, rfl, rfl, q, _, _, _, rfl, rfl, SqL.of upd_same, ef, g, rfl, hg, _, rfl, v, .non, .non, .non, _, rfl, .rules _ _ _ (hb.same (same_new hq)), fun H' s' => k H' ((sH.trans (same_new hq)).trans s')⟩
    refine ⟨_, rfl, _, _, rfl, rfl, false, (by show V.bl (decide ((i / 11 % 9) < 5)) = V.bl false; rw [decide_eq_false d5]), iteF ?_⟩
    by_cases d7 : (i / 11 % 9) < 7
    · refine ⟨_, rfl, _, _, rfl, rfl, true, (by show V.bl (decide ((i / 11 % 9) < 7)) = V.bl true; rw [decide_eq_true d7]), iteT ?_⟩
      refine ⟨by show 2 <= sizeLine; decide, fun q hq => ?_⟩
      obtain ⟨f, hf, ef⟩ := atI_mem (xs := [V.ref T.f_comes, V.ref T.f_lengths]) (i := (i / 11 % 9) - 5) (by omega) (by show (i / 11 % 9) - 5 < 2; omega)
      have hf' : ∃ g, f = .ref g /\ g ∈ [T.f_comes, T.f_lengths] := by
        rcases List.mem_cons.mp hf with rfl | hf
        · exact ⟨_, rfl, List.mem_cons_self⟩
        · rw [List.mem_singleton.mp hf]; exact ⟨_, rfl, List.mem_cons_of_mem _ List.mem_cons_self⟩
      obtain ⟨g, rfl, hg⟩ := hf'
      exact ⟨_, rfl, _, _, rfl, rfl, q, _, _, _, rfl, rfl, SqL.of upd_same, ef, g, rfl, hg, _, rfl, v, .non, .non, rfl, hb.same (same_new hq), fun H' s' => k H' ((sH.trans (same_new hq)).trans s')⟩
    refine ⟨_, rfl, _, _, rfl, rfl, false, (by show V.bl (decide ((i / 11 % 9) < 7)) = V.bl false; rw [decide_eq_false d7]), iteF ?_⟩
    by_cases d8 : (i / 11 % 9) = 7
    · refine ⟨_, rfl, rfl, true, (by show V.bl (decide (V.int (i / 11 % 9) = V.int 7)) = V.bl true; rw [d8]; decide), iteT ?_⟩
      exact ⟨_, rfl, .one v .non rfl hb fun H' s' => k H' (sH.trans s')⟩
    · refine ⟨_, rfl, rfl, false, (by show V.bl (decide (V.int (i / 11 % 9) = V.int 7)) = V.bl false; rw [decide_eq_false fun e => d8 (by injection e)]), iteF ?_⟩
      refine ⟨by decide, fun q hq => ?_⟩
      exact ⟨_, rfl, .two q [[97]] v rfl (ruA upd_same) okA (hb.same (same_new hq)) fun H' s' => k H' ((sH.trans (same_new hq)).trans s')⟩
end
theorem atI_ref {fs : List Addr} {i : Int} (h0 : 0 <= i) (h1 : i < fs.length) : ∃ g ∈ fs, atI (fs.map V.ref) i = some (V.ref g) := by
  obtain ⟨n, rfl⟩ := Int.eq_ofNat_of_zero_le h0
  have hn : n < fs.length := by exact_mod_cast h1
  exact ⟨fs[n], List.getElem_mem hn, atI_nat (by rw [List.getElem?_map, List.getElem?_eq_getElem hn]; rfl)⟩
theorem BadLet.lit {H : Hp} {L : Tx} {x : Str} (z : Tx) (e : x = tx z) (h : (sgn z).length <= 100) (l : ∀ c ∈ z, c ∈ L) (n : z.length ≠ 1) (k : z.length <= sizeLine) : BadLet K H L (.str x) := by
  subst e; exact .many z h l n k
theorem txs : Str.ofString "a" = tx [97] /\ Str.ofString "ab" = tx [97, 98] /\ Str.ofString "\n" = tx [10] := ⟨by decide +kernel, by decide +kernel, by decide +kernel⟩
theorem ruAB {H : Hp} {a : Addr} (h : H a = some (.lst [.str (Str.ofString "ab"), .str (Str.ofString "a")])) : RuAt H a [[97, 98], [97]] := h.trans (by rw [txs.1, txs.2.1]; rfl)
theorem okAB : OkRu [[97, 98], [97]] := ⟨by decide, by decide, fun r hr => by
  rcases List.mem_cons.mp hr with rfl | hr
  · exact fun c hc => by rcases List.mem_cons.mp hc with rfl | hc; · decide
                         · rw [List.mem_singleton.mp hc]; decide
  · rw [List.mem_singleton.mp hr]; exact fun c hc => by rw [List.mem_singleton.mp hc]; decide⟩
inductive SpXLaw3 (C1 C2 : Addr) (m : Int) (vs : List V) (H : Hp) (E : XK) : Prop
  | one (i j : Int) (h0 : vs = [.int m, .int i, .int j]) (hi : 0 <= i) (hj : 0 <= j) (hj' : j < 1000) (k : anyX H E C1) : SpXLaw3 C1 C2 m vs H E
  | two (i j : Int) (h0 : vs = [.int (m + 1), .int i, .int j]) (hi : 0 <= i) (hj : 0 <= j) (hj' : j < 1000) (k : anyX H E C2) : SpXLaw3 C1 C2 m vs H E
noncomputable def spXLaw3 (C1 C2 : Addr) (m : Int) : Sp := fun vs H _ E => SpXLaw3 C1 C2 m vs H E
section
seal L2.PSs L2.PS L2.PE L2.PA
theorem sc_law_rows_asked : FnScope ["_law_kind", "_law_which", "_law_more", "_law_rules", "_law_bad", "_law_door"] ["_law_kind", "_law_which", "_law_more"] (defScope s_law_rows_asked) := ⟨rfl, rfl, rfl, by decide +kernel, rfl, by decide +kernel, by decide +kernel⟩
theorem x_law_rows_asked (T : TX K mg) : FnOk P w K mg base (CX1 P w base) 8 T.f_law_rows_asked T.d_law_rows_asked ["_law_kind", "_law_which", "_law_more"] (spXLaw3 T.C_BadRow T.C_BadLetter 1) := by
  have C3 := callees3 (P := P) (w := w) (base := base) T
  have C2 := callees2 (P := P) (w := w) (base := base) T
  have Y1 := x_lengths_row (P := P) (w := w) (base := base) T
  have Y2 := x_comes_letter (P := P) (w := w) (base := base) T
  refine T.F_law_rows_asked.ok1 sc_law_rows_asked (fun vs H Q E h => ?_) (fun cdv A outer s H vs Q E hr h => ?_)
  · obtain ⟨i, j, rfl, _⟩ | ⟨i, j, rfl, _⟩ := h <;> rfl
  · have nd := sc_law_rows_asked.nd
    have hr4 := hr.mono (show 4 <= 7 by decide)
    obtain ⟨⟨k1, k2, k3⟩, ⟨k4, k5⟩, ⟨k6, k7⟩, ⟨k8, k9⟩, k10, k11⟩ := kitF K
    refine ⟨_, pss_cons (ps_set (i := 3) nd rfl (Or.inl rfl) (pe_lst (pa_cons pe_str (pa_cons pe_str pa_nil))))
      (pss_cons (ps_if (pt_cmpR op_eq (pv 0) pe_int (nomark _))
        (pss_cons (ps_set (i := 4) nd rfl (Or.inl rfl) (pe_ix (ix_listKK K) (pe_lst (pa_cons pe_non (pa_cons pe_int (pa_cons (pe_lst (pa_cons pe_str pa_nil)) (pa_cons pe_str (pa_cons pe_str (pa_cons (pe_op op_add_str (pe_op op_mul_str pe_str (pe_op op_mod (pv 2) pe_int)) pe_str) (pa_cons pe_str pa_nil)))))))) (pe_op op_mod (pv 1) pe_int) (fun _ _ => rfl)))
        (pss_cons (ps_set (i := 5) nd rfl (Or.inl rfl) (pe_op op_mod (pe_op op_fdiv (pv 1) pe_int) pe_int))
        (pss_cons (ps_if (pt_cmpR op_lt (pv 5) pe_int (nomark _)) (pss_one (ps_ret (pe_callL (pe_ix (ix_listKK K) (pe_lst (pa_cons (pe_cls rfl T.m_grown) (pa_cons (pe_cls rfl T.m_counts) (pa_cons (pe_cls rfl T.m_length) pa_nil)))) (pv 5) (fun _ _ => rfl)) C3 hr (pass1 fun _ _ h => h)
          (pa_cons (pv 3) (pa_cons (pv 4) (pa_cons pe_non pa_nil)))))) pss_nil)
        (pss_cons (ps_if (pt_cmpR op_lt (pv 5) pe_int (nomark _)) (pss_one (ps_ret (pe_callL (pe_ix (ix_listKK K) (pe_lst (pa_cons (pe_cls rfl T.m_letter) (pa_cons (pe_cls rfl T.m_first) pa_nil))) (pe_op op_sub (pv 5) pe_int) (fun _ _ => rfl)) C2 hr (pass1 fun _ _ h => h)
          (pa_cons (pv 3) (pa_cons (pv 4) (pa_cons pe_non (pa_cons pe_non pa_nil))))))) pss_nil)
        (pss_one (ps_ret (pe_ifExp (pt_cmpR op_eq (pv 5) pe_int (nomark _)) (pe_call Y1 hr4 rfl T.m_lengths T.F_lengths.kp T.b_lengths .nil (pass1 fun _ _ h => h) (pa_cons (pv 3) (pa_cons (pv 4) (pa_cons pe_str pa_nil))))
          (pe_call Y1 hr4 rfl T.m_lengths T.F_lengths.kp T.b_lengths .nil (pass1 fun _ _ h => h) (pa_cons (pv 3) (pa_cons pe_str (pa_cons (pv 4) pa_nil))))))))))) pss_nil)
      (pss_cons (ps_set (i := 4) nd rfl (Or.inl rfl) (pe_ix (ix_listKK K) (pe_lst (pa_cons pe_non (pa_cons pe_int (pa_cons (pe_lst (pa_cons pe_str pa_nil)) (pa_cons pe_str (pa_cons pe_str (pa_cons pe_str (pa_cons pe_str (pa_cons pe_str pa_nil))))))))) (pe_op op_mod (pv 1) pe_int) (fun _ _ => rfl)))
      (pss_one (ps_ret (pe_ifExp (pt_cmpR op_eq (pe_op op_mod (pe_op op_fdiv (pv 1) pe_int) pe_int) pe_int (nomark _)) (pe_call Y2 hr4 rfl T.m_comes T.F_comes.kp T.b_comes .nil (pass1 fun _ _ h => h) (pa_cons (pv 3) (pa_cons (pv 4) (pa_cons pe_str pa_nil))))
          (pe_call Y2 hr4 rfl T.m_comes T.F_comes.kp T.b_comes .nil (pass1 fun _ _ h => h) (pa_cons (pv 3) (pa_cons pe_str (pa_cons (pv 4) pa_nil))))))))), ?_⟩
    obtain ⟨i, j, rfl, hi, hj, hj', k⟩ | ⟨i, j, rfl, hi, hj, hj', k⟩ := h
    · refine ⟨by decide, fun a ha => ?_⟩
      generalize hH1 : upd H a _ = H1
      have s1 : Same H H1 := hH1 ▸ same_new ha
      have a1 : RuAt H1 a [[97, 98], [97]] := ruAB (hH1 ▸ upd_same)
      refine ⟨_, rfl, rfl, true, (by decide), iteT ?_⟩
      refine ⟨by decide, fun l hl => ?_⟩
      generalize hH2 : upd H1 l _ = H2
      have s2 : Same H1 H2 := hH2 ▸ same_new hl
      have a2 : H2 l = some (.lst [.str (Str.ofString "a")]) := hH2 ▸ upd_same
      have hm4 : 0 <= j % 4 /\ j % 4 < 4 := ⟨Int.emod_nonneg _ (by decide), Int.emod_lt_of_pos _ (by decide)⟩
      refine ⟨_, rfl, _, _, rfl, rfl, (by show (0 : Int) < 4; decide), [97, 98], (j % 4).toNat, congrArg V.str txs.2.1, (by show V.int (j % 4) = V.int ((j % 4).toNat : Int); congr 1; omega), (by show 2 * (j % 4).toNat <= 16777216; omega), (by omega), _, _, rfl, rfl, ?_, ?_⟩
      · rw [tx_len, len_rep, txs.2.2, tx_len]
        exact Nat.le_trans (show (j % 4).toNat * 2 + 1 <= 100 by omega) (by decide)
      rw [txs.2.2, tx_app]
      refine ⟨by show 7 <= sizeLine; decide, fun l2 hl2 => ?_⟩
      generalize hH3 : upd H2 l2 _ = H3
      have s3 : Same H2 H3 := hH3 ▸ same_new hl2
      have a3 : H3 l2 = some (.lst [.non, .int 5, .ref l, .str (Str.ofString "c"), .str (Str.ofString "a b"), .str (tx ((List.replicate (j % 4).toNat [97, 98]).flatten ++ [10])), .str (Str.ofString "a`")]) := hH3 ▸ upd_same
      have bads : ∀ v ∈ ([.non, .int 5, .ref l, .str (Str.ofString "c"), .str (Str.ofString "a b"), .str (tx ((List.replicate (j % 4).toNat [97, 98]).flatten ++ [10])), .str (Str.ofString "a`")] : List V), Ans K H3 (lets 2) v false := by
        intro v hv
        rcases List.mem_cons.mp hv with rfl | hv
        · exact .not _ _ .non k1
        rcases List.mem_cons.mp hv with rfl | hv
        · exact .not _ _ (.int _) k4
        rcases List.mem_cons.mp hv with rfl | hv
        · exact .not _ _ (.lst (s3 _ _ a2)) k10
        rcases List.mem_cons.mp hv with rfl | hv
        · exact Ans.lit [99] (by decide +kernel) (by decide +kernel) (by decide +kernel)
        rcases List.mem_cons.mp hv with rfl | hv
        · exact Ans.lit [97, 32, 98] (by decide +kernel) (by decide +kernel) (by decide +kernel)
        rcases List.mem_cons.mp hv with rfl | hv
        · have e4 : (j % 4).toNat = 0 \/ (j % 4).toNat = 1 \/ (j % 4).toNat = 2 \/ (j % 4).toNat = 3 := by omega
          rcases e4 with e | e | e | e <;> rw [e] <;> exact Ans.lit _ rfl (by decide +kernel) (by decide +kernel)
        · rw [List.mem_singleton.mp hv]; exact Ans.lit [97, 96] (by decide +kernel) (by decide +kernel) (by decide +kernel)
      have h7 : 0 <= i % 7 /\ i % 7 < 7 := ⟨Int.emod_nonneg _ (by decide), Int.emod_lt_of_pos _ (by decide)⟩
      obtain ⟨v, hv, ev⟩ := atI_mem (xs := ([.non, .int 5, .ref l, .str (Str.ofString "c"), .str (Str.ofString "a b"), .str (tx ((List.replicate (j % 4).toNat [97, 98]).flatten ++ [10])), .str (Str.ofString "a`")] : List V)) h7.1 (by show i % 7 < 7; exact h7.2)
      have hb := bads v hv
      have a1' : RuAt H3 a [[97, 98], [97]] := s3 _ _ (s2 _ _ a1)
      have sH := (s1.trans s2).trans s3
      refine ⟨_, rfl, _, _, rfl, rfl, (by show (0 : Int) < 7; decide), l2, _, _, v, rfl, rfl, SqL.of a3, ev, ?_⟩
      refine ⟨_, rfl, _, _, rfl, rfl, ⟨by decide, by decide⟩, _, _, rfl, rfl, (by show (0 : Int) < 7; decide), ?_⟩
      have h9 : 0 <= i / 7 % 7 /\ i / 7 % 7 < 7 := ⟨Int.emod_nonneg _ (by decide), Int.emod_lt_of_pos _ (by decide)⟩
      by_cases d3 : i / 7 % 7 < 3
      · refine ⟨_, rfl, _, _, rfl, rfl, true, (by show V.bl (decide (i / 7 % 7 < 3)) = V.bl true; rw [decide_eq_true d3]), iteT ?_⟩
        refine ⟨by show 3 <= sizeLine; decide, fun q hq => ?_⟩
        obtain ⟨g, hg, ef⟩ := atI_ref (fs := [T.f_grown, T.f_counts, T.f_length]) h9.1 (by show i / 7 % 7 < 3; exact d3)
        exact ⟨_, rfl, q, _, _, _, rfl, rfl, SqL.of upd_same, ef, g, rfl, hg, _, rfl, _, rfl, _, v, .non, _, rfl, .row a _ _ _ (same_new hq _ _ a1') okAB (hb.same (same_new hq)), fun H' s' => k H' ((sH.trans (same_new hq)).trans s')⟩
      refine ⟨_, rfl, _, _, rfl, rfl, false, (by show V.bl (decide (i / 7 % 7 < 3)) = V.bl false; rw [decide_eq_false d3]), iteF ?_⟩
      by_cases d5 : i / 7 % 7 < 5
      · refine ⟨_, rfl, _, _, rfl, rfl, true, (by show V.bl (decide (i / 7 % 7 < 5)) = V.bl true; rw [decide_eq_true d5]), iteT ?_⟩
        refine ⟨by show 2 <= sizeLine; decide, fun q hq => ?_⟩
        obtain ⟨g, hg, ef⟩ := atI_ref (fs := [T.f_letter, T.f_first]) (i := i / 7 % 7 - 3) (by omega) (by show i / 7 % 7 - 3 < 2; omega)
        exact ⟨_, rfl, _, _, rfl, rfl, q, _, _, _, rfl, rfl, SqL.of upd_same, ef, g, rfl, hg, _, rfl, _, rfl, _, v, .non, .non, _, rfl, .row a _ _ _ (same_new hq _ _ a1') okAB (hb.same (same_new hq)), fun H' s' => k H' ((sH.trans (same_new hq)).trans s')⟩
      refine ⟨_, rfl, _, _, rfl, rfl, false, (by show V.bl (decide (i / 7 % 7 < 5)) = V.bl false; rw [decide_eq_false d5]), iteF ?_⟩
      by_cases d8 : i / 7 % 7 = 5
      · refine ⟨_, rfl, rfl, true, (by show V.bl (decide (V.int (i / 7 % 7) = V.int 5)) = V.bl true; rw [d8]; decide), iteT ?_⟩
        exact ⟨_, rfl, _, rfl, .one a _ v _ rfl a1' okAB hb fun H' s' => k H' (sH.trans s')⟩
      · refine ⟨_, rfl, rfl, false, (by show V.bl (decide (V.int (i / 7 % 7) = V.int 5)) = V.bl false; rw [decide_eq_false fun e => d8 (by injection e)]), iteF ?_⟩
        exact ⟨_, rfl, _, rfl, .two a _ [97] v (by rw [txs.1]; rfl) a1' okAB (fun c hc => by rw [List.mem_singleton.mp hc]; decide) hb fun H' s' => k H' (sH.trans s')⟩
    · refine ⟨by decide, fun a ha => ?_⟩
      generalize hH1 : upd H a _ = H1
      have s1 : Same H H1 := hH1 ▸ same_new ha
      have a1 : RuAt H1 a [[97, 98], [97]] := ruAB (hH1 ▸ upd_same)
      refine ⟨_, rfl, rfl, false, (by decide), iteF ?_⟩
      refine ⟨by decide, fun l hl => ?_⟩
      generalize hH2 : upd H1 l _ = H2
      have s2 : Same H1 H2 := hH2 ▸ same_new hl
      have a2 : H2 l = some (.lst [.str (Str.ofString "a")]) := hH2 ▸ upd_same
      refine ⟨by show 8 <= sizeLine; decide, fun l2 hl2 => ?_⟩
      generalize hH3 : upd H2 l2 _ = H3
      have s3 : Same H2 H3 := hH3 ▸ same_new hl2
      have a3 : H3 l2 = some (.lst [.non, .int 5, .ref l, .str (Str.ofString "c"), .str (Str.ofString ""), .str (Str.ofString "ab"), .str (Str.ofString "A"), .str (Str.ofString "`")]) := hH3 ▸ upd_same
      have bads : ∀ v ∈ ([.non, .int 5, .ref l, .str (Str.ofString "c"), .str (Str.ofString ""), .str (Str.ofString "ab"), .str (Str.ofString "A"), .str (Str.ofString "`")] : List V), BadLet K H3 (lets 2) v := by
        intro v hv
        rcases List.mem_cons.mp hv with rfl | hv
        · exact .ans _ (.not _ _ .non k1)
        rcases List.mem_cons.mp hv with rfl | hv
        · exact .ans _ (.not _ _ (.int _) k4)
        rcases List.mem_cons.mp hv with rfl | hv
        · exact .ans _ (.not _ _ (.lst (s3 _ _ a2)) k10)
        rcases List.mem_cons.mp hv with rfl | hv
        · exact .ans _ (Ans.lit [99] (by decide +kernel) (by decide +kernel) (by decide +kernel))
        rcases List.mem_cons.mp hv with rfl | hv
        · exact BadLet.lit [] (by decide +kernel) (by decide +kernel) (by decide +kernel) (by decide) (by decide)
        rcases List.mem_cons.mp hv with rfl | hv
        · exact BadLet.lit [97, 98] txs.2.1 (by decide +kernel) (by decide +kernel) (by decide) (by decide)
        rcases List.mem_cons.mp hv with rfl | hv
        · exact .ans _ (Ans.lit [65] (by decide +kernel) (by decide +kernel) (by decide +kernel))
        · rw [List.mem_singleton.mp hv]; exact .ans _ (Ans.lit [96] (by decide +kernel) (by decide +kernel) (by decide +kernel))
      have h8 : 0 <= i % 8 /\ i % 8 < 8 := ⟨Int.emod_nonneg _ (by decide), Int.emod_lt_of_pos _ (by decide)⟩
      obtain ⟨v, hv, ev⟩ := atI_mem (xs := ([.non, .int 5, .ref l, .str (Str.ofString "c"), .str (Str.ofString ""), .str (Str.ofString "ab"), .str (Str.ofString "A"), .str (Str.ofString "`")] : List V)) h8.1 (by show i % 8 < 8; exact h8.2)
      have hb := bads v hv
      have a1' : RuAt H3 a [[97, 98], [97]] := s3 _ _ (s2 _ _ a1)
      have sH := (s1.trans s2).trans s3
      refine ⟨_, rfl, _, _, rfl, rfl, (by show (0 : Int) < 8; decide), l2, _, _, v, rfl, rfl, SqL.of a3, ev, ?_⟩
      by_cases d8 : i / 8 % 2 = 0
      · refine ⟨_, rfl, _, _, rfl, rfl, ⟨by decide, by decide⟩, _, _, rfl, rfl, (by show (0 : Int) < 2; decide), rfl, true, (by show V.bl (decide (V.int (i / 8 % 2) = V.int 0)) = V.bl true; rw [d8]; decide), iteT ?_⟩
        exact ⟨_, rfl, _, rfl, .one a _ v _ rfl a1' okAB hb fun H' s' => k H' (sH.trans s')⟩
      · refine ⟨_, rfl, _, _, rfl, rfl, ⟨by decide, by decide⟩, _, _, rfl, rfl, (by show (0 : Int) < 2; decide), rfl, false, (by show V.bl (decide (V.int (i / 8 % 2) = V.int 0)) = V.bl false; rw [decide_eq_false fun e => d8 (by injection e)]), iteF ?_⟩
        exact ⟨_, rfl, _, rfl, .two a _ 97 v (by rw [txs.1]; rfl) a1' okAB ⟨by decide, by decide⟩ hb fun H' s' => k H' (sH.trans s')⟩
end
theorem BadNum.le {H : Hp} {m n : Int} {v : V} (h : BadNum K H m v) (hn : n <= m) : BadNum K H n v := by
  cases h with
  | ty _ t h k => exact .ty _ t h k
  | bool b => exact .bool b
  | int i h => exact .int i fun z => h ⟨z.1, by omega⟩
theorem okab : OkTx 2 [97, 98] := fun c hc => by
  rcases List.mem_cons.mp hc with rfl | hc
  · decide
  · rw [List.mem_singleton.mp hc]; decide
section
seal L2.PSs L2.PS L2.PE L2.PA
theorem sc_law_numbers_asked : FnScope ["_law_kind", "_law_which", "_law_more", "_law_rules", "_law_bad", "_law_door"] ["_law_kind", "_law_which", "_law_more"] (defScope s_law_numbers_asked) := ⟨rfl, rfl, rfl, by decide +kernel, rfl, by decide +kernel, by decide +kernel⟩
theorem x_law_numbers_asked (T : TX K mg) : FnOk P w K mg base (CX1 P w base) 8 T.f_law_numbers_asked T.d_law_numbers_asked ["_law_kind", "_law_which", "_law_more"] (spXLaw3 T.C_BadTimes T.C_BadPlace 3) := by
  have C3 := callees3 (P := P) (w := w) (base := base) T
  have C2 := callees2 (P := P) (w := w) (base := base) T
  have Y1 := x_letter_place (P := P) (w := w) (base := base) T
  have Y2 := x_first_place (P := P) (w := w) (base := base) T
  refine T.F_law_numbers_asked.ok1 sc_law_numbers_asked (fun vs H Q E h => ?_) (fun cdv A outer s H vs Q E hr h => ?_)
  · obtain ⟨i, j, rfl, _⟩ | ⟨i, j, rfl, _⟩ := h <;> rfl
  · have nd := sc_law_numbers_asked.nd
    have hr6 := hr.mono (show 6 <= 7 by decide)
    obtain ⟨⟨k1, k2, k3⟩, ⟨k4, k5⟩, ⟨k6, k7⟩, ⟨k8, k9⟩, k10, k11⟩ := kitF K
    refine ⟨_, pss_cons (ps_set (i := 3) nd rfl (Or.inl rfl) (pe_lst (pa_cons pe_str (pa_cons pe_str pa_nil))))
      (pss_cons (ps_if (pt_cmpR op_eq (pv 0) pe_int (nomark _))
        (pss_cons (ps_set (i := 4) nd rfl (Or.inl rfl) (pe_ix (ix_listKK K) (pe_lst (pa_cons pe_non (pa_cons pe_str (pa_cons pe_bl (pa_cons (pe_lst (pa_cons pe_int pa_nil)) (pa_cons (pe_op op_sub (pe_un un_neg pe_int) (pv 2)) (pa_cons (pe_op op_add pe_int (pv 2)) (pa_cons (pe_tup (pa_cons pe_int pa_nil)) pa_nil)))))))) (pe_op op_mod (pv 1) pe_int) (fun _ _ => rfl)))
        (pss_cons (ps_set (i := 5) nd rfl (Or.inl rfl) (pe_op op_mod (pe_op op_fdiv (pv 1) pe_int) pe_int))
        (pss_cons (ps_if (pt_cmpR op_lt (pv 5) pe_int (nomark _)) (pss_one (ps_ret (pe_callL (pe_ix (ix_listKK K) (pe_lst (pa_cons (pe_cls rfl T.m_grown) (pa_cons (pe_cls rfl T.m_counts) (pa_cons (pe_cls rfl T.m_length) pa_nil)))) (pv 5) (fun _ _ => rfl)) C3 hr (pass1 fun _ _ h => h)
          (pa_cons (pv 3) (pa_cons pe_str (pa_cons (pv 4) pa_nil)))))) pss_nil)
        (pss_one (ps_ret (pe_callL (pe_ix (ix_listKK K) (pe_lst (pa_cons (pe_cls rfl T.m_letter) (pa_cons (pe_cls rfl T.m_first) pa_nil))) (pe_op op_sub (pv 5) pe_int) (fun _ _ => rfl)) C2 hr (pass1 fun _ _ h => h)
          (pa_cons (pv 3) (pa_cons pe_str (pa_cons (pv 4) (pa_cons pe_non pa_nil))))))))))
        pss_nil)
      (pss_cons (ps_set (i := 4) nd rfl (Or.inl rfl) (pe_ix (ix_listKK K) (pe_lst (pa_cons pe_non (pa_cons pe_str (pa_cons pe_bl (pa_cons (pe_lst (pa_cons pe_int pa_nil)) (pa_cons (pe_op op_sub (pe_un un_neg pe_int) (pv 2)) (pa_cons (pe_op op_add pe_int (pv 2)) (pa_cons (pe_tup (pa_cons pe_int pa_nil)) pa_nil)))))))) (pe_op op_mod (pv 1) pe_int) (fun _ _ => rfl)))
      (pss_one (ps_ret (pe_ifExp (pt_cmpR op_eq (pe_op op_mod (pe_op op_fdiv (pv 1) pe_int) pe_int) pe_int (nomark _))
        (pe_call Y1 hr rfl T.m_letter T.F_letter.kp T.b_letter .nil (pass1 fun _ _ h => h) (pa_cons (pv 3) (pa_cons pe_str (pa_cons pe_int (pa_cons (pe_ix (ix_listKK K) (pe_lst (pa_cons (pv 4) (pa_cons pe_int pa_nil))) (pe_op op_mod (pe_op op_fdiv (pv 1) pe_int) pe_int) (fun _ _ => rfl)) pa_nil)))))
        (pe_call Y2 hr6 rfl T.m_first T.F_first.kp T.b_first .nil (pass1 fun _ _ h => h) (pa_cons (pv 3) (pa_cons pe_str (pa_cons pe_int (pa_cons (pv 4) pa_nil)))))))))), ?_⟩
    have key : ∀ (c : Int) (j : Int) (Ha Hb Hc : Hp) (l p : Addr), 0 <= j -> 0 <= c -> H = H -> Ha l = some (.lst [.int 1]) -> Same Ha Hb -> Hb p = some (.tup [.int 1]) -> Same Hb Hc ->
        ∀ v ∈ ([.non, .str (Str.ofString "1"), .bl true, .ref l, .int (-1 - j), .int (c + 1 + j), .ref p] : List V), BadNum K Hc c v := by
      intro c j Ha Hb Hc l p hj hc _ a1 s1 a2 s2 v hv
      rcases List.mem_cons.mp hv with rfl | hv
      · exact .ty _ _ .non k3
      rcases List.mem_cons.mp hv with rfl | hv
      · exact .ty _ _ (.str _) k7
      rcases List.mem_cons.mp hv with rfl | hv
      · exact .bool true
      rcases List.mem_cons.mp hv with rfl | hv
      · exact .ty _ _ (.lst (s2 _ _ (s1 _ _ a1))) k11
      rcases List.mem_cons.mp hv with rfl | hv
      · exact .int _ fun z => by omega
      rcases List.mem_cons.mp hv with rfl | hv
      · exact .int _ fun z => by omega
      · rw [List.mem_singleton.mp hv]; exact .ty _ _ (.tup (s2 _ _ a2)) k9
    obtain ⟨i, j, rfl, hi, hj, hj', k⟩ | ⟨i, j, rfl, hi, hj, hj', k⟩ := h
    · refine ⟨by decide, fun a ha => ?_⟩
      generalize hH1 : upd H a _ = H1
      have s1 : Same H H1 := hH1 ▸ same_new ha
      have a1 : RuAt H1 a [[97, 98], [97]] := ruAB (hH1 ▸ upd_same)
      refine ⟨_, rfl, rfl, true, (by decide), iteT ?_⟩
      refine ⟨by decide, fun l hl => ?_⟩
      generalize hH2 : upd H1 l _ = H2
      have s2 : Same H1 H2 := hH2 ▸ same_new hl
      have a2 : H2 l = some (.lst [.int 1]) := hH2 ▸ upd_same
      refine ⟨_, rfl, _, rfl, _, _, rfl, rfl, _, rfl, _, _, rfl, rfl, by decide, fun p hp => ?_⟩
      generalize hH3 : upd H2 p _ = H3
      have s3 : Same H2 H3 := hH3 ▸ same_new hp
      have a3 : H3 p = some (.tup [.int 1]) := hH3 ▸ upd_same
      refine ⟨by show 7 <= sizeLine; decide, fun l2 hl2 => ?_⟩
      generalize hH4 : upd H3 l2 _ = H4
      have s4 : Same H3 H4 := hH4 ▸ same_new hl2
      have a4 : H4 l2 = some (.lst [.non, .str (Str.ofString "1"), .bl true, .ref l, .int (-1 - j), .int (300 + 1 + j), .ref p]) := hH4 ▸ upd_same
      have bads := key 300 j H2 H3 H4 l p hj (by decide) rfl a2 s3 a3 s4
      have h7 : 0 <= i % 7 /\ i % 7 < 7 := ⟨Int.emod_nonneg _ (by decide), Int.emod_lt_of_pos _ (by decide)⟩
      obtain ⟨v, hv, ev⟩ := atI_mem (xs := ([.non, .str (Str.ofString "1"), .bl true, .ref l, .int (-1 - j), .int (300 + 1 + j), .ref p] : List V)) h7.1 (by show i % 7 < 7; exact h7.2)
      have hb := bads v hv
      have a1' : RuAt H4 a [[97, 98], [97]] := s4 _ _ (s3 _ _ (s2 _ _ a1))
      have sH := ((s1.trans s2).trans s3).trans s4
      refine ⟨_, rfl, _, _, rfl, rfl, (by show (0 : Int) < 7; decide), l2, _, _, v, rfl, rfl, SqL.of a4, ev, ?_⟩
      refine ⟨_, rfl, _, _, rfl, rfl, ⟨by decide, by decide⟩, _, _, rfl, rfl, (by show (0 : Int) < 5; decide), ?_⟩
      have h9 : 0 <= i / 7 % 5 /\ i / 7 % 5 < 5 := ⟨Int.emod_nonneg _ (by decide), Int.emod_lt_of_pos _ (by decide)⟩
      by_cases d3 : i / 7 % 5 < 3
      · refine ⟨_, rfl, _, _, rfl, rfl, true, (by show V.bl (decide (i / 7 % 5 < 3)) = V.bl true; rw [decide_eq_true d3]), iteT ?_⟩
        refine ⟨by show 3 <= sizeLine; decide, fun q hq => ?_⟩
        obtain ⟨g, hg, ef⟩ := atI_ref (fs := [T.f_grown, T.f_counts, T.f_length]) h9.1 (by show i / 7 % 5 < 3; exact d3)
        exact ⟨_, rfl, q, _, _, _, rfl, rfl, SqL.of upd_same, ef, g, rfl, hg, _, rfl, _, rfl, _, sv [97, 98], v, _, by rw [txs.2.1], .times a _ _ _ (same_new hq _ _ a1') okAB okab (hb.same (same_new hq)), fun H' s' => k H' ((sH.trans (same_new hq)).trans s')⟩
      refine ⟨_, rfl, _, _, rfl, rfl, false, (by show V.bl (decide (i / 7 % 5 < 3)) = V.bl false; rw [decide_eq_false d3]), iteF ?_⟩
      refine ⟨by show 2 <= sizeLine; decide, fun q hq => ?_⟩
      obtain ⟨g, hg, ef⟩ := atI_ref (fs := [T.f_letter, T.f_first]) (i := i / 7 % 5 - 3) (by omega) (by show i / 7 % 5 - 3 < 2; omega)
      exact ⟨_, rfl, _, _, rfl, rfl, q, _, _, _, rfl, rfl, SqL.of upd_same, ef, g, rfl, hg, _, rfl, _, rfl, _, sv [97, 98], v, .non, _, by rw [txs.2.1], .times a _ _ _ (same_new hq _ _ a1') okAB okab (hb.same (same_new hq)), fun H' s' => k H' ((sH.trans (same_new hq)).trans s')⟩
    · refine ⟨by decide, fun a ha => ?_⟩
      generalize hH1 : upd H a _ = H1
      have s1 : Same H H1 := hH1 ▸ same_new ha
      have a1 : RuAt H1 a [[97, 98], [97]] := ruAB (hH1 ▸ upd_same)
      refine ⟨_, rfl, rfl, false, (by decide), iteF ?_⟩
      refine ⟨by decide, fun l hl => ?_⟩
      generalize hH2 : upd H1 l _ = H2
      have s2 : Same H1 H2 := hH2 ▸ same_new hl
      have a2 : H2 l = some (.lst [.int 1]) := hH2 ▸ upd_same
      refine ⟨_, rfl, _, rfl, _, _, rfl, rfl, _, rfl, _, _, rfl, rfl, by decide, fun p hp => ?_⟩
      generalize hH3 : upd H2 p _ = H3
      have s3 : Same H2 H3 := hH3 ▸ same_new hp
      have a3 : H3 p = some (.tup [.int 1]) := hH3 ▸ upd_same
      refine ⟨by show 7 <= sizeLine; decide, fun l2 hl2 => ?_⟩
      generalize hH4 : upd H3 l2 _ = H4
      have s4 : Same H3 H4 := hH4 ▸ same_new hl2
      have a4 : H4 l2 = some (.lst [.non, .str (Str.ofString "1"), .bl true, .ref l, .int (-1 - j), .int (8 + 1 + j), .ref p]) := hH4 ▸ upd_same
      have bads := key 8 j H2 H3 H4 l p hj (by decide) rfl a2 s3 a3 s4
      have h7 : 0 <= i % 7 /\ i % 7 < 7 := ⟨Int.emod_nonneg _ (by decide), Int.emod_lt_of_pos _ (by decide)⟩
      obtain ⟨v, hv, ev⟩ := atI_mem (xs := ([.non, .str (Str.ofString "1"), .bl true, .ref l, .int (-1 - j), .int (8 + 1 + j), .ref p] : List V)) h7.1 (by show i % 7 < 7; exact h7.2)
      have hb := bads v hv
      have a1' : RuAt H4 a [[97, 98], [97]] := s4 _ _ (s3 _ _ (s2 _ _ a1))
      have sH := ((s1.trans s2).trans s3).trans s4
      have e8 : ((grow [[97, 98], [97]] 3 [97, 98]).length : Int) = 8 := by decide +kernel
      have small : ∀ r ∈ ([[97, 98], [97]] : Ru), r.length <= 100000 := fun r hr => by
        rcases List.mem_cons.mp hr with rfl | hr
        · decide
        · rw [List.mem_singleton.mp hr]; decide
      refine ⟨_, rfl, _, _, rfl, rfl, (by show (0 : Int) < 7; decide), l2, _, _, v, rfl, rfl, SqL.of a4, ev, ?_⟩
      by_cases d8 : i / 14 % 2 = 0
      · refine ⟨_, rfl, _, _, rfl, rfl, ⟨by decide, by decide⟩, _, _, rfl, rfl, (by show (0 : Int) < 2; decide), rfl, true, (by show V.bl (decide (V.int (i / 14 % 2) = V.int 0)) = V.bl true; rw [d8]; decide), iteT ?_⟩
        refine ⟨_, rfl, _, rfl, by show 2 <= sizeLine; decide, fun q hq => ?_⟩
        have h2 : 0 <= i / 7 % 2 /\ i / 7 % 2 < 2 := ⟨Int.emod_nonneg _ (by decide), Int.emod_lt_of_pos _ (by decide)⟩
        obtain ⟨u, hu, eu⟩ := atI_mem (xs := ([v, .int 8] : List V)) h2.1 (by show i / 7 % 2 < 2; exact h2.2)
        have hb7 : BadNum K H4 7 u := by
          rcases List.mem_cons.mp hu with rfl | hu
          · exact hb.le (by decide)
          · rw [List.mem_singleton.mp hu]; exact .int 8 fun z => by omega
        refine ⟨_, rfl, _, _, rfl, rfl, ⟨by decide, by decide⟩, _, _, rfl, rfl, (by show (0 : Int) < 2; decide), q, _, _, u, rfl, rfl, SqL.of upd_same, eu, ?_⟩
        refine ⟨a, [[97, 98], [97]], [97, 98], 3, u, by rw [txs.2.1]; rfl, same_new hq _ _ a1', okAB, small, okab, by decide, ?_, fun H' s' => k H' ((sH.trans (same_new hq)).trans s')⟩
        rw [e8]
        exact hb7.same (same_new hq)
      · refine ⟨_, rfl, _, _, rfl, rfl, ⟨by decide, by decide⟩, _, _, rfl, rfl, (by show (0 : Int) < 2; decide), rfl, false, (by show V.bl (decide (V.int (i / 14 % 2) = V.int 0)) = V.bl false; rw [decide_eq_false fun e => d8 (by injection e)]), iteF ?_⟩
        refine ⟨_, rfl, _, rfl, a, [[97, 98], [97]], [97, 98], 3, v, by rw [txs.2.1]; rfl, a1', okAB, small, okab, by decide, ?_, fun H' s' => k H' (sH.trans s')⟩
        rw [e8]
        exact hb
end
theorem rep1 (n : Nat) : (List.replicate n [97]).flatten = List.replicate n 97 := by
  induction n with
  | zero => rfl
  | succ n ih => rw [List.replicate_succ, List.flatten_cons, ih, List.replicate_succ]; rfl
theorem okRep (n : Nat) : OkTx 1 (List.replicate n 97) := fun c hc => by rw [List.eq_of_mem_replicate hc]; decide
theorem okRu1 (n : Nat) : OkRu [List.replicate n 97] := ⟨by show 1 <= 1; decide, by show 1 <= 26; decide, fun r hr => by rw [List.mem_singleton.mp hr]; exact okRep n⟩
theorem once_rep (n m : Nat) : once [List.replicate n 97] (List.replicate m 97) = List.replicate (m * n) 97 := by
  unfold once
  induction m with
  | zero => simp
  | succ m ih =>
    rw [List.replicate_succ, List.flatMap_cons, ih, Nat.succ_mul, Nat.add_comm, <- List.replicate_append_replicate]
    rfl
theorem ru1 {H : Hp} {a : Addr} {n : Nat} (h : H a = some (.lst [.str (tx (List.replicate n [97]).flatten)])) : RuAt H a [List.replicate n 97] := by
  rw [rep1] at h; exact h
section
seal L2.PSs L2.PS L2.PE L2.PA
theorem sc_law_long_asked : FnScope ["_law_which", "_law_more"] ["_law_which", "_law_more"] (defScope s_law_long_asked) := ⟨rfl, rfl, rfl, by decide +kernel, rfl, by decide +kernel, by decide +kernel⟩
theorem x_law_long_asked (T : TX K mg) : FnOk P w K mg base (CX1 P w base) 8 T.f_law_long_asked T.d_law_long_asked ["_law_which", "_law_more"] (spXLaw2 T.C_TooLong) := by
  have Y1 := x_grown_long (P := P) (w := w) (base := base) T
  have Y2 := x_behind (P := P) (w := w) (base := base) T
  refine T.F_law_long_asked.ok1 sc_law_long_asked (fun vs H Q E h => ?_) (fun cdv A outer s H vs Q E hr h => ?_)
  · obtain ⟨i, j, rfl, _⟩ := h; rfl
  · obtain ⟨i, j, rfl, hi, hj, hj', k⟩ := h
    have hr5 := hr.mono (show 5 <= 7 by decide)
    have hr4 := hr.mono (show 4 <= 7 by decide)
    refine ⟨_, pss_cons (ps_if (pt_cmpR op_eq (pe_op op_mod (pv 0) pe_int) pe_int (nomark _)) (pss_one (ps_ret (pe_call Y1 hr5 rfl T.m_grown T.F_grown.kp T.b_grown .nil (pass1 fun _ _ h => h) (pa_cons (pe_lst (pa_cons (pe_op op_mul_str pe_str pe_int) pa_nil)) (pa_cons pe_str (pa_cons (pe_op op_add pe_int (pe_op op_mod (pv 1) pe_int)) pa_nil)))))) pss_nil)
      (pss_cons (ps_if (pt_cmpR op_eq (pe_op op_mod (pv 0) pe_int) pe_int (nomark _)) (pss_one (ps_ret (pe_call Y1 hr5 rfl T.m_grown T.F_grown.kp T.b_grown .nil (pass1 fun _ _ h => h) (pa_cons (pe_lst (pa_cons (pe_op op_mul_str pe_str pe_int) pa_nil)) (pa_cons (pe_op op_mul_str pe_str (pe_op op_add pe_int (pe_op op_mod (pv 1) pe_int))) (pa_cons pe_int pa_nil)))))) pss_nil)
      (pss_one (ps_ret (pe_call Y2 hr4 rfl T.m_behind T.F_behind.kp T.b_behind .nil (pass1 fun _ _ h => h) (pa_cons (pe_lst (pa_cons (pe_op op_mul_str pe_str pe_int) pa_nil)) (pa_cons (pe_lst (pa_cons (pe_op op_mul_str pe_str (pe_op op_add pe_int (pe_op op_mod (pv 1) pe_int))) pa_nil)) pa_nil)))))), ?_⟩
    have m9 : 0 <= j % 9 /\ j % 9 < 9 := ⟨Int.emod_nonneg _ (by decide), Int.emod_lt_of_pos _ (by decide)⟩
    have m200 : 0 <= j % 200 /\ j % 200 < 200 := ⟨Int.emod_nonneg _ (by decide), Int.emod_lt_of_pos _ (by decide)⟩
    have small : ∀ n, n <= 100000 -> ∀ r ∈ ([List.replicate n 97] : Ru), r.length <= 100000 := fun n hn r hr => by rw [List.mem_singleton.mp hr, List.length_replicate]; exact hn
    have g1 : ∀ m : Nat, grow [List.replicate 400 97] 1 (List.replicate m 97) = List.replicate (m * 400) 97 := fun m => once_rep 400 m
    by_cases d0 : i % 3 = 0
    · refine ⟨_, rfl, _, _, rfl, rfl, (by show (0 : Int) < 3; decide), rfl, true, (by show V.bl (decide (V.int (i % 3) = V.int 0)) = V.bl true; rw [d0]; decide), iteT ?_⟩
      refine ⟨[97], 400, congrArg V.str txs.1, rfl, (by decide), (by decide), by decide, fun a ha => ?_⟩
      refine ⟨_, rfl, _, _, rfl, rfl, (by show (0 : Int) < 200; decide), _, _, rfl, rfl, a, [List.replicate 400 97], [97], (2 + j % 200).toNat, ?_, ru1 upd_same, okRu1 400, small 400 (by decide), okRep 1, by omega, ⟨2, by decide, by omega, ?_⟩, fun H' s' => k H' ((same_new ha).trans s')⟩
      · rw [txs.1]
        show [V.ref a, V.str (tx [97]), V.int (2 + j % 200)] = [V.ref a, sv [97], V.int ((2 + j % 200).toNat : Int)]
        rw [show ((2 + j % 200).toNat : Int) = 2 + j % 200 by omega]
      · have e : grow [List.replicate 400 97] 2 [97] = List.replicate (400 * 400) 97 := by
          rw [grow_succ', show ([97] : Tx) = List.replicate 1 97 from rfl, g1, once_rep]
        rw [e, List.length_replicate]; decide
    refine ⟨_, rfl, _, _, rfl, rfl, (by show (0 : Int) < 3; decide), rfl, false, (by show V.bl (decide (V.int (i % 3) = V.int 0)) = V.bl false; rw [decide_eq_false fun e => d0 (by injection e)]), iteF ?_⟩
    by_cases d1 : i % 3 = 1
    · refine ⟨_, rfl, _, _, rfl, rfl, (by show (0 : Int) < 3; decide), rfl, true, (by show V.bl (decide (V.int (i % 3) = V.int 1)) = V.bl true; rw [d1]; decide), iteT ?_⟩
      refine ⟨[97], 400, congrArg V.str txs.1, rfl, (by decide), (by decide), by decide, fun a ha => ?_⟩
      refine ⟨_, rfl, _, _, rfl, rfl, (by show (0 : Int) < 9; decide), _, _, rfl, rfl, [97], (251 + j % 9).toNat, congrArg V.str txs.1, (by show V.int (251 + j % 9) = V.int ((251 + j % 9).toNat : Int); congr 1; omega), (by show 1 * (251 + j % 9).toNat <= 16777216; omega), (by omega), ?_⟩
      rw [rep1]
      refine ⟨a, [List.replicate 400 97], List.replicate (251 + j % 9).toNat 97, 1, rfl, ru1 upd_same, okRu1 400, small 400 (by decide), okRep _, by decide, ⟨1, by decide, by decide, ?_⟩, fun H' s' => k H' ((same_new ha).trans s')⟩
      rw [g1, List.length_replicate]; omega
    refine ⟨_, rfl, _, _, rfl, rfl, (by show (0 : Int) < 3; decide), rfl, false, (by show V.bl (decide (V.int (i % 3) = V.int 1)) = V.bl false; rw [decide_eq_false fun e => d1 (by injection e)]), iteF ?_⟩
    refine ⟨[97], 400, congrArg V.str txs.1, rfl, (by decide), (by decide), by decide, fun a ha => ?_⟩
    refine ⟨_, rfl, _, _, rfl, rfl, (by show (0 : Int) < 9; decide), _, _, rfl, rfl, [97], (251 + j % 9).toNat, congrArg V.str txs.1, (by show V.int (251 + j % 9) = V.int ((251 + j % 9).toNat : Int); congr 1; omega), (by show 1 * (251 + j % 9).toNat <= 16777216; omega), (by omega), by show 1 <= sizeLine; decide, fun b hb => ?_⟩
    refine .long a b [List.replicate 400 97] [List.replicate (251 + j % 9).toNat 97] rfl (same_new hb _ _ (ru1 upd_same)) (okRu1 400) (ru1 upd_same) (okRu1 _) rfl (small 400 (by decide)) (small _ (by omega)) ⟨_, List.mem_singleton.mpr rfl, ?_⟩ fun H' s' => k H' (((same_new ha).trans (same_new hb)).trans s')
    rw [once_rep, List.length_replicate]; omega
end
theorem boot_VE : bootBuiltins "ValueError" = some (.type "ValueError") := by decide +kernel
noncomputable def suiteOf : List Stmt -> List Stmt
  | .Try _ [.ExceptHandler _ _ b _] _ _ _ :: _ => b
  | _ => []
noncomputable def dues (k : Int) : List V := [.bl (decide (k = 0)), .bl (decide (k = 1)), .bl (decide (k = 2)), .bl (decide (k = 3)), .bl (decide (k = 4)), .bl (decide (k = 5)), .bl (decide (k = 6)), .bl true]
inductive SpTold (vs : List V) (H : Hp) (Q : VK) : Prop
  | mk (n i j : Int) (h0 : vs = [.int n, .int i, .int j]) (h1 : 0 <= n) (h2 : n < 7) (hi : 0 <= i) (hj : 0 <= j) (hj' : j < 1000) (k : newL H Q (dues n)) : SpTold vs H Q
noncomputable def spTold : Sp := fun vs H Q _ => SpTold vs H Q
theorem ruRep {H : Hp} {a : Addr} {n : Nat} (h : H a = some (.lst (List.replicate n [V.str (Str.ofString "a")]).flatten)) : RuAt H a (List.replicate n [97]) := by
  rw [txs.1] at h
  refine h.trans (congrArg _ (congrArg _ ?_))
  clear h
  unfold svs
  induction n with
  | zero => rfl
  | succ n ih => rw [List.replicate_succ, List.flatten_cons, ih, List.replicate_succ, List.map_cons]; rfl
section
seal L2.PSs L2.PS L2.PE L2.PA
theorem sc_law_told : FnScope ["_law_kind", "_law_which", "_law_more", "error", "_law_found"] ["_law_kind", "_law_which", "_law_more"] (defScope s_law_told) := ⟨rfl, rfl, rfl, by decide +kernel, rfl, by decide +kernel, by decide +kernel⟩
theorem ok_law_told (T : TX K mg) : FnOk P w K mg base CX0 9 T.f_law_told T.d_law_told ["_law_kind", "_law_which", "_law_more"] spTold := by
  have Y1 := x_law_rules_asked (P := P) (w := w) (base := base) T
  have Y2 := x_law_rows_asked (P := P) (w := w) (base := base) T
  have Y3 := x_law_numbers_asked (P := P) (w := w) (base := base) T
  have Y4 := x_law_long_asked (P := P) (w := w) (base := base) T
  have Y5 := x_behind (P := P) (w := w) (base := base) T
  refine T.F_law_told.ok sc_law_told (fun vs H Q E h => ?_) (fun cdv A outer s H vs Q E hr h => ?_)
  · obtain ⟨n, i, j, rfl, _⟩ := h; rfl
  · obtain ⟨n, i, j, rfl, h1, h2, hi, hj, hj', k⟩ := h
    have nd := sc_law_told.nd
    have hr4 := hr.mono (show 4 <= 8 by decide)
    obtain ⟨th, hs, hk⟩ : ∃ th : TS, (∀ e : Value, PSs ((cxOf CX0 P w K mg base ["_law_kind", "_law_which", "_law_more", "error", "_law_found"] "_law_told" (defScope s_law_told) T.f_law_told cdv A outer s H E).nox.caught e) (suiteOf (defBody s_law_told)) th) /\
        ∀ (C : Addr) (b1 b2 b3 b4 b5 b6 b7 : Bool), Err K C T.C_GrowError -> PySem.W.kitOne K (.ref C) (.ref T.C_BadRules) = some b1 -> PySem.W.kitOne K (.ref C) (.ref T.C_BadRow) = some b2 -> PySem.W.kitOne K (.ref C) (.ref T.C_BadLetter) = some b3 ->
          PySem.W.kitOne K (.ref C) (.ref T.C_BadTimes) = some b4 -> PySem.W.kitOne K (.ref C) (.ref T.C_BadPlace) = some b5 -> PySem.W.kitOne K (.ref C) (.ref T.C_TooLong) = some b6 -> PySem.W.kitOne K (.ref C) (.ref T.C_OtherRules) = some b7 -> PySem.W.kitOne K (.ref C) (.type "ValueError") = some true ->
          ∀ (rt : VK) (H1 : Hp) (ea : Addr) (σ : St), σ.length = 5 -> H1 ea = none -> newL H1 rt [.bl b1, .bl b2, .bl b3, .bl b4, .bl b5, .bl b6, .bl b7, .bl true] -> th { nx := fun _ _ => False, rt := rt } (σ.set 3 (some (.ref ea))) (upd H1 ea (ExO ea C)) := by
      refine ⟨_, fun e => pss_cons (ps_set (i := 4) nd rfl (Or.inl rfl) (pe_lst (pa_cons (pe_callB (call_isiE K T.ogt) rfl T.n_isinstance boot_isi (pa_cons (pv 3) (pa_cons (pe_cls rfl T.mC_BadRules) pa_nil))) (pa_cons (pe_callB (call_isiE K T.ogt) rfl T.n_isinstance boot_isi (pa_cons (pv 3) (pa_cons (pe_cls rfl T.mC_BadRow) pa_nil)))
          (pa_cons (pe_callB (call_isiE K T.ogt) rfl T.n_isinstance boot_isi (pa_cons (pv 3) (pa_cons (pe_cls rfl T.mC_BadLetter) pa_nil))) pa_nil)))))
        (pss_cons (ps_set (i := 4) nd rfl (Or.inl rfl) (pe_op op_cat (pv 4) (pe_lst (pa_cons (pe_callB (call_isiE K T.ogt) rfl T.n_isinstance boot_isi (pa_cons (pv 3) (pa_cons (pe_cls rfl T.mC_BadTimes) pa_nil))) (pa_cons (pe_callB (call_isiE K T.ogt) rfl T.n_isinstance boot_isi (pa_cons (pv 3) (pa_cons (pe_cls rfl T.mC_BadPlace) pa_nil)))
          (pa_cons (pe_callB (call_isiE K T.ogt) rfl T.n_isinstance boot_isi (pa_cons (pv 3) (pa_cons (pe_cls rfl T.mC_TooLong) pa_nil))) pa_nil))))))
        (pss_one (ps_ret (pe_op op_cat (pv 4) (pe_lst (pa_cons (pe_callB (call_isiE K T.ogt) rfl T.n_isinstance boot_isi (pa_cons (pv 3) (pa_cons (pe_cls rfl T.mC_OtherRules) pa_nil))) (pa_cons (pe_callB (call_isiE K T.ogt) rfl T.n_isinstance boot_isi (pa_cons (pv 3) (pa_cons (pe_ty rfl T.n_ValueError boot_VE) pa_nil))) pa_nil))))))), ?_⟩
      intro C b1 b2 b3 b4 b5 b6 b7 er q1 q2 q3 q4 q5 q6 q7 q8 rt H1 ea σ hl hn kk
      match σ, hl with
      | [o0, o1, o2, o3, o4], _ =>
        generalize hH2 : upd H1 ea _ = H2
        have s2 : Same H1 H2 := hH2 ▸ same_new hn
        have a2 : H2 ea = some (ExO ea C) := hH2 ▸ upd_same
        refine ⟨_, rfl, ea, C, T.C_GrowError, _, _, b1, rfl, .own _, a2, er, q1, _, rfl, ea, C, T.C_GrowError, _, _, b2, rfl, .own _, a2, er, q2, _, rfl, ea, C, T.C_GrowError, _, _, b3, rfl, .own _, a2, er, q3, by show 3 <= sizeLine; decide, fun l1 g1 => ?_⟩
        generalize hH3 : upd H2 l1 _ = H3
        have s3 : Same H2 H3 := hH3 ▸ same_new g1
        have a3 : H3 l1 = some (.lst [.bl b1, .bl b2, .bl b3]) := hH3 ▸ upd_same
        have e3 := s3 _ _ a2
        refine ⟨_, rfl, _, rfl, ea, C, T.C_GrowError, _, _, b4, rfl, .own _, e3, er, q4, _, rfl, ea, C, T.C_GrowError, _, _, b5, rfl, .own _, e3, er, q5, _, rfl, ea, C, T.C_GrowError, _, _, b6, rfl, .own _, e3, er, q6, by show 3 <= sizeLine; decide, fun l2 g2 => ?_⟩
        generalize hH4 : upd H3 l2 _ = H4
        have s4 : Same H3 H4 := hH4 ▸ same_new g2
        have a4 : H4 l2 = some (.lst [.bl b4, .bl b5, .bl b6]) := hH4 ▸ upd_same
        refine ⟨l1, l2, _, _, rfl, rfl, s4 _ _ a3, a4, by show 3 + 3 <= sizeLine; decide, fun l3 g3 => ?_⟩
        generalize hH5 : upd H4 l3 _ = H5
        have s5 : Same H4 H5 := hH5 ▸ same_new g3
        have a5 : H5 l3 = some (.lst [.bl b1, .bl b2, .bl b3, .bl b4, .bl b5, .bl b6]) := hH5 ▸ upd_same
        have e5 := s5 _ _ (s4 _ _ e3)
        refine ⟨_, rfl, _, rfl, ea, C, T.C_GrowError, _, _, b7, rfl, .own _, e5, er, q7, _, rfl, ea, C, T.C_GrowError, _, _, true, rfl, .ty _, e5, er, q8, by show 2 <= sizeLine; decide, fun l4 g4 => ?_⟩
        generalize hH6 : upd H5 l4 _ = H6
        have s6 : Same H5 H6 := hH6 ▸ same_new g4
        have a6 : H6 l4 = some (.lst [.bl b7, .bl true]) := hH6 ▸ upd_same
        refine ⟨l3, l4, _, _, rfl, rfl, s6 _ _ a5, a6, by show 6 + 2 <= sizeLine; decide, fun l5 g5 => ?_⟩
        have sA := (((s2.trans s3).trans s4).trans s5).trans s6
        exact kk l5 _ (sA.trans (same_new g5)) (sA.free g5) upd_same
    refine ⟨_, pss_cons (ps_try (G := T.C_GrowError) (j := 3) T.er_GrowError rfl T.mC_GrowError nd rfl rfl rfl rfl rfl (fun E pn xe hp => pss_one (ps_if (pt_cmpR op_eq (pv 0) pe_int (nomark _)) (pss_one (ps_expr (pe_call Y1 hr rfl T.m_law_rules_asked T.F_law_rules_asked.kp T.b_law_rules_asked .nil hp (pa_cons (pv 1) (pa_cons (pv 2) pa_nil)))))
        (pss_one (ps_if (pt_cmpR op_lt (pv 0) pe_int (nomark _)) (pss_one (ps_expr (pe_call Y2 hr rfl T.m_law_rows_asked T.F_law_rows_asked.kp T.b_law_rows_asked .nil hp (pa_cons (pv 0) (pa_cons (pv 1) (pa_cons (pv 2) pa_nil))))))
        (pss_one (ps_if (pt_cmpR op_lt (pv 0) pe_int (nomark _)) (pss_one (ps_expr (pe_call Y3 hr rfl T.m_law_numbers_asked T.F_law_numbers_asked.kp T.b_law_numbers_asked .nil hp (pa_cons (pv 0) (pa_cons (pv 1) (pa_cons (pv 2) pa_nil))))))
        (pss_one (ps_if (pt_cmpR op_eq (pv 0) pe_int (nomark _)) (pss_one (ps_expr (pe_call Y4 hr rfl T.m_law_long_asked T.F_law_long_asked.kp T.b_law_long_asked .nil hp (pa_cons (pv 1) (pa_cons (pv 2) pa_nil)))))
        (pss_one (ps_expr (pe_call Y5 hr4 rfl T.m_behind T.F_behind.kp T.b_behind .nil hp (pa_cons (pe_lst (pa_cons pe_str (pa_cons pe_str pa_nil))) (pa_cons (pe_ix (ix_listKK K) (pe_lst (pa_cons (pe_lst (pa_cons pe_str pa_nil)) (pa_cons (pe_lst (pa_cons pe_str (pa_cons pe_str (pa_cons pe_str pa_nil)))) (pa_cons (pe_op op_rep (pe_lst (pa_cons pe_str pa_nil)) (pe_op op_add pe_int (pe_op op_mod (pv 2) pe_int))) pa_nil)))) (pe_op op_mod (pv 1) pe_int) (fun _ _ => rfl)) pa_nil))))))))))))) hs)
      (pss_one (ps_ret (pe_lst pa_nil))), ?_⟩
    have fin : ∀ (C : Addr) (b1 b2 b3 b4 b5 b6 b7 : Bool), Err K C T.C_GrowError -> PySem.W.kitOne K (.ref C) (.ref T.C_BadRules) = some b1 -> PySem.W.kitOne K (.ref C) (.ref T.C_BadRow) = some b2 -> PySem.W.kitOne K (.ref C) (.ref T.C_BadLetter) = some b3 ->
        PySem.W.kitOne K (.ref C) (.ref T.C_BadTimes) = some b4 -> PySem.W.kitOne K (.ref C) (.ref T.C_BadPlace) = some b5 -> PySem.W.kitOne K (.ref C) (.ref T.C_TooLong) = some b6 -> PySem.W.kitOne K (.ref C) (.ref T.C_OtherRules) = some b7 -> PySem.W.kitOne K (.ref C) (.type "ValueError") = some true ->
        dues n = [.bl b1, .bl b2, .bl b3, .bl b4, .bl b5, .bl b6, .bl b7, .bl true] -> anyX H (xTry K T.C_GrowError th 5 3 Q) C := by
      intro C b1 b2 b3 b4 b5 b6 b7 er q1 q2 q3 q4 q5 q6 q7 q8 hd H1 s1
      refine ⟨C, rfl, er, fun ea σ hl hn => hk C b1 b2 b3 b4 b5 b6 b7 er q1 q2 q3 q4 q5 q6 q7 q8 Q H1 ea σ hl hn ?_⟩
      intro p H' s' hp hp'
      exact k p H' (s1.trans s') (s1.free hp) (by rw [hd]; exact hp')
    have hn7 : n = 0 \/ n = 1 \/ n = 2 \/ n = 3 \/ n = 4 \/ n = 5 \/ n = 6 := by omega
    rcases hn7 with rfl | rfl | rfl | rfl | rfl | rfl | rfl
    · refine ⟨_, rfl, rfl, true, (by decide), iteT ?_⟩
      exact ⟨_, rfl, _, rfl, i, j, rfl, hi, hj, hj', fin T.C_BadRules _ _ _ _ _ _ _ T.er_BadRules T.kt_BadRules_BadRules T.kt_BadRules_BadRow T.kt_BadRules_BadLetter T.kt_BadRules_BadTimes T.kt_BadRules_BadPlace T.kt_BadRules_TooLong T.kt_BadRules_OtherRules T.kv_BadRules (by decide)⟩
    · refine ⟨_, rfl, rfl, false, (by decide), iteF ?_⟩
      refine ⟨_, rfl, _, _, rfl, rfl, true, (by decide), iteT ?_⟩
      exact ⟨_, rfl, _, rfl, _, rfl, .one i j rfl hi hj hj' (fin T.C_BadRow _ _ _ _ _ _ _ T.er_BadRow T.kt_BadRow_BadRules T.kt_BadRow_BadRow T.kt_BadRow_BadLetter T.kt_BadRow_BadTimes T.kt_BadRow_BadPlace T.kt_BadRow_TooLong T.kt_BadRow_OtherRules T.kv_BadRow (by decide))⟩
    · refine ⟨_, rfl, rfl, false, (by decide), iteF ?_⟩
      refine ⟨_, rfl, _, _, rfl, rfl, true, (by decide), iteT ?_⟩
      exact ⟨_, rfl, _, rfl, _, rfl, .two i j rfl hi hj hj' (fin T.C_BadLetter _ _ _ _ _ _ _ T.er_BadLetter T.kt_BadLetter_BadRules T.kt_BadLetter_BadRow T.kt_BadLetter_BadLetter T.kt_BadLetter_BadTimes T.kt_BadLetter_BadPlace T.kt_BadLetter_TooLong T.kt_BadLetter_OtherRules T.kv_BadLetter (by decide))⟩
    · refine ⟨_, rfl, rfl, false, (by decide), iteF ?_⟩
      refine ⟨_, rfl, _, _, rfl, rfl, false, (by decide), iteF ?_⟩
      refine ⟨_, rfl, _, _, rfl, rfl, true, (by decide), iteT ?_⟩
      exact ⟨_, rfl, _, rfl, _, rfl, .one i j rfl hi hj hj' (fin T.C_BadTimes _ _ _ _ _ _ _ T.er_BadTimes T.kt_BadTimes_BadRules T.kt_BadTimes_BadRow T.kt_BadTimes_BadLetter T.kt_BadTimes_BadTimes T.kt_BadTimes_BadPlace T.kt_BadTimes_TooLong T.kt_BadTimes_OtherRules T.kv_BadTimes (by decide))⟩
    · refine ⟨_, rfl, rfl, false, (by decide), iteF ?_⟩
      refine ⟨_, rfl, _, _, rfl, rfl, false, (by decide), iteF ?_⟩
      refine ⟨_, rfl, _, _, rfl, rfl, true, (by decide), iteT ?_⟩
      exact ⟨_, rfl, _, rfl, _, rfl, .two i j rfl hi hj hj' (fin T.C_BadPlace _ _ _ _ _ _ _ T.er_BadPlace T.kt_BadPlace_BadRules T.kt_BadPlace_BadRow T.kt_BadPlace_BadLetter T.kt_BadPlace_BadTimes T.kt_BadPlace_BadPlace T.kt_BadPlace_TooLong T.kt_BadPlace_OtherRules T.kv_BadPlace (by decide))⟩
    · refine ⟨_, rfl, rfl, false, (by decide), iteF ?_⟩
      refine ⟨_, rfl, _, _, rfl, rfl, false, (by decide), iteF ?_⟩
      refine ⟨_, rfl, _, _, rfl, rfl, false, (by decide), iteF ?_⟩
      refine ⟨_, rfl, rfl, true, (by decide), iteT ?_⟩
      exact ⟨_, rfl, _, rfl, i, j, rfl, hi, hj, hj', fin T.C_TooLong _ _ _ _ _ _ _ T.er_TooLong T.kt_TooLong_BadRules T.kt_TooLong_BadRow T.kt_TooLong_BadLetter T.kt_TooLong_BadTimes T.kt_TooLong_BadPlace T.kt_TooLong_TooLong T.kt_TooLong_OtherRules T.kv_TooLong (by decide)⟩
    · refine ⟨_, rfl, rfl, false, (by decide), iteF ?_⟩
      refine ⟨_, rfl, _, _, rfl, rfl, false, (by decide), iteF ?_⟩
      refine ⟨_, rfl, _, _, rfl, rfl, false, (by decide), iteF ?_⟩
      refine ⟨_, rfl, rfl, false, (by decide), iteF ?_⟩
      have F := fin T.C_OtherRules _ _ _ _ _ _ _ T.er_OtherRules T.kt_OtherRules_BadRules T.kt_OtherRules_BadRow T.kt_OtherRules_BadLetter T.kt_OtherRules_BadTimes T.kt_OtherRules_BadPlace T.kt_OtherRules_TooLong T.kt_OtherRules_OtherRules T.kv_OtherRules (by decide)
      refine ⟨by decide, fun a ha => ?_⟩
      generalize hH1 : upd H a _ = H1
      have s1 : Same H H1 := hH1 ▸ same_new ha
      have a1 : H1 a = some (.lst [.str (Str.ofString "a"), .str (Str.ofString "b")]) := hH1 ▸ upd_same
      refine ⟨by decide, fun l1 g1 => ?_⟩
      generalize hH2 : upd H1 l1 _ = H2
      have s2 : Same H1 H2 := hH2 ▸ same_new g1
      have a2 : H2 l1 = some (.lst [.str (Str.ofString "a")]) := hH2 ▸ upd_same
      refine ⟨by decide, fun l2 g2 => ?_⟩
      generalize hH3 : upd H2 l2 _ = H3
      have s3 : Same H2 H3 := hH3 ▸ same_new g2
      have a3 : H3 l2 = some (.lst [.str (Str.ofString "a"), .str (Str.ofString "b"), .str (Str.ofString "c")]) := hH3 ▸ upd_same
      refine ⟨by decide, fun l3 g3 => ?_⟩
      generalize hH4 : upd H3 l3 _ = H4
      have s4 : Same H3 H4 := hH4 ▸ same_new g3
      have a4 : H4 l3 = some (.lst [.str (Str.ofString "a")]) := hH4 ▸ upd_same
      have m9 : 0 <= j % 9 /\ j % 9 < 9 := ⟨Int.emod_nonneg _ (by decide), Int.emod_lt_of_pos _ (by decide)⟩
      refine ⟨_, rfl, _, _, rfl, rfl, (by show (0 : Int) < 9; decide), _, _, rfl, rfl, l3, _, _, rfl, rfl, a4, by omega, by omega, by show 1 * (3 + j % 9).toNat <= sizeLine; exact Nat.le_trans (show 1 * (3 + j % 9).toNat <= 100 by omega) (by decide), fun l4 g4 => ?_⟩
      generalize hH5 : upd H4 l4 _ = H5
      have s5 : Same H4 H5 := hH5 ▸ same_new g4
      have a5 : H5 l4 = some (.lst (List.replicate (3 + j % 9).toNat [V.str (Str.ofString "a")]).flatten) := hH5 ▸ upd_same
      refine ⟨by show 3 <= sizeLine; decide, fun l5 g5 => ?_⟩
      generalize hH6 : upd H5 l5 _ = H6
      have s6 : Same H5 H6 := hH6 ▸ same_new g5
      have a6 : H6 l5 = some (.lst [.ref l1, .ref l2, .ref l4]) := hH6 ▸ upd_same
      have r1 : RuAt H6 a [[97], [98]] := ((((s2.trans s3).trans s4).trans s5).trans s6) _ _ (a1.trans (by rw [txs.1, show Str.ofString "b" = tx [98] from by decide +kernel]; rfl))
      have ok2 : OkRu [[97], [98]] := ⟨by decide, by decide, fun r hr => by
        rcases List.mem_cons.mp hr with rfl | hr
        · exact fun c hc => by rw [List.mem_singleton.mp hc]; decide
        · rw [List.mem_singleton.mp hr]; exact fun c hc => by rw [List.mem_singleton.mp hc]; decide⟩
      have all : ∀ v ∈ ([l1, l2, l4] : List Addr), ∃ S, RuAt H6 v S /\ OkRu S /\ ([[97], [98]] : Ru).length ≠ S.length := by
        intro v hv
        rcases List.mem_cons.mp hv with rfl | hv
        · exact ⟨[[97]], (((s3.trans s4).trans s5).trans s6) _ _ (ruA a2), okA, by decide⟩
        rcases List.mem_cons.mp hv with rfl | hv
        · refine ⟨[[97], [98], [99]], ((s4.trans s5).trans s6) _ _ (a3.trans (by rw [txs.1, show Str.ofString "b" = tx [98] from by decide +kernel, show Str.ofString "c" = tx [99] from by decide +kernel]; rfl)), ⟨by decide, by decide, fun r hr => ?_⟩, by decide⟩
          rcases List.mem_cons.mp hr with rfl | hr
          · exact fun c hc => by rw [List.mem_singleton.mp hc]; decide
          rcases List.mem_cons.mp hr with rfl | hr
          · exact fun c hc => by rw [List.mem_singleton.mp hc]; decide
          · rw [List.mem_singleton.mp hr]; exact fun c hc => by rw [List.mem_singleton.mp hc]; decide
        · rw [List.mem_singleton.mp hv]
          refine ⟨List.replicate (3 + j % 9).toNat [97], s6 _ _ (ruRep a5), ⟨by rw [List.length_replicate]; omega, by rw [List.length_replicate]; omega, fun r hr => ?_⟩, by rw [List.length_replicate]; show 2 ≠ _; omega⟩
          rw [List.eq_of_mem_replicate hr, List.length_replicate]
          exact fun c hc => by rw [List.mem_singleton.mp hc]; omega
      have h3 : 0 <= i % 3 /\ i % 3 < 3 := ⟨Int.emod_nonneg _ (by decide), Int.emod_lt_of_pos _ (by decide)⟩
      obtain ⟨v, hv, ev⟩ := atI_ref (fs := [l1, l2, l4]) h3.1 (by show i % 3 < 3; exact h3.2)
      obtain ⟨S, r2, okS, hne⟩ := all v hv
      exact ⟨_, rfl, _, _, rfl, rfl, (by show (0 : Int) < 3; decide), l5, _, _, _, rfl, rfl, SqL.of a6, ev, .other a v [[97], [98]] S rfl r1 ok2 r2 okS hne fun H' s' => F H' ((((((s1.trans s2).trans s3).trans s4).trans s5).trans s6).trans s')⟩
end
noncomputable def turnC (k : Nat) : Nat := if k = 0 then 122 else 96 + k
noncomputable def TR : Ru := (List.range 26).map fun k => [turnC k]
theorem okTR : OkRu TR := ⟨by decide +kernel, by decide +kernel, by unfold OkTx; decide +kernel⟩
theorem smallTR : ∀ r ∈ TR, r.length <= 100000 := by decide +kernel
theorem shut_grow {R : Ru} {L : Tx} (h : ∀ e ∈ L, ∀ g ∈ R.getD (e - 97) [], g ∈ L) {x : Tx} (hx : ∀ e ∈ x, e ∈ L) : ∀ t, ∀ e ∈ grow R t x, e ∈ L := by
  intro t
  induction t with
  | zero => exact hx
  | succ t ih =>
    intro e he
    rw [grow_succ'] at he
    obtain ⟨c, hc, hg⟩ := List.mem_flatMap.mp he
    exact h c (ih c hc) e hg
theorem grow_rep (n m : Nat) : ∀ t, grow [List.replicate n 97] t (List.replicate m 97) = List.replicate (m * n ^ t) 97 := by
  intro t
  induction t with
  | zero => rw [Nat.pow_zero, Nat.mul_one]; rfl
  | succ t ih => rw [grow_succ', ih, once_rep, Nat.pow_succ, Nat.mul_assoc]
theorem txz : Str.ofString "az" = tx [97, 122] /\ Str.ofString "zy" = tx [122, 121] /\ Str.ofString "b" = tx [98] /\ Str.ofString "aa" = tx [97, 97] /\ Str.ofString "aaa" = tx [97, 97, 97] := ⟨by decide +kernel, by decide +kernel, by decide +kernel, by decide +kernel, by decide +kernel⟩
theorem decV (k m : Int) : decide (V.int k = V.int m) = decide (k = m) := by
  rw [decide_eq_decide]
  exact ⟨fun e => by injection e, fun e => by rw [e]⟩
theorem getI7 {ns : List Int} {i : Nat} {v : V} (h : (ns.map V.int)[i]? = some v) : ∃ z, v = V.int z := by
  rw [List.getElem?_map] at h
  obtain ⟨z, _, e⟩ := Option.map_eq_some_iff.mp h
  exact ⟨z, e.symm⟩
section
seal L2.PSs L2.PS L2.PE L2.PA
theorem sc_law : FnScope ["_law_script", "_law_cell", "_law_kind", "_law_due", "_law_every", "_law_turned"] ["_law_script"] (defScope s_law) := ⟨rfl, rfl, rfl, by decide +kernel, rfl, by decide +kernel, by decide +kernel⟩
theorem ok_law (T : TX K mg) : FnOk P w K mg base CX0 10 T.f_law T.d_law ["_law_script"] (spLaw K) := by
  have G1 := ok_grown (P := P) (w := w) (base := base) T
  have G2 := ok_law_told (P := P) (w := w) (base := base) T
  have G3 := ok_comes (P := P) (w := w) (base := base) T
  have G4 := ok_Times_shows (P := P) (w := w) (base := base) T
  have G5 := ok_length (P := P) (w := w) (base := base) T
  have G6 := ok_letter (P := P) (w := w) (base := base) T
  have G7 := ok_first (P := P) (w := w) (base := base) T
  refine T.F_law.ok sc_law (fun vs H Q E h => ?_) (fun cdv A outer s H vs Q E hr h => ?_)
  · obtain ⟨a, ns, rfl, _⟩ := h; rfl
  · obtain ⟨a, ns, rfl, ha, hn, k⟩ := h
    have nd := sc_law.nd
    have hu := hu_of hr
    have hr4 := hr.mono (show 4 <= 9 by decide)
    have hr5 := hr.mono (show 5 <= 9 by decide)
    have hr6 := hr.mono (show 6 <= 9 by decide)
    have hr7 := hr.mono (show 7 <= 9 by decide)
    refine ⟨_, pss_cut (ps_for PassesOwn.never rfl (pi_listK K (pv 0)) (pg_name (i := 1) nd rfl (Or.inl rfl))
        (pss_cons (ps_set (i := 2) nd rfl (Or.inl rfl) (pe_op op_mod (pv 1) pe_int))
        (pss_cut (ps_if (PW.pt (pw_and (pt_cmpR op_eq (pv 2) pe_int (nomark _)) (pw_and (pt_cmpR op_eq (pe_op op_mod (pe_op op_fdiv (pv 1) pe_int) pe_int) pe_int (nomark _))
          (pw_and1 (pt_cmpR op_ne (pe_callB call_lenSS rfl T.n_len PySem.boot_len (pa_cons (pe_call G1 hr5 rfl T.m_grown T.F_grown.kp T.b_grown .nil pass0 (pa_cons (pe_lst (pa_cons (pe_op op_mul_str pe_str pe_int) pa_nil)) (pa_cons (pe_op op_mul_str pe_str pe_int) (pa_cons pe_int pa_nil)))) pa_nil)) pe_int (nomark _)))))) (pss_one (ps_ret pe_bl)) pss_nil)
        (pss_cons (ps_set (i := 3) nd rfl (Or.inl rfl) (pe_lst (pa_cons (pe_cmpR op_eq (pv 2) pe_int (nomark _)) (pa_cons (pe_cmpR op_eq (pv 2) pe_int (nomark _)) (pa_cons (pe_cmpR op_eq (pv 2) pe_int (nomark _)) (pa_cons (pe_cmpR op_eq (pv 2) pe_int (nomark _)) (pa_cons (pe_cmpR op_eq (pv 2) pe_int (nomark _))
          (pa_cons (pe_cmpR op_eq (pv 2) pe_int (nomark _)) (pa_cons (pe_cmpR op_eq (pv 2) pe_int (nomark _)) (pa_cons pe_bl pa_nil))))))))))
        (pss_one (ps_if (pt_cmpR (op_neLK K hu) (pe_call G2 hr rfl T.m_law_told T.F_law_told.kp T.b_law_told .nil pass0 (pa_cons (pv 2) (pa_cons (pe_op op_mod (pe_op op_fdiv (pv 1) pe_int) pe_int) (pa_cons (pe_op op_mod (pe_op op_fdiv (pv 1) pe_int) pe_int) pa_nil)))) (pv 3) (nomark _)) (pss_one (ps_ret pe_bl)) pss_nil))))))
      (pss_cons (ps_set (i := 4) nd rfl (Or.inr rfl) pe_str)
      (pss_cut (ps_lc rfl nd (i := 5) rfl rfl (cs1 (ns := ["_law_at"]) (x := "_law_every") (k := 4) rfl (Or.inl rfl) rfl (by decide +kernel)) (pi_range1 rfl T.n_range (pa_cons pe_int pa_nil)) (fun _ _ _ _ _ => pgc 0) (fun _ _ _ _ _ => pif_nil) (fun _ _ _ _ _ => pe_ix ix_strS (pv 1) (pe_op op_sub (pv 0) pe_int) (fun _ _ => rfl)))
      (pss_cut (ps_if (PW.pt (pw_or (pt_cmpR op_ne (pe_call G1 hr5 rfl T.m_grown T.F_grown.kp T.b_grown .nil pass0 (pa_cons (pv 5) (pa_cons (pv 4) (pa_cons pe_int pa_nil)))) (pv 4) (nomark _)) (pw_or1 (pt_cmpR op_ne (pe_call G1 hr5 rfl T.m_grown T.F_grown.kp T.b_grown .nil pass0 (pa_cons (pv 5) (pa_cons pe_str (pa_cons pe_int pa_nil)))) pe_str (nomark _))))) (pss_one (ps_ret pe_bl)) pss_nil)
      (pss_cut (ps_if (pt_cmpR op_isnotB (pe_meth (pe_call G3 hr4 rfl T.m_comes T.F_comes.kp T.b_comes .nil pass0 (pa_cons (pv 5) (pa_cons pe_str (pa_cons pe_str pa_nil)))) T.cl_Times T.me_Times_shows G4 hr4 T.b_Times_shows .nil pass0 (pa_cons (pv 5) (pa_cons pe_str (pa_cons pe_str pa_nil)))) pe_bl (nomark _)) (pss_one (ps_ret pe_bl)) pss_nil)
      (pss_cut (ps_if (PW.pt (pw_or (pt_cmpR op_ne (pe_call G5 hr6 rfl T.m_length T.F_length.kp T.b_length .nil pass0 (pa_cons (pe_lst (pa_cons pe_str (pa_cons pe_str pa_nil))) (pa_cons pe_str (pa_cons pe_int pa_nil)))) pe_int (nomark _))
        (pw_or (pt_cmpR op_ne (pe_call G5 hr6 rfl T.m_length T.F_length.kp T.b_length .nil pass0 (pa_cons (pe_lst (pa_cons pe_str pa_nil)) (pa_cons pe_str (pa_cons pe_int pa_nil)))) (pe_op op_shl pe_int pe_int) (nomark _))
        (pw_or1 (pt_cmpR op_ne (pe_call G1 hr5 rfl T.m_grown T.F_grown.kp T.b_grown .nil pass0 (pa_cons (pe_lst (pa_cons pe_str pa_nil)) (pa_cons pe_str (pa_cons pe_int pa_nil)))) pe_str (nomark _)))))) (pss_one (ps_ret pe_bl)) pss_nil)
      (pss_one (ps_ret (pe_and (pe_cmpR op_eq (pe_call G6 hr7 rfl T.m_letter T.F_letter.kp T.b_letter .nil pass0 (pa_cons (pe_lst (pa_cons pe_str (pa_cons pe_str pa_nil))) (pa_cons pe_str (pa_cons pe_int (pa_cons pe_int pa_nil))))) pe_str (nomark _))
        (pe_one (pe_cmpR (op_eqLK K hu) (pe_call G7 hr6 rfl T.m_first T.F_first.kp T.b_first .nil pass0 (pa_cons (pe_lst (pa_cons pe_str (pa_cons pe_str pa_nil))) (pa_cons pe_str (pa_cons pe_int (pa_cons pe_int pa_nil))))) (pe_lst (pa_cons pe_int (pa_cons pe_int pa_nil))) (nomark _))))))))))), ?_⟩
    have small : ∀ n, n <= 100000 -> ∀ r ∈ ([List.replicate n 97] : Ru), r.length <= 100000 := fun n hn r hr => by rw [List.mem_singleton.mp hr, List.length_replicate]; exact hn
    refine ⟨fun σ' H' => Same H H' /\ ∃ o1 o2 o3 : Option V, σ' = [some (.ref a), o1, o2, o3, none, none], ?_, ?_⟩
    · refine ⟨_, rfl, a, rfl, ⟨_, ha⟩, ?_⟩
      refine for_list (K := K) (a := a) (xs := ns.map V.int) (fun i σ H' => Same H H' /\ ∃ o1 o2 o3 : Option V, σ = [some (.ref a), o1, o2, o3, none, none]) ⟨Same.refl _, none, none, none, rfl⟩ (fun i σ H' _ ⟨z, _⟩ => z.seq ha) ?_ (fun σ H' h => h)
      rintro i v σ H4 hv ⟨s4, o1, o2, o3, rfl⟩
      obtain ⟨z, rfl⟩ := getI7 hv
      have m7 : 0 <= z % 7 /\ z % 7 < 7 := ⟨Int.emod_nonneg _ (by decide), Int.emod_lt_of_pos _ (by decide)⟩
      refine ⟨_, rfl, _, _, rfl, rfl, (by show (0 : Int) < 7; decide), ?_⟩
      refine ⟨fun σ' H' => Same H H' /\ σ' = [some (.ref a), some (.int z), some (.int (z % 7)), o3, none, none], ?_, ?_⟩
      · by_cases k5 : z % 7 = 5
        · refine ⟨_, rfl, rfl, true, (by show V.bl (decide (V.int (z % 7) = V.int 5)) = V.bl true; rw [k5]; decide), iteT ?_⟩
          by_cases k4 : z / 7 % 9 = 4
          · refine ⟨_, rfl, _, _, rfl, rfl, ⟨by decide, by decide⟩, _, _, rfl, rfl, (by show (0 : Int) < 9; decide), rfl, true, (by show V.bl (decide (V.int (z / 7 % 9) = V.int 4)) = V.bl true; rw [k4]; decide), iteT ?_⟩
            refine ⟨[97], 400, congrArg V.str txs.1, rfl, (by decide), (by decide), by decide, fun q hq => ?_⟩
            refine ⟨[97], 250, congrArg V.str txs.1, rfl, (by decide), (by decide), ?_⟩
            rw [rep1]
            have e1 : grow [List.replicate 400 97] 1 (List.replicate 250 97) = List.replicate 100000 97 := grow_rep 400 250 1
            refine ⟨q, [List.replicate 400 97], List.replicate 250 97, 1, rfl, ru1 upd_same, okRu1 400, small 400 (by decide), okRep _, by rw [List.length_replicate]; decide, by decide, fun k h1 h2 => ?_, fun H5 s5 => ?_⟩
            · obtain rfl : k = 1 := by omega
              rw [e1, List.length_replicate]; exact Nat.le_refl _
            · rw [e1]
              refine ⟨tx (List.replicate 100000 97), rfl, by rw [tx_len, List.length_replicate]; decide, rfl, false, ?_, iteF ⟨s4.trans ((same_new hq).trans s5), rfl⟩⟩
              rw [tx_len, List.length_replicate]
              decide
          · exact ⟨_, rfl, _, _, rfl, rfl, ⟨by decide, by decide⟩, _, _, rfl, rfl, (by show (0 : Int) < 9; decide), rfl, false, (by show V.bl (decide (V.int (z / 7 % 9) = V.int 4)) = V.bl false; rw [decV, decide_eq_false k4]), iteF (iteF ⟨s4, rfl⟩)⟩
        · exact ⟨_, rfl, rfl, false, (by show V.bl (decide (V.int (z % 7) = V.int 5)) = V.bl false; rw [decV, decide_eq_false k5]), iteF (iteF ⟨s4, rfl⟩)⟩
      rintro _ H5 ⟨s5, rfl⟩
      refine ⟨_, rfl, rfl, _, rfl, rfl, _, rfl, rfl, _, rfl, rfl, _, rfl, rfl, _, rfl, rfl, _, rfl, rfl, by show 8 <= sizeLine; decide, fun d hd => ?_⟩
      generalize hH6 : upd H5 d _ = H6
      have s6 : Same H5 H6 := hH6 ▸ same_new hd
      have a6 : H6 d = some (.lst (dues (z % 7))) := by
        rw [<- hH6, upd_same]
        unfold dues
        rw [decV, decV, decV, decV, decV, decV, decV]
      have m1 : 0 <= z / 7 % 100000 := Int.emod_nonneg _ (by decide)
      have m2 : 0 <= z / 700000 % 1000 /\ z / 700000 % 1000 < 1000 := ⟨Int.emod_nonneg _ (by decide), Int.emod_lt_of_pos _ (by decide)⟩
      refine ⟨_, rfl, _, rfl, _, _, rfl, rfl, ⟨by decide, by decide⟩, _, _, rfl, rfl, (by show (0 : Int) < 100000; decide), _, rfl, _, _, rfl, rfl, ⟨by decide, by decide⟩, _, _, rfl, rfl, (by show (0 : Int) < 1000; decide), z % 7, z / 7 % 100000, z / 700000 % 1000, rfl, m7.1, m7.2, m1, m2.1, m2.2, fun p H7 s7 hp hp7 => ?_⟩
      exact ⟨_, rfl, p, d, _, _, rfl, rfl, SqL.of hp7, SqL.of (s7 _ _ a6), flat_pair rfl, false, rfl, iteF ⟨(s5.trans s6).trans s7, _, _, _, rfl⟩⟩
    rintro _ H1 ⟨s1, o1, o2, o3, rfl⟩
    rw [alph_eq]
    refine ⟨fun σ' H' => ∃ D : Addr, RuAt H' D TR /\ σ' = [some (.ref a), o1, o2, o3, some (sv (lets 26)), some (.ref D)], ?_, ?_⟩
    · refine ⟨_, rfl, by decide, by decide, ?_⟩
      refine lcb_map (zs := List.range (26 : Int).toNat) (ι := fun (k : Nat) => V.int (0 + (k : Int))) (f := fun k => sv [turnC k]) (wk_range 0 _) rfl (by decide) (fun i t H' Kt hz hs kk => ?_) fun D H3 s3 hD hDv => ?_
      · have ht : t < 26 := List.mem_range.mp (List.mem_of_getElem? hz)
        have tab : ∀ k : Fin 26, atI (lets 26) (0 + ((k : Nat) : Int) - 1) = some (turnC k) := by decide +kernel
        refine ⟨_, rfl, _, rfl, _, _, rfl, rfl, tx (lets 26), 0 + (t : Int) - 1, turnC t, rfl, rfl, by rw [tx_len]; decide, by rw [tx_toList]; exact tab ⟨t, ht⟩, kk H' (Same.refl _)⟩
      · exact ⟨D, by show H3 D = some (.lst (svs TR)); rw [hDv]; unfold TR svs; rw [List.map_map]; rfl, rfl⟩
    rintro _ H2 ⟨D, hD, rfl⟩
    have g26 : grow TR 26 (lets 26) = lets 26 := by decide +kernel
    have oky : OkTx 26 (lets 26) := fun c hc => mem_lets.mp hc
    have lenTR : TR.length = 26 := by decide +kernel
    refine ⟨fun σ' H' => RuAt H' D TR /\ σ' = [some (.ref a), o1, o2, o3, some (sv (lets 26)), some (.ref D)], ?_, ?_⟩
    · have sh26 : ∀ k : Fin 27, (grow TR k (lets 26)).length <= 100000 := by decide +kernel
      refine ⟨_, rfl, _, rfl, D, TR, lets 26, 26, rfl, hD, okTR, smallTR, by rw [lenTR]; exact oky, by decide, by decide, fun k h1 h2 => sh26 ⟨k, by omega⟩, fun H3 s3 => ?_⟩
      rw [g26]
      refine ⟨_, rfl, rfl, false, (by rw [decide_eq_true rfl]; rfl), iteF ?_⟩
      have g1 : grow TR 1 [97, 122] = [122, 121] := by decide +kernel
      rw [txz.1, txz.2.1]
      refine ⟨_, rfl, D, TR, [97, 122], 1, rfl, s3 _ _ hD, okTR, smallTR, by unfold OkTx; decide +kernel, by decide, by decide, fun k h1 h2 => ?_, fun H4 s4 => ?_⟩
      · obtain rfl : k = 1 := by omega
        rw [g1]; decide
      · rw [g1]
        exact ⟨rfl, false, (by show V.bl (!decide (V.str (tx [122, 121]) = V.str (tx [122, 121]))) = V.bl false; rw [decide_eq_true rfl]; rfl), iteF ⟨s4 _ _ (s3 _ _ hD), rfl⟩⟩
    rintro _ H3 ⟨hD3, rfl⟩
    refine ⟨fun σ' _ => σ' = [some (.ref a), o1, o2, o3, some (sv (lets 26)), some (.ref D)], ?_, ?_⟩
    · rw [txs.1, txz.2.2.1]
      refine ⟨_, rfl, D, TR, 97, 98, rfl, hD3, okTR, smallTR, ⟨by decide, by rw [lenTR]; decide⟩, ⟨by decide, by rw [lenTR]; decide⟩, fun t p dx H4 ht hd s4 hp hp4 => ?_, fun L p dx H4 hS _ _ _ => ?_⟩
      · refine ⟨p, dx, _, rfl, hp4, rfl, _, rfl, p, dx, (t : Int), D, TR, 97, 98, rfl, hp4, s4 _ _ hD3, okTR, smallTR, ⟨by decide, by rw [lenTR]; decide⟩, ⟨by decide, by rw [lenTR]; decide⟩, fun H5 s5 => ?_⟩
        rw [decide_eq_true (show 0 <= (t : Int) /\ (t : Int) <= (TR.length : Int) /\ 98 ∈ grow TR (t : Int).toNat [97] from ⟨by omega, by omega, by rw [Int.toNat_natCast]; exact hd⟩)]
        exact ⟨true, true, rfl, rfl, false, rfl, iteF rfl⟩
      · have : 98 ∈ L := shut_grow hS.shut (fun e he => by rw [List.mem_singleton.mp he]; exact hS.one) 25 98 (by decide +kernel)
        exact absurd this hS.not
    rintro _ H4 rfl
    have okab2 : OkTx ([[97, 98], [97]] : Ru).length [97, 98] := okab
    have smallab : ∀ r ∈ ([[97, 98], [97]] : Ru), r.length <= 100000 := by decide
    refine ⟨fun σ' _ => σ' = [some (.ref a), o1, o2, o3, some (sv (lets 26)), some (.ref D)], ?_, ?_⟩
    · refine ⟨by decide, fun q hq => ?_⟩
      have e8 : (grow [[97, 98], [97]] 3 [97, 98]).length = 8 := by decide +kernel
      refine ⟨q, [[97, 98], [97]], [97, 98], 3, by rw [txs.2.1]; rfl, ruAB upd_same, okAB, smallab, okab2, by decide, fun H5 s5 => ?_⟩
      rw [e8]
      refine ⟨rfl, false, (by decide), iteF ?_⟩
      refine ⟨by decide, fun q2 hq2 => ?_⟩
      have e300 : (grow [List.replicate 2 97] 300 [97]).length = 2 ^ 300 := by
        rw [show ([97] : Tx) = List.replicate 1 97 from rfl, grow_rep, List.length_replicate, Nat.one_mul]
      refine ⟨q2, [List.replicate 2 97], [97], 300, by rw [txs.1]; rfl, (upd_same (H := H5) (a := q2)).trans (by rw [txz.2.2.2.1]; rfl), okRu1 2, small 2 (by decide), okRep 1, by decide, fun H6 s6 => ?_⟩
      rw [e300]
      refine ⟨_, _, rfl, rfl, ⟨by decide, by decide, by decide⟩, rfl, false, ?_, iteF ?_⟩
      · rw [decide_eq_true (show V.int ((2 ^ 300 : Nat) : Int) = V.int (1 * 2 ^ (300 : Int).toNat) from by congr 1)]; rfl
      refine ⟨by decide, fun q3 hq3 => ?_⟩
      rw [txz.2.2.2.2]
      have g300 : ∀ k, grow [[97]] k [97, 97, 97] = [97, 97, 97] := fun k => by
        rw [show ([97, 97, 97] : Tx) = List.replicate 3 97 from rfl, show ([[97]] : Ru) = [List.replicate 1 97] from rfl, grow_rep, Nat.one_pow]
      refine ⟨q3, [[97]], [97, 97, 97], 300, rfl, ruA upd_same, okA, by decide, okRep 3, by decide, by decide, fun k _ _ => by rw [g300]; decide, fun H7 s7 => ?_⟩
      rw [g300]
      exact ⟨rfl, false, (by show V.bl (!decide (V.str (tx [97, 97, 97]) = V.str (tx [97, 97, 97]))) = V.bl false; rw [decide_eq_true rfl]; rfl), iteF rfl⟩
    rintro _ H5 rfl
    refine ⟨by decide, fun q hq => ?_⟩
    have e7 : (grow [[97, 98], [97]] 3 [97, 98])[7]? = some 97 := by decide +kernel
    refine ⟨q, [[97, 98], [97]], [97, 98], 3, 7, by rw [txs.2.1]; rfl, ruAB upd_same, okAB, smallab, okab2, by decide, by decide, by decide +kernel, fun c hc H6 s6 => ?_⟩
    rw [e7] at hc; cases hc
    rw [txs.1]
    refine ⟨rfl, true, (by show V.bl (decide (V.str (tx [97]) = V.str (tx [97]))) = V.bl true; rw [decide_eq_true rfl]), iteT ?_⟩
    refine ⟨by decide, fun q2 hq2 => ?_⟩
    refine ⟨q2, [[97, 98], [97]], [97, 98], 3, 8, by rw [txs.2.1]; rfl, ruAB upd_same, okAB, smallab, okab2, by decide, by decide, by decide +kernel, fun p H7 s7 hp hp7 => ?_⟩
    refine ⟨by decide, fun r hr' => ?_⟩
    have e53 : ivs (cnt ([[97, 98], [97]] : Ru).length ((grow [[97, 98], [97]] 3 [97, 98]).take 8)) = [.int 5, .int 3] := by decide +kernel
    rw [e53] at hp7
    exact ⟨p, r, _, _, rfl, rfl, SqL.of (same_new hr' _ _ hp7), SqL.of upd_same, flat_pair rfl, k _⟩
end
end
end GP
namespace GP
open PySem L2 GT GM
theorem walk {l : PySem.W.OpenLaw} {q : Program} {loose : List Str} {XP : (Str -> Option Value) -> Heap -> Prop} {YP : World -> Heap -> Prop} {d : DefRec} {K : Params -> PySem.W.Frag} (hn : l.most = some 63) (hdf : d.params.defaults = [])
    (hY : ∀ (w : World) (h : Heap), YP w h -> (K w.params).In h)
    (F : ∀ (w : World) (mg : Str -> Option Value) (fa : Addr) (h : Heap), (K w.params).In h -> h.Ns mainGlobals mg -> mg d.name = some (.ref fa) -> ∃ T : TX (K w.params) mg, T.f_law = fa) :
    PySem.W.WalkO q loose XP YP l.row.toRowW d [] (fun f vs => PySem.call f vs) :=
  L2.walk_of (n := 63) (k := 20) (x := "_law_script") (CX := fun _ => CX0) (sp := fun w => spLaw (K w.params)) hn (by decide) hdf ⟨rfl, by decide, by decide⟩ hY (fun w mg fa h KX G hmg => by
    obtain ⟨T, rfl⟩ := F w mg fa h KX G hmg
    exact ⟨T.d_law, T.bl, fun base _ _ => (ok_law T).mono (by decide)⟩) (fun _ _ a ns hl _ hS => ⟨a, ns, rfl, hS, hl, fun _ => rfl⟩) fun _ _ _ _ _ z => z
end GP
namespace GP
open PySem L2 GT GM
open PySem.W (nsIn findIn keepIn codeIn fnOf mroIn kitOne excIn plainGet hasDictIn plainOver makesIn isFn mg_of mg_none_of specialIn takesIn Frag)
theorem len1 {us : List Value} (h : us.length = 1) : ∃ a0, us = [a0] := by
  match us, h with | [a0], _ => exact ⟨a0, rfl⟩
theorem len2 {us : List Value} (h : us.length = 2) : ∃ a0 a1, us = [a0, a1] := by
  match us, h with | [a0, a1], _ => exact ⟨a0, a1, rfl⟩
theorem len3 {us : List Value} (h : us.length = 3) : ∃ a0 a1 a2, us = [a0, a1, a2] := by
  match us, h with | [a0, a1, a2], _ => exact ⟨a0, a1, a2, rfl⟩
theorem len4 {us : List Value} (h : us.length = 4) : ∃ a0 a1 a2 a3, us = [a0, a1, a2, a3] := by
  match us, h with | [a0, a1, a2, a3], _ => exact ⟨a0, a1, a2, a3, rfl⟩
theorem mk_tx {K : Frag} {h : Heap} {mg : Str -> Option Value} {fa : Addr} (X : K.In h) (G : h.Ns mainGlobals mg) (hfa : mg "law" = some (.ref fa))
    {y150 y161 y172 y88 y117 y149 y87 y118 y116 y131 y65 : Addr}
    {y127 y81 y169 y53 : Tok}
    {f1 f2 f3 f4 f5 f6 f7 f8 f9 f10 f11 f12 f13 f14 f15 f16 f17 f18 f19 f20 f21 f22 f23 f24 f25 f26 f27 f28 f29 f30 f31 f32 f33 f34 f35 f36 f37 f38 f39 f40 f41 f42 f43 : Addr}
    {od1 an1 od2 an2 od3 an3 od4 an4 od5 an5 od6 an6 od7 an7 od8 an8 od9 an9 od10 an10 od11 an11 od12 an12 od13 an13 od14 an14 od15 an15 od16 an16 od17 an17 od18 an18 od19 an19 od20 an20 od21 an21 od22 an22 od23 an23 od24 an24 od25 an25 od26 an26 od27 an27 od28 an28 od29 an29 od30 an30 od31 an31 od32 an32 od33 an33 od34 an34 od35 an35 od36 an36 od37 an37 od38 an38 od39 an39 od40 an40 od41 an41 od42 an42 od43 an43 : Option Addr}
    {sl1 sl2 sl3 sl4 sl5 sl6 sl7 sl8 sl9 sl10 sl11 sl12 sl13 sl14 sl15 sl16 sl17 sl18 sl19 sl20 sl21 sl22 sl23 sl24 sl25 sl26 sl27 sl28 sl29 sl30 sl31 sl32 sl33 sl34 sl35 sl36 sl37 sl38 sl39 sl40 sl41 sl42 sl43 : Array (Option Value)}
    {oc1 kV1 dc1 pm1 cd1 ct1 oc2 kV2 dc2 pm2 cd2 ct2 oc3 kV3 dc3 pm3 cd3 ct3 oc4 kV4 dc4 pm4 cd4 ct4 oc5 kV5 dc5 pm5 cd5 ct5 oc6 kV6 dc6 pm6 cd6 ct6 oc7 kV7 dc7 pm7 cd7 ct7 oc8 kV8 dc8 pm8 cd8 ct8 oc9 kV9 dc9 pm9 cd9 ct9 oc10 kV10 dc10 pm10 cd10 ct10 oc11 kV11 dc11 pm11 cd11 ct11 oc12 kV12 dc12 pm12 cd12 ct12 oc13 kV13 dc13 pm13 cd13 ct13 oc14 kV14 dc14 pm14 cd14 ct14 oc15 kV15 dc15 pm15 cd15 ct15 oc16 kV16 dc16 pm16 cd16 ct16 oc17 kV17 dc17 pm17 cd17 ct17 oc18 kV18 dc18 pm18 cd18 ct18 oc19 kV19 dc19 pm19 cd19 ct19 oc20 kV20 dc20 pm20 cd20 ct20 oc21 kV21 dc21 pm21 cd21 ct21 oc22 kV22 dc22 pm22 cd22 ct22 oc23 kV23 dc23 pm23 cd23 ct23 oc24 kV24 dc24 pm24 cd24 ct24 oc25 kV25 dc25 pm25 cd25 ct25 oc26 kV26 dc26 pm26 cd26 ct26 oc27 kV27 dc27 pm27 cd27 ct27 oc28 kV28 dc28 pm28 cd28 ct28 oc29 kV29 dc29 pm29 cd29 ct29 oc30 kV30 dc30 pm30 cd30 ct30 oc31 kV31 dc31 pm31 cd31 ct31 oc32 kV32 dc32 pm32 cd32 ct32 oc33 kV33 dc33 pm33 cd33 ct33 oc34 kV34 dc34 pm34 cd34 ct34 oc35 kV35 dc35 pm35 cd35 ct35 oc36 kV36 dc36 pm36 cd36 ct36 oc37 kV37 dc37 pm37 cd37 ct37 oc38 kV38 dc38 pm38 cd38 ct38 oc39 kV39 dc39 pm39 cd39 ct39 oc40 kV40 dc40 pm40 cd40 ct40 oc41 kV41 dc41 pm41 cd41 ct41 oc42 kV42 dc42 pm42 cd42 ct42 oc43 kV43 dc43 pm43 cd43 ct43 : Value}
    (y133 : nsIn K mainGlobals "Marked" = some (some (.ref y150))) (y144 : plainGet K y150 Str.empty = true) (y140 : hasDictIn K y150 = true) (y145 : plainOver K y150 = true) (y146 : findIn K (.ref y150) "__setattr__" = some (some (.builtin "object.__setattr__"))) (y143 : makesIn K y150 = true) (y141 : keepIn K (.ref y150) = true)
    (y48 : findIn K (.ref y150) "letters" = some none)
    (y50 : findIn K (.ref y150) "marks" = some none)
    (y52 : findIn K (.ref y150) "text" = some none)
    (y151 : nsIn K mainGlobals "Times" = some (some (.ref y161))) (y155 : plainGet K y161 Str.empty = true) (y152 : hasDictIn K y161 = true) (y156 : plainOver K y161 = true) (y157 : findIn K (.ref y161) "__setattr__" = some (some (.builtin "object.__setattr__"))) (y154 : makesIn K y161 = true) (y153 : keepIn K (.ref y161) = true)
    (y63 : findIn K (.ref y161) "many" = some none)
    (y162 : nsIn K mainGlobals "Shut" = some (some (.ref y172))) (y166 : plainGet K y172 Str.empty = true) (y163 : hasDictIn K y172 = true) (y167 : plainOver K y172 = true) (y168 : findIn K (.ref y172) "__setattr__" = some (some (.builtin "object.__setattr__"))) (y165 : makesIn K y172 = true) (y164 : keepIn K (.ref y172) = true)
    (y51 : findIn K (.ref y172) "letters" = some none)
    (y67 : nsIn K mainGlobals "GrowError" = some (some (.ref y88)))
    (y90 : nsIn K mainGlobals "BadRules" = some (some (.ref y117)))
    (y132 : nsIn K mainGlobals "BadRow" = some (some (.ref y149)))
    (y66 : nsIn K mainGlobals "BadLetter" = some (some (.ref y87)))
    (y91 : nsIn K mainGlobals "BadTimes" = some (some (.ref y118)))
    (y89 : nsIn K mainGlobals "BadPlace" = some (some (.ref y116)))
    (y119 : nsIn K mainGlobals "TooLong" = some (some (.ref y131)))
    (y55 : nsIn K mainGlobals "OtherRules" = some (some (.ref y65)))
    (y84 : excIn K y88 [.type "ValueError", .type "Exception", .type "BaseException", .type "object"] "ValueError.__new__" = true)
    (y69 : findIn K (.ref y88) "__getattribute__" = some (some (.builtin "BaseException.__getattribute__")))
    (y71 : findIn K (.ref y88) "__getattr__" = some (none))
    (y73 : findIn K (.ref y88) "__class__" = some (some (.builtin "object.__class__")))
    (y75 : mroIn K y88 (.type "object") = some true) (y79 : mroIn K y88 (.type "BaseException") = some true) (y77 : mroIn K y88 (.ref y88) = some true)
    (y114 : excIn K y117 [.type "ValueError", .type "Exception", .type "BaseException", .type "object"] "ValueError.__new__" = true)
    (y93 : findIn K (.ref y117) "__getattribute__" = some (some (.builtin "BaseException.__getattribute__")))
    (y96 : findIn K (.ref y117) "__getattr__" = some (none))
    (y99 : findIn K (.ref y117) "__class__" = some (some (.builtin "object.__class__")))
    (y102 : mroIn K y117 (.type "object") = some true) (y108 : mroIn K y117 (.type "BaseException") = some true) (y105 : mroIn K y117 (.ref y88) = some true)
    (y147 : excIn K y149 [.type "ValueError", .type "Exception", .type "BaseException", .type "object"] "ValueError.__new__" = true)
    (y134 : findIn K (.ref y149) "__getattribute__" = some (some (.builtin "BaseException.__getattribute__")))
    (y135 : findIn K (.ref y149) "__getattr__" = some (none))
    (y136 : findIn K (.ref y149) "__class__" = some (some (.builtin "object.__class__")))
    (y137 : mroIn K y149 (.type "object") = some true) (y139 : mroIn K y149 (.type "BaseException") = some true) (y138 : mroIn K y149 (.ref y88) = some true)
    (y83 : excIn K y87 [.type "ValueError", .type "Exception", .type "BaseException", .type "object"] "ValueError.__new__" = true)
    (y68 : findIn K (.ref y87) "__getattribute__" = some (some (.builtin "BaseException.__getattribute__")))
    (y70 : findIn K (.ref y87) "__getattr__" = some (none))
    (y72 : findIn K (.ref y87) "__class__" = some (some (.builtin "object.__class__")))
    (y74 : mroIn K y87 (.type "object") = some true) (y78 : mroIn K y87 (.type "BaseException") = some true) (y76 : mroIn K y87 (.ref y88) = some true)
    (y115 : excIn K y118 [.type "ValueError", .type "Exception", .type "BaseException", .type "object"] "ValueError.__new__" = true)
    (y94 : findIn K (.ref y118) "__getattribute__" = some (some (.builtin "BaseException.__getattribute__")))
    (y97 : findIn K (.ref y118) "__getattr__" = some (none))
    (y100 : findIn K (.ref y118) "__class__" = some (some (.builtin "object.__class__")))
    (y103 : mroIn K y118 (.type "object") = some true) (y109 : mroIn K y118 (.type "BaseException") = some true) (y106 : mroIn K y118 (.ref y88) = some true)
    (y113 : excIn K y116 [.type "ValueError", .type "Exception", .type "BaseException", .type "object"] "ValueError.__new__" = true)
    (y92 : findIn K (.ref y116) "__getattribute__" = some (some (.builtin "BaseException.__getattribute__")))
    (y95 : findIn K (.ref y116) "__getattr__" = some (none))
    (y98 : findIn K (.ref y116) "__class__" = some (some (.builtin "object.__class__")))
    (y101 : mroIn K y116 (.type "object") = some true) (y107 : mroIn K y116 (.type "BaseException") = some true) (y104 : mroIn K y116 (.ref y88) = some true)
    (y129 : excIn K y131 [.type "ValueError", .type "Exception", .type "BaseException", .type "object"] "ValueError.__new__" = true)
    (y120 : findIn K (.ref y131) "__getattribute__" = some (some (.builtin "BaseException.__getattribute__")))
    (y121 : findIn K (.ref y131) "__getattr__" = some (none))
    (y122 : findIn K (.ref y131) "__class__" = some (some (.builtin "object.__class__")))
    (y123 : mroIn K y131 (.type "object") = some true) (y125 : mroIn K y131 (.type "BaseException") = some true) (y124 : mroIn K y131 (.ref y88) = some true)
    (y64 : excIn K y65 [.type "ValueError", .type "Exception", .type "BaseException", .type "object"] "ValueError.__new__" = true)
    (y56 : findIn K (.ref y65) "__getattribute__" = some (some (.builtin "BaseException.__getattribute__")))
    (y57 : findIn K (.ref y65) "__getattr__" = some (none))
    (y58 : findIn K (.ref y65) "__class__" = some (some (.builtin "object.__class__")))
    (y59 : mroIn K y65 (.type "object") = some true) (y61 : mroIn K y65 (.type "BaseException") = some true) (y60 : mroIn K y65 (.ref y88) = some true)
    (y24 : kitOne K (.ref y117) (.ref y117) = some true)
    (y43 : kitOne K (.ref y117) (.ref y149) = some false)
    (y14 : kitOne K (.ref y117) (.ref y87) = some false)
    (y25 : kitOne K (.ref y117) (.ref y118) = some false)
    (y23 : kitOne K (.ref y117) (.ref y116) = some false)
    (y34 : kitOne K (.ref y117) (.ref y131) = some false)
    (y5 : kitOne K (.ref y117) (.ref y65) = some false)
    (y111 : kitOne K (.ref y117) (.type "ValueError") = some true)
    (y41 : kitOne K (.ref y149) (.ref y117) = some false)
    (y49 : kitOne K (.ref y149) (.ref y149) = some true)
    (y33 : kitOne K (.ref y149) (.ref y87) = some false)
    (y42 : kitOne K (.ref y149) (.ref y118) = some false)
    (y40 : kitOne K (.ref y149) (.ref y116) = some false)
    (y46 : kitOne K (.ref y149) (.ref y131) = some false)
    (y22 : kitOne K (.ref y149) (.ref y65) = some false)
    (y142 : kitOne K (.ref y149) (.type "ValueError") = some true)
    (y11 : kitOne K (.ref y87) (.ref y117) = some false)
    (y31 : kitOne K (.ref y87) (.ref y149) = some false)
    (y3 : kitOne K (.ref y87) (.ref y87) = some true)
    (y12 : kitOne K (.ref y87) (.ref y118) = some false)
    (y10 : kitOne K (.ref y87) (.ref y116) = some false)
    (y18 : kitOne K (.ref y87) (.ref y131) = some false)
    (y1 : kitOne K (.ref y87) (.ref y65) = some false)
    (y80 : kitOne K (.ref y87) (.type "ValueError") = some true)
    (y27 : kitOne K (.ref y118) (.ref y117) = some false)
    (y44 : kitOne K (.ref y118) (.ref y149) = some false)
    (y15 : kitOne K (.ref y118) (.ref y87) = some false)
    (y28 : kitOne K (.ref y118) (.ref y118) = some true)
    (y26 : kitOne K (.ref y118) (.ref y116) = some false)
    (y35 : kitOne K (.ref y118) (.ref y131) = some false)
    (y6 : kitOne K (.ref y118) (.ref y65) = some false)
    (y112 : kitOne K (.ref y118) (.type "ValueError") = some true)
    (y20 : kitOne K (.ref y116) (.ref y117) = some false)
    (y39 : kitOne K (.ref y116) (.ref y149) = some false)
    (y13 : kitOne K (.ref y116) (.ref y87) = some false)
    (y21 : kitOne K (.ref y116) (.ref y118) = some false)
    (y19 : kitOne K (.ref y116) (.ref y116) = some true)
    (y32 : kitOne K (.ref y116) (.ref y131) = some false)
    (y4 : kitOne K (.ref y116) (.ref y65) = some false)
    (y110 : kitOne K (.ref y116) (.type "ValueError") = some true)
    (y37 : kitOne K (.ref y131) (.ref y117) = some false)
    (y47 : kitOne K (.ref y131) (.ref y149) = some false)
    (y30 : kitOne K (.ref y131) (.ref y87) = some false)
    (y38 : kitOne K (.ref y131) (.ref y118) = some false)
    (y36 : kitOne K (.ref y131) (.ref y116) = some false)
    (y45 : kitOne K (.ref y131) (.ref y131) = some true)
    (y17 : kitOne K (.ref y131) (.ref y65) = some false)
    (y126 : kitOne K (.ref y131) (.type "ValueError") = some true)
    (y8 : kitOne K (.ref y65) (.ref y117) = some false)
    (y29 : kitOne K (.ref y65) (.ref y149) = some false)
    (y2 : kitOne K (.ref y65) (.ref y87) = some false)
    (y9 : kitOne K (.ref y65) (.ref y118) = some false)
    (y7 : kitOne K (.ref y65) (.ref y116) = some false)
    (y16 : kitOne K (.ref y65) (.ref y131) = some false)
    (y0 : kitOne K (.ref y65) (.ref y65) = some true)
    (y62 : kitOne K (.ref y65) (.type "ValueError") = some true)
    (og1 : specialIn K (.builtin "object.__class__") "__get__" = some (some (.builtin "getset_descriptor.__get__"))) (og2 : takesIn K (.builtin "object.__class__") = some true)
    (a1 : nsIn K mainGlobals "letters_of" = some (some (.ref f1)))
    (l1 : K.lookup f1 = some ⟨oc1, od1, .func (fnOf "letters_of" "letters_of" (defArgs s_letters_of) (defBody s_letters_of) (defScope s_letters_of) .none kV1 dc1 pm1 an1 cd1 ct1), sl1⟩) (c1 : codeIn K cd1 "letters_of" = true) (k1 : keepIn K (.ref f1) = true)
    (a2 : nsIn K mainGlobals "is_text_of" = some (some (.ref f2)))
    (l2 : K.lookup f2 = some ⟨oc2, od2, .func (fnOf "is_text_of" "is_text_of" (defArgs s_is_text_of) (defBody s_is_text_of) (defScope s_is_text_of) .none kV2 dc2 pm2 an2 cd2 ct2), sl2⟩) (c2 : codeIn K cd2 "is_text_of" = true) (k2 : keepIn K (.ref f2) = true)
    (a3 : nsIn K mainGlobals "is_number_up_to" = some (some (.ref f3)))
    (l3 : K.lookup f3 = some ⟨oc3, od3, .func (fnOf "is_number_up_to" "is_number_up_to" (defArgs s_is_number_up_to) (defBody s_is_number_up_to) (defScope s_is_number_up_to) .none kV3 dc3 pm3 an3 cd3 ct3), sl3⟩) (c3 : codeIn K cd3 "is_number_up_to" = true) (k3 : keepIn K (.ref f3) = true)
    (a4 : nsIn K mainGlobals "is_rules" = some (some (.ref f4)))
    (l4 : K.lookup f4 = some ⟨oc4, od4, .func (fnOf "is_rules" "is_rules" (defArgs s_is_rules) (defBody s_is_rules) (defScope s_is_rules) .none kV4 dc4 pm4 an4 cd4 ct4), sl4⟩) (c4 : codeIn K cd4 "is_rules" = true) (k4 : keepIn K (.ref f4) = true)
    (a5 : nsIn K mainGlobals "check_rules" = some (some (.ref f5)))
    (l5 : K.lookup f5 = some ⟨oc5, od5, .func (fnOf "check_rules" "check_rules" (defArgs s_check_rules) (defBody s_check_rules) (defScope s_check_rules) .none kV5 dc5 pm5 an5 cd5 ct5), sl5⟩) (c5 : codeIn K cd5 "check_rules" = true) (k5 : keepIn K (.ref f5) = true)
    (a6 : nsIn K mainGlobals "check_row" = some (some (.ref f6)))
    (l6 : K.lookup f6 = some ⟨oc6, od6, .func (fnOf "check_row" "check_row" (defArgs s_check_row) (defBody s_check_row) (defScope s_check_row) .none kV6 dc6 pm6 an6 cd6 ct6), sl6⟩) (c6 : codeIn K cd6 "check_row" = true) (k6 : keepIn K (.ref f6) = true)
    (a7 : nsIn K mainGlobals "check_letter" = some (some (.ref f7)))
    (l7 : K.lookup f7 = some ⟨oc7, od7, .func (fnOf "check_letter" "check_letter" (defArgs s_check_letter) (defBody s_check_letter) (defScope s_check_letter) .none kV7 dc7 pm7 an7 cd7 ct7), sl7⟩) (c7 : codeIn K cd7 "check_letter" = true) (k7 : keepIn K (.ref f7) = true)
    (a8 : nsIn K mainGlobals "check_times" = some (some (.ref f8)))
    (l8 : K.lookup f8 = some ⟨oc8, od8, .func (fnOf "check_times" "check_times" (defArgs s_check_times) (defBody s_check_times) (defScope s_check_times) .none kV8 dc8 pm8 an8 cd8 ct8), sl8⟩) (c8 : codeIn K cd8 "check_times" = true) (k8 : keepIn K (.ref f8) = true)
    (a9 : nsIn K mainGlobals "check_place" = some (some (.ref f9)))
    (l9 : K.lookup f9 = some ⟨oc9, od9, .func (fnOf "check_place" "check_place" (defArgs s_check_place) (defBody s_check_place) (defScope s_check_place) .none kV9 dc9 pm9 an9 cd9 ct9), sl9⟩) (c9 : codeIn K cd9 "check_place" = true) (k9 : keepIn K (.ref f9) = true)
    (a10 : nsIn K mainGlobals "grown_once" = some (some (.ref f10)))
    (l10 : K.lookup f10 = some ⟨oc10, od10, .func (fnOf "grown_once" "grown_once" (defArgs s_grown_once) (defBody s_grown_once) (defScope s_grown_once) .none kV10 dc10 pm10 an10 cd10 ct10), sl10⟩) (c10 : codeIn K cd10 "grown_once" = true) (k10 : keepIn K (.ref f10) = true)
    (a11 : nsIn K mainGlobals "counted" = some (some (.ref f11)))
    (l11 : K.lookup f11 = some ⟨oc11, od11, .func (fnOf "counted" "counted" (defArgs s_counted) (defBody s_counted) (defScope s_counted) .none kV11 dc11 pm11 an11 cd11 ct11), sl11⟩) (c11 : codeIn K cd11 "counted" = true) (k11 : keepIn K (.ref f11) = true)
    (a12 : nsIn K mainGlobals "added" = some (some (.ref f12)))
    (l12 : K.lookup f12 = some ⟨oc12, od12, .func (fnOf "added" "added" (defArgs s_added) (defBody s_added) (defScope s_added) .none kV12 dc12 pm12 an12 cd12 ct12), sl12⟩) (c12 : codeIn K cd12 "added" = true) (k12 : keepIn K (.ref f12) = true)
    (a13 : nsIn K mainGlobals "weighed" = some (some (.ref f13)))
    (l13 : K.lookup f13 = some ⟨oc13, od13, .func (fnOf "weighed" "weighed" (defArgs s_weighed) (defBody s_weighed) (defScope s_weighed) .none kV13 dc13 pm13 an13 cd13 ct13), sl13⟩) (c13 : codeIn K cd13 "weighed" = true) (k13 : keepIn K (.ref f13) = true)
    (a14 : nsIn K mainGlobals "table_of" = some (some (.ref f14)))
    (l14 : K.lookup f14 = some ⟨oc14, od14, .func (fnOf "table_of" "table_of" (defArgs s_table_of) (defBody s_table_of) (defScope s_table_of) .none kV14 dc14 pm14 an14 cd14 ct14), sl14⟩) (c14 : codeIn K cd14 "table_of" = true) (k14 : keepIn K (.ref f14) = true)
    (a15 : nsIn K mainGlobals "held_next" = some (some (.ref f15)))
    (l15 : K.lookup f15 = some ⟨oc15, od15, .func (fnOf "held_next" "held_next" (defArgs s_held_next) (defBody s_held_next) (defScope s_held_next) .none kV15 dc15 pm15 an15 cd15 ct15), sl15⟩) (c15 : codeIn K cd15 "held_next" = true) (k15 : keepIn K (.ref f15) = true)
    (a16 : nsIn K mainGlobals "held_after" = some (some (.ref f16)))
    (l16 : K.lookup f16 = some ⟨oc16, od16, .func (fnOf "held_after" "held_after" (defArgs s_held_after) (defBody s_held_after) (defScope s_held_after) .none kV16 dc16 pm16 an16 cd16 ct16), sl16⟩) (c16 : codeIn K cd16 "held_after" = true) (k16 : keepIn K (.ref f16) = true)
    (a17 : nsIn K mainGlobals "sizes_up_to" = some (some (.ref f17)))
    (l17 : K.lookup f17 = some ⟨oc17, od17, .func (fnOf "sizes_up_to" "sizes_up_to" (defArgs s_sizes_up_to) (defBody s_sizes_up_to) (defScope s_sizes_up_to) .none kV17 dc17 pm17 an17 cd17 ct17), sl17⟩) (c17 : codeIn K cd17 "sizes_up_to" = true) (k17 : keepIn K (.ref f17) = true)
    (a18 : nsIn K mainGlobals "marks_of" = some (some (.ref f18)))
    (l18 : K.lookup f18 = some ⟨oc18, od18, .func (fnOf "marks_of" "marks_of" (defArgs s_marks_of) (defBody s_marks_of) (defScope s_marks_of) .none kV18 dc18 pm18 an18 cd18 ct18), sl18⟩) (c18 : codeIn K cd18 "marks_of" = true) (k18 : keepIn K (.ref f18) = true)
    (a19 : findIn K (.ref y150) "__init__" = some (some (.ref f19))) (i19 : isFn K (.ref f19) = true)
    (l19 : K.lookup f19 = some ⟨oc19, od19, .func (fnOf "__init__" "Marked.__init__" (defArgs s_Marked_init) (defBody s_Marked_init) (defScope s_Marked_init) .none kV19 dc19 pm19 an19 cd19 ct19), sl19⟩) (c19 : codeIn K cd19 "Marked.__init__" = true) (k19 : keepIn K (.ref f19) = true)
    (a20 : findIn K (.ref y150) "ahead_of" = some (some (.ref f20))) (i20 : isFn K (.ref f20) = true)
    (l20 : K.lookup f20 = some ⟨oc20, od20, .func (fnOf "ahead_of" "Marked.ahead_of" (defArgs s_Marked_ahead_of) (defBody s_Marked_ahead_of) (defScope s_Marked_ahead_of) .none kV20 dc20 pm20 an20 cd20 ct20), sl20⟩) (c20 : codeIn K cd20 "Marked.ahead_of" = true) (k20 : keepIn K (.ref f20) = true)
    (a21 : findIn K (.ref y150) "block_with" = some (some (.ref f21))) (i21 : isFn K (.ref f21) = true)
    (l21 : K.lookup f21 = some ⟨oc21, od21, .func (fnOf "block_with" "Marked.block_with" (defArgs s_Marked_block_with) (defBody s_Marked_block_with) (defScope s_Marked_block_with) .none kV21 dc21 pm21 an21 cd21 ct21), sl21⟩) (c21 : codeIn K cd21 "Marked.block_with" = true) (k21 : keepIn K (.ref f21) = true)
    (a22 : findIn K (.ref y150) "index_with" = some (some (.ref f22))) (i22 : isFn K (.ref f22) = true)
    (l22 : K.lookup f22 = some ⟨oc22, od22, .func (fnOf "index_with" "Marked.index_with" (defArgs s_Marked_index_with) (defBody s_Marked_index_with) (defScope s_Marked_index_with) .none kV22 dc22 pm22 an22 cd22 ct22), sl22⟩) (c22 : codeIn K cd22 "Marked.index_with" = true) (k22 : keepIn K (.ref f22) = true)
    (a23 : nsIn K mainGlobals "check_asked" = some (some (.ref f23)))
    (l23 : K.lookup f23 = some ⟨oc23, od23, .func (fnOf "check_asked" "check_asked" (defArgs s_check_asked) (defBody s_check_asked) (defScope s_check_asked) .none kV23 dc23 pm23 an23 cd23 ct23), sl23⟩) (c23 : codeIn K cd23 "check_asked" = true) (k23 : keepIn K (.ref f23) = true)
    (a24 : nsIn K mainGlobals "check_length" = some (some (.ref f24)))
    (l24 : K.lookup f24 = some ⟨oc24, od24, .func (fnOf "check_length" "check_length" (defArgs s_check_length) (defBody s_check_length) (defScope s_check_length) .none kV24 dc24 pm24 an24 cd24 ct24), sl24⟩) (c24 : codeIn K cd24 "check_length" = true) (k24 : keepIn K (.ref f24) = true)
    (a25 : nsIn K mainGlobals "check_way" = some (some (.ref f25)))
    (l25 : K.lookup f25 = some ⟨oc25, od25, .func (fnOf "check_way" "check_way" (defArgs s_check_way) (defBody s_check_way) (defScope s_check_way) .none kV25 dc25 pm25 an25 cd25 ct25), sl25⟩) (c25 : codeIn K cd25 "check_way" = true) (k25 : keepIn K (.ref f25) = true)
    (a26 : nsIn K mainGlobals "grown" = some (some (.ref f26)))
    (l26 : K.lookup f26 = some ⟨oc26, od26, .func (fnOf "grown" "grown" (defArgs s_grown) (defBody s_grown) (defScope s_grown) .none kV26 dc26 pm26 an26 cd26 ct26), sl26⟩) (c26 : codeIn K cd26 "grown" = true) (k26 : keepIn K (.ref f26) = true)
    (a27 : nsIn K mainGlobals "counts" = some (some (.ref f27)))
    (l27 : K.lookup f27 = some ⟨oc27, od27, .func (fnOf "counts" "counts" (defArgs s_counts) (defBody s_counts) (defScope s_counts) .none kV27 dc27 pm27 an27 cd27 ct27), sl27⟩) (c27 : codeIn K cd27 "counts" = true) (k27 : keepIn K (.ref f27) = true)
    (a28 : nsIn K mainGlobals "length" = some (some (.ref f28)))
    (l28 : K.lookup f28 = some ⟨oc28, od28, .func (fnOf "length" "length" (defArgs s_length) (defBody s_length) (defScope s_length) .none kV28 dc28 pm28 an28 cd28 ct28), sl28⟩) (c28 : codeIn K cd28 "length" = true) (k28 : keepIn K (.ref f28) = true)
    (a29 : nsIn K mainGlobals "way_to" = some (some (.ref f29)))
    (l29 : K.lookup f29 = some ⟨oc29, od29, .func (fnOf "way_to" "way_to" (defArgs s_way_to) (defBody s_way_to) (defScope s_way_to) .none kV29 dc29 pm29 an29 cd29 ct29), sl29⟩) (c29 : codeIn K cd29 "way_to" = true) (k29 : keepIn K (.ref f29) = true)
    (a30 : nsIn K mainGlobals "letter" = some (some (.ref f30)))
    (l30 : K.lookup f30 = some ⟨oc30, od30, .func (fnOf "letter" "letter" (defArgs s_letter) (defBody s_letter) (defScope s_letter) .none kV30 dc30 pm30 an30 cd30 ct30), sl30⟩) (c30 : codeIn K cd30 "letter" = true) (k30 : keepIn K (.ref f30) = true)
    (a31 : nsIn K mainGlobals "first" = some (some (.ref f31)))
    (l31 : K.lookup f31 = some ⟨oc31, od31, .func (fnOf "first" "first" (defArgs s_first) (defBody s_first) (defScope s_first) .none kV31 dc31 pm31 an31 cd31 ct31), sl31⟩) (c31 : codeIn K cd31 "first" = true) (k31 : keepIn K (.ref f31) = true)
    (a32 : nsIn K mainGlobals "behind" = some (some (.ref f32)))
    (l32 : K.lookup f32 = some ⟨oc32, od32, .func (fnOf "behind" "behind" (defArgs s_behind) (defBody s_behind) (defScope s_behind) .none kV32 dc32 pm32 an32 cd32 ct32), sl32⟩) (c32 : codeIn K cd32 "behind" = true) (k32 : keepIn K (.ref f32) = true)
    (a33 : findIn K (.ref y161) "__init__" = some (some (.ref f33))) (i33 : isFn K (.ref f33) = true)
    (l33 : K.lookup f33 = some ⟨oc33, od33, .func (fnOf "__init__" "Times.__init__" (defArgs s_Times_init) (defBody s_Times_init) (defScope s_Times_init) .none kV33 dc33 pm33 an33 cd33 ct33), sl33⟩) (c33 : codeIn K cd33 "Times.__init__" = true) (k33 : keepIn K (.ref f33) = true)
    (a34 : findIn K (.ref y161) "shows" = some (some (.ref f34))) (i34 : isFn K (.ref f34) = true)
    (l34 : K.lookup f34 = some ⟨oc34, od34, .func (fnOf "shows" "Times.shows" (defArgs s_Times_shows) (defBody s_Times_shows) (defScope s_Times_shows) .none kV34 dc34 pm34 an34 cd34 ct34), sl34⟩) (c34 : codeIn K cd34 "Times.shows" = true) (k34 : keepIn K (.ref f34) = true)
    (a35 : findIn K (.ref y172) "__init__" = some (some (.ref f35))) (i35 : isFn K (.ref f35) = true)
    (l35 : K.lookup f35 = some ⟨oc35, od35, .func (fnOf "__init__" "Shut.__init__" (defArgs s_Shut_init) (defBody s_Shut_init) (defScope s_Shut_init) .none kV35 dc35 pm35 an35 cd35 ct35), sl35⟩) (c35 : codeIn K cd35 "Shut.__init__" = true) (k35 : keepIn K (.ref f35) = true)
    (a36 : nsIn K mainGlobals "comes" = some (some (.ref f36)))
    (l36 : K.lookup f36 = some ⟨oc36, od36, .func (fnOf "comes" "comes" (defArgs s_comes) (defBody s_comes) (defScope s_comes) .none kV36 dc36 pm36 an36 cd36 ct36), sl36⟩) (c36 : codeIn K cd36 "comes" = true) (k36 : keepIn K (.ref f36) = true)
    (a37 : nsIn K mainGlobals "lengths" = some (some (.ref f37)))
    (l37 : K.lookup f37 = some ⟨oc37, od37, .func (fnOf "lengths" "lengths" (defArgs s_lengths) (defBody s_lengths) (defScope s_lengths) .none kV37 dc37 pm37 an37 cd37 ct37), sl37⟩) (c37 : codeIn K cd37 "lengths" = true) (k37 : keepIn K (.ref f37) = true)
    (a38 : nsIn K mainGlobals "_law_rules_asked" = some (some (.ref f38)))
    (l38 : K.lookup f38 = some ⟨oc38, od38, .func (fnOf "_law_rules_asked" "_law_rules_asked" (defArgs s_law_rules_asked) (defBody s_law_rules_asked) (defScope s_law_rules_asked) .none kV38 dc38 pm38 an38 cd38 ct38), sl38⟩) (c38 : codeIn K cd38 "_law_rules_asked" = true) (k38 : keepIn K (.ref f38) = true)
    (a39 : nsIn K mainGlobals "_law_rows_asked" = some (some (.ref f39)))
    (l39 : K.lookup f39 = some ⟨oc39, od39, .func (fnOf "_law_rows_asked" "_law_rows_asked" (defArgs s_law_rows_asked) (defBody s_law_rows_asked) (defScope s_law_rows_asked) .none kV39 dc39 pm39 an39 cd39 ct39), sl39⟩) (c39 : codeIn K cd39 "_law_rows_asked" = true) (k39 : keepIn K (.ref f39) = true)
    (a40 : nsIn K mainGlobals "_law_numbers_asked" = some (some (.ref f40)))
    (l40 : K.lookup f40 = some ⟨oc40, od40, .func (fnOf "_law_numbers_asked" "_law_numbers_asked" (defArgs s_law_numbers_asked) (defBody s_law_numbers_asked) (defScope s_law_numbers_asked) .none kV40 dc40 pm40 an40 cd40 ct40), sl40⟩) (c40 : codeIn K cd40 "_law_numbers_asked" = true) (k40 : keepIn K (.ref f40) = true)
    (a41 : nsIn K mainGlobals "_law_long_asked" = some (some (.ref f41)))
    (l41 : K.lookup f41 = some ⟨oc41, od41, .func (fnOf "_law_long_asked" "_law_long_asked" (defArgs s_law_long_asked) (defBody s_law_long_asked) (defScope s_law_long_asked) .none kV41 dc41 pm41 an41 cd41 ct41), sl41⟩) (c41 : codeIn K cd41 "_law_long_asked" = true) (k41 : keepIn K (.ref f41) = true)
    (a42 : nsIn K mainGlobals "_law_told" = some (some (.ref f42)))
    (l42 : K.lookup f42 = some ⟨oc42, od42, .func (fnOf "_law_told" "_law_told" (defArgs s_law_told) (defBody s_law_told) (defScope s_law_told) .none kV42 dc42 pm42 an42 cd42 ct42), sl42⟩) (c42 : codeIn K cd42 "_law_told" = true) (k42 : keepIn K (.ref f42) = true)
    (a43 : nsIn K mainGlobals "law" = some (some (.ref f43)))
    (l43 : K.lookup f43 = some ⟨oc43, od43, .func (fnOf "law" "law" (defArgs s_law) (defBody s_law) (defScope s_law) .none kV43 dc43 pm43 an43 cd43 ct43), sl43⟩) (c43 : codeIn K cd43 "law" = true) (k43 : keepIn K (.ref f43) = true)
    (y85 : nsIn K mainGlobals "ValueError" = some none)
    (y176 : nsIn K mainGlobals "all" = some none)
    (y173 : nsIn K mainGlobals "bool" = some none)
    (y174 : nsIn K mainGlobals "dict" = some none)
    (y177 : nsIn K mainGlobals "int" = some none)
    (y86 : nsIn K mainGlobals "isinstance" = some none)
    (y178 : nsIn K mainGlobals "len" = some none)
    (y175 : nsIn K mainGlobals "list" = some none)
    (y171 : nsIn K mainGlobals "range" = some none)
    (y130 : nsIn K mainGlobals "reversed" = some none)
    (y179 : nsIn K mainGlobals "set" = some none)
    (y158 : nsIn K mainGlobals "sorted" = some none)
    (y180 : nsIn K mainGlobals "str" = some none)
    (y181 : nsIn K mainGlobals "sum" = some none)
    (y182 : nsIn K mainGlobals "zip" = some none)
    (y128 : nsIn K mainGlobals "ALPHABET" = some (some (.str "abcdefghijklmnopqrstuvwxyz" y127)))
    (y82 : nsIn K mainGlobals "MOST_TIMES" = some (some (.int 300 y81)))
    (y170 : nsIn K mainGlobals "BLOCK" = some (some (.int 256 y169)))
    (y54 : nsIn K mainGlobals "MOST_LETTERS" = some (some (.int 100000 y53)))
    : ∃ T : TX K mg, T.f_law = fa := by
  have F1 := fun_mk l1 c1 k1
  have B1 := F1.binds (ps := ["rules"]) fun _ _ _ _ _ _ us hl => by obtain ⟨_, rfl⟩ := len1 hl; rfl
  have A1 := mg_of X G a1
  have F2 := fun_mk l2 c2 k2
  have B2 := F2.binds (ps := ["letters", "value"]) fun _ _ _ _ _ _ us hl => by obtain ⟨_, _, rfl⟩ := len2 hl; rfl
  have A2 := mg_of X G a2
  have F3 := fun_mk l3 c3 k3
  have B3 := F3.binds (ps := ["most", "value"]) fun _ _ _ _ _ _ us hl => by obtain ⟨_, _, rfl⟩ := len2 hl; rfl
  have A3 := mg_of X G a3
  have F4 := fun_mk l4 c4 k4
  have B4 := F4.binds (ps := ["value"]) fun _ _ _ _ _ _ us hl => by obtain ⟨_, rfl⟩ := len1 hl; rfl
  have A4 := mg_of X G a4
  have F5 := fun_mk l5 c5 k5
  have B5 := F5.binds (ps := ["rules"]) fun _ _ _ _ _ _ us hl => by obtain ⟨_, rfl⟩ := len1 hl; rfl
  have A5 := mg_of X G a5
  have F6 := fun_mk l6 c6 k6
  have B6 := F6.binds (ps := ["rules", "row"]) fun _ _ _ _ _ _ us hl => by obtain ⟨_, _, rfl⟩ := len2 hl; rfl
  have A6 := mg_of X G a6
  have F7 := fun_mk l7 c7 k7
  have B7 := F7.binds (ps := ["rules", "letter"]) fun _ _ _ _ _ _ us hl => by obtain ⟨_, _, rfl⟩ := len2 hl; rfl
  have A7 := mg_of X G a7
  have F8 := fun_mk l8 c8 k8
  have B8 := F8.binds (ps := ["times"]) fun _ _ _ _ _ _ us hl => by obtain ⟨_, rfl⟩ := len1 hl; rfl
  have A8 := mg_of X G a8
  have F9 := fun_mk l9 c9 k9
  have B9 := F9.binds (ps := ["place", "last"]) fun _ _ _ _ _ _ us hl => by obtain ⟨_, _, rfl⟩ := len2 hl; rfl
  have A9 := mg_of X G a9
  have F10 := fun_mk l10 c10 k10
  have B10 := F10.binds (ps := ["rules", "row"]) fun _ _ _ _ _ _ us hl => by obtain ⟨_, _, rfl⟩ := len2 hl; rfl
  have A10 := mg_of X G a10
  have F11 := fun_mk l11 c11 k11
  have B11 := F11.binds (ps := ["letters", "text"]) fun _ _ _ _ _ _ us hl => by obtain ⟨_, _, rfl⟩ := len2 hl; rfl
  have A11 := mg_of X G a11
  have F12 := fun_mk l12 c12 k12
  have B12 := F12.binds (ps := ["ones", "others"]) fun _ _ _ _ _ _ us hl => by obtain ⟨_, _, rfl⟩ := len2 hl; rfl
  have A12 := mg_of X G a12
  have F13 := fun_mk l13 c13 k13
  have B13 := F13.binds (ps := ["held", "sizes"]) fun _ _ _ _ _ _ us hl => by obtain ⟨_, _, rfl⟩ := len2 hl; rfl
  have A13 := mg_of X G a13
  have F14 := fun_mk l14 c14 k14
  have B14 := F14.binds (ps := ["rules"]) fun _ _ _ _ _ _ us hl => by obtain ⟨_, rfl⟩ := len1 hl; rfl
  have A14 := mg_of X G a14
  have F15 := fun_mk l15 c15 k15
  have B15 := F15.binds (ps := ["table", "held"]) fun _ _ _ _ _ _ us hl => by obtain ⟨_, _, rfl⟩ := len2 hl; rfl
  have A15 := mg_of X G a15
  have F16 := fun_mk l16 c16 k16
  have B16 := F16.binds (ps := ["rules", "row", "times"]) fun _ _ _ _ _ _ us hl => by obtain ⟨_, _, _, rfl⟩ := len3 hl; rfl
  have A16 := mg_of X G a16
  have F17 := fun_mk l17 c17 k17
  have B17 := F17.binds (ps := ["rules", "times"]) fun _ _ _ _ _ _ us hl => by obtain ⟨_, _, rfl⟩ := len2 hl; rfl
  have A17 := mg_of X G a17
  have F18 := fun_mk l18 c18 k18
  have B18 := F18.binds (ps := ["letters", "text"]) fun _ _ _ _ _ _ us hl => by obtain ⟨_, _, rfl⟩ := len2 hl; rfl
  have A18 := mg_of X G a18
  have F19 := fun_mk l19 c19 k19
  have B19 := F19.binds (ps := ["self", "letters", "text"]) fun _ _ _ _ _ _ us hl => by obtain ⟨_, _, _, rfl⟩ := len3 hl; rfl
  have F20 := fun_mk l20 c20 k20
  have B20 := F20.binds (ps := ["self", "index"]) fun _ _ _ _ _ _ us hl => by obtain ⟨_, _, rfl⟩ := len2 hl; rfl
  have F21 := fun_mk l21 c21 k21
  have B21 := F21.binds (ps := ["self", "sizes", "place"]) fun _ _ _ _ _ _ us hl => by obtain ⟨_, _, _, rfl⟩ := len3 hl; rfl
  have F22 := fun_mk l22 c22 k22
  have B22 := F22.binds (ps := ["self", "sizes", "place"]) fun _ _ _ _ _ _ us hl => by obtain ⟨_, _, _, rfl⟩ := len3 hl; rfl
  have F23 := fun_mk l23 c23 k23
  have B23 := F23.binds (ps := ["rules", "row", "times"]) fun _ _ _ _ _ _ us hl => by obtain ⟨_, _, _, rfl⟩ := len3 hl; rfl
  have A23 := mg_of X G a23
  have F24 := fun_mk l24 c24 k24
  have B24 := F24.binds (ps := ["many"]) fun _ _ _ _ _ _ us hl => by obtain ⟨_, rfl⟩ := len1 hl; rfl
  have A24 := mg_of X G a24
  have F25 := fun_mk l25 c25 k25
  have B25 := F25.binds (ps := ["rules", "row", "times"]) fun _ _ _ _ _ _ us hl => by obtain ⟨_, _, _, rfl⟩ := len3 hl; rfl
  have A25 := mg_of X G a25
  have F26 := fun_mk l26 c26 k26
  have B26 := F26.binds (ps := ["rules", "row", "times"]) fun _ _ _ _ _ _ us hl => by obtain ⟨_, _, _, rfl⟩ := len3 hl; rfl
  have A26 := mg_of X G a26
  have F27 := fun_mk l27 c27 k27
  have B27 := F27.binds (ps := ["rules", "row", "times"]) fun _ _ _ _ _ _ us hl => by obtain ⟨_, _, _, rfl⟩ := len3 hl; rfl
  have A27 := mg_of X G a27
  have F28 := fun_mk l28 c28 k28
  have B28 := F28.binds (ps := ["rules", "row", "times"]) fun _ _ _ _ _ _ us hl => by obtain ⟨_, _, _, rfl⟩ := len3 hl; rfl
  have A28 := mg_of X G a28
  have F29 := fun_mk l29 c29 k29
  have B29 := F29.binds (ps := ["rules", "row", "times", "place"]) fun _ _ _ _ _ _ us hl => by obtain ⟨_, _, _, _, rfl⟩ := len4 hl; rfl
  have A29 := mg_of X G a29
  have F30 := fun_mk l30 c30 k30
  have B30 := F30.binds (ps := ["rules", "row", "times", "place"]) fun _ _ _ _ _ _ us hl => by obtain ⟨_, _, _, _, rfl⟩ := len4 hl; rfl
  have A30 := mg_of X G a30
  have F31 := fun_mk l31 c31 k31
  have B31 := F31.binds (ps := ["rules", "row", "times", "many"]) fun _ _ _ _ _ _ us hl => by obtain ⟨_, _, _, _, rfl⟩ := len4 hl; rfl
  have A31 := mg_of X G a31
  have F32 := fun_mk l32 c32 k32
  have B32 := F32.binds (ps := ["one", "other"]) fun _ _ _ _ _ _ us hl => by obtain ⟨_, _, rfl⟩ := len2 hl; rfl
  have A32 := mg_of X G a32
  have F33 := fun_mk l33 c33 k33
  have B33 := F33.binds (ps := ["self", "many"]) fun _ _ _ _ _ _ us hl => by obtain ⟨_, _, rfl⟩ := len2 hl; rfl
  have F34 := fun_mk l34 c34 k34
  have B34 := F34.binds (ps := ["self", "rules", "one", "other"]) fun _ _ _ _ _ _ us hl => by obtain ⟨_, _, _, _, rfl⟩ := len4 hl; rfl
  have F35 := fun_mk l35 c35 k35
  have B35 := F35.binds (ps := ["self", "letters"]) fun _ _ _ _ _ _ us hl => by obtain ⟨_, _, rfl⟩ := len2 hl; rfl
  have F36 := fun_mk l36 c36 k36
  have B36 := F36.binds (ps := ["rules", "one", "other"]) fun _ _ _ _ _ _ us hl => by obtain ⟨_, _, _, rfl⟩ := len3 hl; rfl
  have A36 := mg_of X G a36
  have F37 := fun_mk l37 c37 k37
  have B37 := F37.binds (ps := ["rules", "one", "other"]) fun _ _ _ _ _ _ us hl => by obtain ⟨_, _, _, rfl⟩ := len3 hl; rfl
  have A37 := mg_of X G a37
  have F38 := fun_mk l38 c38 k38
  have B38 := F38.binds (ps := ["_law_which", "_law_more"]) fun _ _ _ _ _ _ us hl => by obtain ⟨_, _, rfl⟩ := len2 hl; rfl
  have A38 := mg_of X G a38
  have F39 := fun_mk l39 c39 k39
  have B39 := F39.binds (ps := ["_law_kind", "_law_which", "_law_more"]) fun _ _ _ _ _ _ us hl => by obtain ⟨_, _, _, rfl⟩ := len3 hl; rfl
  have A39 := mg_of X G a39
  have F40 := fun_mk l40 c40 k40
  have B40 := F40.binds (ps := ["_law_kind", "_law_which", "_law_more"]) fun _ _ _ _ _ _ us hl => by obtain ⟨_, _, _, rfl⟩ := len3 hl; rfl
  have A40 := mg_of X G a40
  have F41 := fun_mk l41 c41 k41
  have B41 := F41.binds (ps := ["_law_which", "_law_more"]) fun _ _ _ _ _ _ us hl => by obtain ⟨_, _, rfl⟩ := len2 hl; rfl
  have A41 := mg_of X G a41
  have F42 := fun_mk l42 c42 k42
  have B42 := F42.binds (ps := ["_law_kind", "_law_which", "_law_more"]) fun _ _ _ _ _ _ us hl => by obtain ⟨_, _, _, rfl⟩ := len3 hl; rfl
  have A42 := mg_of X G a42
  have F43 := fun_mk l43 c43 k43
  have B43 := F43.binds (ps := ["_law_script"]) fun _ _ _ _ _ _ us hl => by obtain ⟨_, rfl⟩ := len1 hl; rfl
  have A43 := mg_of X G a43
  have e := hfa.symm.trans A43
  have e : f43 = fa := by injection e with e; injection e with e; exact e.symm
  subst e
  exact ⟨⟨f1, _, F1, A1, B1, f2, _, F2, A2, B2, f3, _, F3, A3, B3, f4, _, F4, A4, B4, f5, _, F5, A5, B5, f6, _, F6, A6, B6, f7, _, F7, A7, B7, f8, _, F8, A8, B8, f9, _, F9, A9, B9, f10, _, F10, A10, B10, f11, _, F11, A11, B11, f12, _, F12, A12, B12, f13, _, F13, A13, B13, f14, _, F14, A14, B14, f15, _, F15, A15, B15, f16, _, F16, A16, B16, f17, _, F17, A17, B17, f18, _, F18, A18, B18, f19, _, F19, B19, f20, _, F20, B20, f21, _, F21, B21, f22, _, F22, B22, f23, _, F23, A23, B23, f24, _, F24, A24, B24, f25, _, F25, A25, B25, f26, _, F26, A26, B26, f27, _, F27, A27, B27, f28, _, F28, A28, B28, f29, _, F29, A29, B29, f30, _, F30, A30, B30, f31, _, F31, A31, B31, f32, _, F32, A32, B32, f33, _, F33, B33, f34, _, F34, B34, f35, _, F35, B35, f36, _, F36, A36, B36, f37, _, F37, A37, B37, f38, _, F38, A38, B38, f39, _, F39, A39, B39, f40, _, F40, A40, B40, f41, _, F41, A41, B41, f42, _, F42, A42, B42, f43, _, F43, A43, B43, y150, ⟨y144, y140, y145, y146⟩, mg_of X G y133, ⟨y143, a19, i19, y141⟩, ⟨a20, i20, k20⟩, ⟨a21, i21, k21⟩, ⟨a22, i22, k22⟩, y48, y50, y52, y161, ⟨y155, y152, y156, y157⟩, mg_of X G y151, ⟨y154, a33, i33, y153⟩, ⟨a34, i34, k34⟩, y63, y172, ⟨y166, y163, y167, y168⟩, mg_of X G y162, ⟨y165, a35, i35, y164⟩, y51, y88, mg_of X G y67, ⟨y84, y69, y71, y73, y75, y79, y77⟩, y117, mg_of X G y90, ⟨y114, y93, y96, y99, y102, y108, y105⟩, y149, mg_of X G y132, ⟨y147, y134, y135, y136, y137, y139, y138⟩, y87, mg_of X G y66, ⟨y83, y68, y70, y72, y74, y78, y76⟩, y118, mg_of X G y91, ⟨y115, y94, y97, y100, y103, y109, y106⟩, y116, mg_of X G y89, ⟨y113, y92, y95, y98, y101, y107, y104⟩, y131, mg_of X G y119, ⟨y129, y120, y121, y122, y123, y125, y124⟩, y65, mg_of X G y55, ⟨y64, y56, y57, y58, y59, y61, y60⟩, y24, y43, y14, y25, y23, y34, y5, y111, y41, y49, y33, y42, y40, y46, y22, y142, y11, y31, y3, y12, y10, y18, y1, y80, y27, y44, y15, y28, y26, y35, y6, y112, y20, y39, y13, y21, y19, y32, y4, y110, y37, y47, y30, y38, y36, y45, y17, y126, y8, y29, y2, y9, y7, y16, y0, y62, ⟨og1, og2⟩, fun s v => .of_eq rfl, mg_none_of X G y85, mg_none_of X G y176, mg_none_of X G y173, mg_none_of X G y174, mg_none_of X G y177, mg_none_of X G y86, mg_none_of X G y178, mg_none_of X G y175, mg_none_of X G y171, mg_none_of X G y130, mg_none_of X G y179, mg_none_of X G y158, mg_none_of X G y180, mg_none_of X G y181, mg_none_of X G y182, ⟨_, by rw [<- alph_eq]; exact mg_of X G y128⟩, ⟨_, mg_of X G y82⟩, ⟨_, mg_of X G y170⟩, ⟨_, mg_of X G y54⟩⟩, rfl⟩
end GP
open PySem PySem.W PyProof.Rows
set_option maxRecDepth 100000 in
set_option maxHeartbeats 0 in
theorem PySem.Challenge.cw_growrow_k07_refused_holds : PySem.Challenge.rw_growrow_k07_refused.Holds := by
  w_on; o_law; k_head; (case hw => w_witness2)
  k_fill
  refine GP.walk (l := PySem.Challenge.rw_growrow_k07_refused) rfl rfl (fun w h Y => PySem.W.kIn_of Y) ?F
  case F =>
    intro w mg fa h KX G hmg
    refine' GP.mk_tx KX G hmg ?y133 ?y144 ?y140 ?y145 ?y146 ?y143 ?y141 ?y48 ?y50 ?y52 ?y151 ?y155 ?y152 ?y156 ?y157 ?y154 ?y153 ?y63 ?y162 ?y166 ?y163 ?y167 ?y168 ?y165 ?y164 ?y51 ?y67 ?y90 ?y132 ?y66 ?y91 ?y89 ?y119 ?y55 ?y84 ?y69 ?y71 ?y73 ?y75 ?y79 ?y77 ?y114 ?y93 ?y96 ?y99 ?y102 ?y108 ?y105 ?y147 ?y134 ?y135 ?y136 ?y137 ?y139 ?y138 ?y83 ?y68 ?y70 ?y72 ?y74 ?y78 ?y76 ?y115 ?y94 ?y97 ?y100 ?y103 ?y109 ?y106 ?y113 ?y92 ?y95 ?y98 ?y101 ?y107 ?y104 ?y129 ?y120 ?y121 ?y122 ?y123 ?y125 ?y124 ?y64 ?y56 ?y57 ?y58 ?y59 ?y61 ?y60 ?y24 ?y43 ?y14 ?y25 ?y23 ?y34 ?y5 ?y111 ?y41 ?y49 ?y33 ?y42 ?y40 ?y46 ?y22 ?y142 ?y11 ?y31 ?y3 ?y12 ?y10 ?y18 ?y1 ?y80 ?y27 ?y44 ?y15 ?y28 ?y26 ?y35 ?y6 ?y112 ?y20 ?y39 ?y13 ?y21 ?y19 ?y32 ?y4 ?y110 ?y37 ?y47 ?y30 ?y38 ?y36 ?y45 ?y17 ?y126 ?y8 ?y29 ?y2 ?y9 ?y7 ?y16 ?y0 ?y62 ?og1 ?og2 ?a1 ?l1 ?c1 ?k1 ?a2 ?l2 ?c2 ?k2 ?a3 ?l3 ?c3 ?k3 ?a4 ?l4 ?c4 ?k4 ?a5 ?l5 ?c5 ?k5 ?a6 ?l6 ?c6 ?k6 ?a7 ?l7 ?c7 ?k7 ?a8 ?l8 ?c8 ?k8 ?a9 ?l9 ?c9 ?k9 ?a10 ?l10 ?c10 ?k10 ?a11 ?l11 ?c11 ?k11 ?a12 ?l12 ?c12 ?k12 ?a13 ?l13 ?c13 ?k13 ?a14 ?l14 ?c14 ?k14 ?a15 ?l15 ?c15 ?k15 ?a16 ?l16 ?c16 ?k16 ?a17 ?l17 ?c17 ?k17 ?a18 ?l18 ?c18 ?k18 ?a19 ?i19 ?l19 ?c19 ?k19 ?a20 ?i20 ?l20 ?c20 ?k20 ?a21 ?i21 ?l21 ?c21 ?k21 ?a22 ?i22 ?l22 ?c22 ?k22 ?a23 ?l23 ?c23 ?k23 ?a24 ?l24 ?c24 ?k24 ?a25 ?l25 ?c25 ?k25 ?a26 ?l26 ?c26 ?k26 ?a27 ?l27 ?c27 ?k27 ?a28 ?l28 ?c28 ?k28 ?a29 ?l29 ?c29 ?k29 ?a30 ?l30 ?c30 ?k30 ?a31 ?l31 ?c31 ?k31 ?a32 ?l32 ?c32 ?k32 ?a33 ?i33 ?l33 ?c33 ?k33 ?a34 ?i34 ?l34 ?c34 ?k34 ?a35 ?i35 ?l35 ?c35 ?k35 ?a36 ?l36 ?c36 ?k36 ?a37 ?l37 ?c37 ?k37 ?a38 ?l38 ?c38 ?k38 ?a39 ?l39 ?c39 ?k39 ?a40 ?l40 ?c40 ?k40 ?a41 ?l41 ?c41 ?k41 ?a42 ?l42 ?c42 ?k42 ?a43 ?l43 ?c43 ?k43 ?y85 ?y176 ?y173 ?y174 ?y177 ?y86 ?y178 ?y175 ?y171 ?y130 ?y179 ?y158 ?y180 ?y181 ?y182 ?y128 ?y82 ?y170 ?y54
    (case y133 | y144 | y140 | y145 | y146 | y143 | y141 | y48 | y50 | y52 | y151 | y155 | y152 | y156 | y157 | y154 | y153 | y63 | y162 | y166 | y163 | y167 | y168 | y165 | y164 | y51 | y67 | y90 | y132 | y66 | y91 | y89 | y119 | y55 => k_is)
    (case y84 => k_exc)
    (case y69 | y71 | y73 | y75 | y79 | y77 => k_is)
    (case y114 => k_exc)
    (case y93 | y96 | y99 | y102 | y108 | y105 => k_is)
    (case y147 => k_exc)
    (case y134 | y135 | y136 | y137 | y139 | y138 => k_is)
    (case y83 => k_exc)
    (case y68 | y70 | y72 | y74 | y78 | y76 => k_is)
    (case y115 => k_exc)
    (case y94 | y97 | y100 | y103 | y109 | y106 => k_is)
    (case y113 => k_exc)
    (case y92 | y95 | y98 | y101 | y107 | y104 => k_is)
    (case y129 => k_exc)
    (case y120 | y121 | y122 | y123 | y125 | y124 => k_is)
    (case y64 => k_exc)
    (case y56 | y57 | y58 | y59 | y61 | y60 => k_is)
    (case y24 | y43 | y14 | y25 | y23 | y34 | y5 | y111 | y41 | y49 | y33 | y42 | y40 | y46 | y22 | y142 | y11 | y31 | y3 | y12 | y10 | y18 | y1 | y80 | y27 | y44 | y15 | y28 | y26 | y35 | y6 | y112 | y20 | y39 | y13 | y21 | y19 | y32 | y4 | y110 | y37 | y47 | y30 | y38 | y36 | y45 | y17 | y126 | y8 | y29 | y2 | y9 | y7 | y16 | y0 | y62 => kit_is)
    (case og1 | og2 | a1 | l1 | c1 | k1 | a2 | l2 | c2 | k2 | a3 | l3 | c3 | k3 | a4 | l4 | c4 | k4 | a5 | l5 | c5 | k5 | a6 | l6 | c6 | k6 | a7 | l7 | c7 | k7 | a8 | l8 | c8 | k8 | a9 | l9 | c9 | k9 | a10 | l10 | c10 | k10 | a11 | l11 | c11 | k11 | a12 | l12 | c12 | k12 | a13 | l13 | c13 | k13 | a14 | l14 | c14 | k14 | a15 | l15 => k_is)
    (case c15 | k15 | a16 | l16 | c16 | k16 | a17 | l17 | c17 | k17 | a18 | l18 | c18 | k18 | a19 | i19 | l19 | c19 | k19 | a20 | i20 | l20 | c20 | k20 | a21 | i21 | l21 | c21 | k21 | a22 | i22 | l22 | c22 | k22 | a23 | l23 | c23 | k23 | a24 | l24 | c24 | k24 | a25 | l25 | c25 | k25 | a26 | l26 | c26 | k26 | a27 | l27 | c27 | k27 | a28 | l28 | c28 | k28 | a29 | l29 => k_is)
    (case c29 | k29 | a30 | l30 | c30 | k30 | a31 | l31 | c31 | k31 | a32 | l32 | c32 | k32 | a33 | i33 | l33 | c33 | k33 | a34 | i34 | l34 | c34 | k34 | a35 | i35 | l35 | c35 | k35 | a36 | l36 | c36 | k36 | a37 | l37 | c37 | k37 | a38 | l38 | c38 | k38 | a39 | l39 | c39 | k39 | a40 | l40 | c40 | k40 | a41 | l41 | c41 | k41 | a42 | l42 | c42 | k42 | a43 | l43 | c43 => k_is)
    (case k43 | y85 | y176 | y173 | y174 | y177 | y86 | y178 | y175 | y171 | y130 | y179 | y158 | y180 | y181 | y182 | y128 | y82 | y170 | y54 => k_is)
