import PyProof.Rows.All
import Wide.All
import OpenK.AllK
import Wide.FinOn
import Lean
import PyProof.EqAt
import PyProof.EqKinds
import PyProof.TupleCall
import PyProof.WalksMore
import PyProof.ListRange
import PyProof.NeKinds
import PyProof.SliceStr2
import PyProof.StrOps2
import PyProof.Rows.SetFrom
import PyProof.MinMaxWalk
import KE.KRevIter
import KE.KDictList
import PyProof.AttrMiss
import PyProof.IsiH_list
import PyProof.IsiH_tuple
import KE.KDictOf
import PyProof.ZipIter
import PyProof.TupleIter
import KE.KxWritten
import OpenK.KOwn
import KE.KTryMore
import PyProof.StrLawsRepr
import PyProof.RulesDel
import PyProof.RulesAs
import PyProof.ExcArgsOwn
import KE.KIsAll
import PySem.Challenge.RW_backissues_k27_book_full
set_option Elab.async false
set_option linter.all false
set_option maxHeartbeats 4000000
set_option maxRecDepth 100000
namespace L2
open PySem PySem.Spec PyProof.Rows
abbrev Key := Sum Int Str
def z8e : Key -> Value -> Bool
 | .inl k, v => Value.isInt k v
 | .inr x, v => Value.isStrOf x v
def keyH (w : World) : Key -> Int
 | .inl k => hashInt k
 | .inr x => hashStr w x
theorem z0Z : ∀ {k : Key} {v : Value}, z8e k v = true -> (∃ i t, k = Sum.inl i /\ v = Value.int i t) \/ (∃ x t, k = Sum.inr x /\ v = Value.str x t)
 | .inl i, v, h => by
  obtain ⟨t, e⟩ := Value.isInt_shape (k := i) (v := v) h
  exact .inl ⟨i, t, rfl, e⟩
 | .inr x, v, h => by
  obtain ⟨t, e⟩ := Value.isStrOf_shape (x := x) (v := v) h
  exact .inr ⟨x, t, rfl, e⟩
theorem y11 (i : Int) (t : Tok) : z8e (.inl i) (.int i t) = true := by simp [z8e, Value.isInt]
theorem y0R (x : Str) (t : Tok) : z8e (.inr x) (.str x t) = true := by simp [z8e, Value.isStrOf]
theorem y4F (a b : Int) : decide ((Sum.inl a : Key) = Sum.inl b) = (a == b) := by
 by_cases e : a = b
 ·subst e; simp
 ·have h : ¬ (Sum.inl a : Key) = Sum.inl b := fun q => e (Sum.inl.inj q)
  rw [decide_eq_false h]
  exact (beq_eq_false_iff_ne.mpr e).symm
theorem y4q (a b : Str) : decide ((Sum.inr a : Key) = Sum.inr b) = decide (a = b) := by
 by_cases e : a = b
 ·subst e; simp
 ·have h : ¬ (Sum.inr a : Key) = Sum.inr b := fun q => e (Sum.inr.inj q)
  rw [decide_eq_false h, decide_eq_false e]
theorem y3V (a : Int) (b : Str) : decide ((Sum.inl a : Key) = Sum.inr b) = false := decide_eq_false (fun q => nomatch q)
theorem y4m (a : Str) (b : Int) : decide ((Sum.inr a : Key) = Sum.inl b) = false := decide_eq_false (fun q => nomatch q)
def z19 (prog : Program) (w : World) : PySem.KeyKind prog w Key where
 is := z8e
 hash := keyH w
 inj := fun v a b ha hb => by
  rcases z0Z ha with ⟨i, t, rfl, rfl⟩ | ⟨x, t, rfl, rfl⟩
  ·rcases z0Z hb with ⟨j, u, rfl, e⟩ | ⟨y, u, rfl, e⟩
   ·injection e with e1 _; rw [e1]
   ·exact nomatch e
  ·rcases z0Z hb with ⟨j, u, rfl, e⟩ | ⟨y, u, rfl, e⟩
   ·exact nomatch e
   ·injection e with e1 _; rw [e1]
 byValue := fun k v h => by
  rcases z0Z h with ⟨i, t, rfl, rfl⟩ | ⟨x, t, rfl, rfl⟩ <;> rfl
 pyHash := fun hv h => by
  rcases z0Z hv with ⟨i, t, rfl, rfl⟩ | ⟨x, t, rfl, rfl⟩
  ·exact wpAny_pyHash_int h
  ·exact wpAny_pyHash_str h
 eqBool := fun hu hv h => by
  rcases z0Z hu with ⟨i, t, rfl, rfl⟩ | ⟨x, t, rfl, rfl⟩
  ·rcases z0Z hv with ⟨j, u, rfl, rfl⟩ | ⟨y, u, rfl, rfl⟩
   ·rw [y4F] at h; exact wpAny_eqBool_int h
   ·rw [y3V] at h; exact SeqAt.EqAt.int_str i t y u _ _ _ _ h
  ·rcases z0Z hv with ⟨j, u, rfl, rfl⟩ | ⟨y, u, rfl, rfl⟩
   ·rw [y4m] at h; exact SeqAt.EqAt.str_int x t j u _ _ _ _ h
   ·rw [y4q] at h; exact wpAny_eqBool_str h
 «strs» := fun k x t v h => by
  rcases z0Z h with ⟨i, u, rfl, e⟩ | ⟨y, u, rfl, e⟩
  ·exact nomatch e
  ·injection e with e1 _
   subst e1
   cases v <;> rfl
theorem z8O (prog : Program) (w : World) (i : Int) (t : Tok) : (z19 prog w).is (.inl i) (.int i t) = true := y11 i t
theorem z8j (prog : Program) (w : World) (x : Str) (t : Tok) : (z19 prog w).is (.inr x) (.str x t) = true := y0R x t
inductive V where
 | non | bl (b : Bool) | int (i : Int) | str (x : Str) | byt (b : Array UInt8) | flt (b : UInt64) | ref (a : Addr) | ty (n : String)
 deriving DecidableEq
def RelV : V -> Value -> Prop
 | .non, u => u = Value.none
 | .bl b, u => u = Value.bool b
 | .int i, u => ∃ t, u = Value.int i t
 | .str x, u => ∃ t, u = Value.str x t
 | .byt b, u => ∃ t, u = Value.bytes b t
 | .flt b, u => ∃ t, u = Value.float b t
 | .ref a, u => u = Value.ref a
 | .ty n, u => u = Value.type n
abbrev Vals : List V -> List Value -> Prop := Paired RelV
theorem Vals.length {xs : List V} {us : List Value} (r : Vals xs us) : xs.length = us.length := Paired.length r
theorem Vals.get : ∀ {xs : List V} {us : List Value} {i : Nat} {x : V}, Vals xs us -> xs[i]? = some x -> ∃ u, us[i]? = some u /\ RelV x u
 | _, _, _, _, .nil, e => by simp at e
 | _, _, 0, _, .cons r _, e => by simp at e; subst e; exact ⟨_, rfl, r⟩
 | _, _, i + 1, x, .cons _ t, e => by
  obtain ⟨u, h1, h2⟩ := Vals.get (i := i) (x := x) t (by simpa using e)
  exact ⟨u, by simpa using h1, h2⟩
theorem Vals.set {x : V} {u : Value} (r : RelV x u) : ∀ {xs : List V} {us : List Value} (i : Nat), Vals xs us -> Vals (xs.set i x) (us.set i u)
 | _, _, _, .nil => .nil
 | _, _, 0, .cons _ t => .cons r t
 | _, _, i + 1, .cons q t => .cons q (Vals.set r i t)
theorem Vals.append : ∀ {xs ys : List V} {us ws : List Value}, Vals xs us -> Vals ys ws -> Vals (xs ++ ys) (us ++ ws)
 | _, _, _, _, .nil, s => s
 | _, _, _, _, .cons r t, s => .cons r (Vals.append t s)
theorem Vals.take : ∀ {xs : List V} {us : List Value} (n : Nat), Vals xs us -> Vals (xs.take n) (us.take n)
 | _, _, 0, _ => .nil
 | _, _, _ + 1, .nil => .nil
 | _, _, n + 1, .cons r t => .cons r (Vals.take n t)
theorem Vals.drop : ∀ {xs : List V} {us : List Value} (n : Nat), Vals xs us -> Vals (xs.drop n) (us.drop n)
 | _, _, 0, r => r
 | _, _, _ + 1, .nil => .nil
 | _, _, n + 1, .cons _ t => Vals.drop n t
def RelO : Option V -> Option Value -> Prop
 | some v, some u => RelV v u
 | none, none => True
 | _, _ => False
def KV {κ : Type} : List (κ × V) -> List (κ × Value) -> Prop := Paired fun (p : κ × V) (q : κ × Value) => p.1 = q.1 /\ RelV p.2 q.2
def kV : Key -> V
 | .inl i => .int i
 | .inr x => .str x
inductive HO where
 /-- a list -/
 | lst (xs : List V)
 /-- a tuple (never changes) -/
 | tup (xs : List V)
 /-- a dict whose keys are ints and texts; one whose keys are tuples of ints and texts (the empty one is both) -/
 | dK (kvs : List (Key × V)) | dT (kvs : List (List Key × V))
 /-- a set of ints: its members, its size -/
 | set (S : Int -> Bool) (n : Nat)
 /-- an instance of the class at C, its dict at dx, its attributes -/
 | ins (C dx : Addr) (fs : List (Str × V))
 /-- the dict of the instance at x -/
 | own (x : Addr)
 /-- the dict of an exception -/
 | xd (fs : List (Str × V))
 /-- a bound method, f of x -/
 | met (f x : Addr)
 /-- a range object lo, lo + 1, .. below hi -/
 | rng (lo hi : Int)
 /-- a thing that is known to the object (the script; a dict while a loop walks it): read, never written while it is so -/
 | frz (o : Obj) (u : HO)
 /-- a code object's table -/
 | tbl (ps : Array Value)
 /-- any other thing, by what is true of its one object (a def of one's own: SetO a S n := HO.ext fun h => ..) -/
 | ext (φ : Heap -> Prop)
abbrev Hp := Addr -> Option HO
def upd (H : Hp) (a : Addr) (o : HO) : Hp := fun b => if b = a then some o else H b
def PlT (h : Heap) (a : Addr) (items : Array Value) : Prop := ∃ o, h.get? a = some o /\ o.cls = .type "tuple" /\ (∃ n, o.data = .seq items n) /\ o.dict = none
theorem PlT.tup {h : Heap} {a : Addr} {items : Array Value} (p : PlT h a items) : IsTup h a items := let ⟨o, e, c, d, _⟩ := p; ⟨o, e, c, d⟩
theorem PlT.new (h : Heap) (items : Array Value) : PlT (h.push { cls := .type "tuple", data := .seq items }) h.objs.size items := ⟨_, Heap.get?_push_size _ rfl, rfl, ⟨_, rfl⟩, rfl⟩
theorem z03 {H : Hp} {a : Addr} {o : HO} : upd H a o a = some o := by unfold upd; rw [if_pos rfl]
theorem z0b {H : Hp} {a b : Addr} {o : HO} (h : b ≠ a) : upd H a o b = H b := by unfold upd; rw [if_neg h]
theorem z77 {H : Hp} {a : Addr} {o u : HO} : upd (upd H a o) a u = upd H a u := by
 funext b; unfold upd; split <;> rfl
theorem z4A {H : Hp} {a b : Addr} {o u : HO} (h : H a = some o) (h' : H b = some u) (d : o ≠ u) : a ≠ b := by
 intro e; subst e; rw [h] at h'; exact d (Option.some.inj h')
theorem z0j {H : Hp} {a b : Addr} {o : HO} (h : H a = some o) (h' : H b = none) : a ≠ b := by
 intro e; subst e; rw [h] at h'; cases h'
section
variable (P : Program) (w : World)
def z16 (H : Hp) (h : Heap) (a : Addr) : HO -> Prop
 | .lst xs => xs.length ≤ sizeLine /\ ∃ (its : List Value) (n : Nat), Vals xs its /\ h.get? a = some { cls := .type "list", data := .seq its.toArray n }
 | .tup xs => xs.length ≤ sizeLine /\ ∃ its : List Value, Vals xs its /\ PlT h a its.toArray
 | .dK kvs => kvs.length ≤ sizeLine /\ (a == sysModules) = false /\ ∃ vs, KV kvs vs /\ h.DictOf (z19 P w) a vs
 | .dT kvs => kvs.length ≤ sizeLine /\ (a == sysModules) = false /\ ∃ xs : List (List Key × Addr × Value),
   Paired (fun (p : List Key × V) (q : List Key × Addr × Value) => p.1 = q.1 /\ H q.2.1 = some (.tup (p.1.map kV)) /\ RelV p.2 q.2.2) kvs xs /\
   ∃ o es ep, h.get? a = some o /\ o.ExactDict /\ o.data = .dict es ep /\ es.toList = xs.map (entryOfKey (tupleKind (z19 P w))) /\ (xs.map (·.1)).Nodup
 | .set S n => h.SetOf (intKind P w) a S n
 | .ins C dx fs => H dx = some (.own a) /\ fs.length ≤ 1000 /\ dx ≠ a /\ h.get? a = some (PySem.W.instObj C dx) /\
   ∃ mA, h.Ns1 dx mA /\ (∀ f, RelO (fs.lookup f) (mA f)) /\ PySem.Within mA (fs.map (·.1))
 | .own _ => ∃ o, h.get? a = some o
 | .xd fs => ∃ mA, h.Ns1 a mA /\ ∀ f, RelO (fs.lookup f) (mA f)
 | .rng lo hi => ∃ t u v, h.get? a = some { cls := .type "range", data := .fields #[.int lo t, .int hi u, .int 1 v] }
 | .frz o u => h.get? a = some o /\ z16 H h a u
 | .tbl ps => h.get? a = some { cls := .none, data := .fields ps }
 | .met f x => h.get? a = some (PySem.W.methodObj (.ref f) (.ref x))
 | .ext φ => φ h /\ (∃ o, h.get? a = some o) /\ ∀ h1 h2 : Heap, φ h1 -> (∀ o, h1.get? a = some o -> h2.get? a = some o) -> φ h2
def HOk (H : Hp) (h : Heap) : Prop := ∀ a o, H a = some o -> z16 P w H h a o
end
section
variable {P : Program} {w : World} {H H' : Hp} {h h' : Heap} {a : Addr} {o : HO}
theorem z16.lt (x : z16 P w H h a o) : a < h.objs.size := by
 cases o with
 | lst xs => obtain ⟨_, _, _, _, e⟩ := x; exact Heap.lt_size e
 | tup xs => obtain ⟨_, _, _, o, e, _⟩ := x; exact Heap.lt_size e
 | dK kvs => obtain ⟨_, _, _, _, o, _, _, e, _⟩ := x; exact Heap.lt_size e
 | dT kvs => obtain ⟨_, _, _, _, o, _, _, e, _⟩ := x; exact Heap.lt_size e
 | set S n => obtain ⟨o, _, _, _, e, _⟩ := x; exact Heap.lt_size e
 | ins C dx fs => obtain ⟨_, _, _, e, _⟩ := x; exact Heap.lt_size e
 | own y => obtain ⟨_, e⟩ := x; exact Heap.lt_size e
 | xd fs => obtain ⟨_, ⟨_, _, _, e, _⟩, _⟩ := x; exact Heap.lt_size e
 | rng lo hi => obtain ⟨_, _, _, e⟩ := x; exact Heap.lt_size e
 | frz ob u => obtain ⟨e, _⟩ := x; exact Heap.lt_size e
 | tbl ps => exact Heap.lt_size (show h.get? a = some _ from x)
 | met f y => exact Heap.lt_size (show h.get? a = some _ from x)
 | ext φ => obtain ⟨_, ⟨_, e⟩, _⟩ := x; exact Heap.lt_size e
theorem Paired.mapP {α β : Type} {F G : α -> β -> Prop} : ∀ {l₁ : List α} {l₂ : List β}, Paired F l₁ l₂ -> (∀ a b, F a b -> G a b) -> Paired G l₁ l₂
 | _, _, .nil, _ => .nil
 | _, _, .cons r t, f => .cons (f _ _ r) (Paired.mapP t f)
theorem z16.stay (x : z16 P w H h a o) (k : ∀ b u, (b = a \/ H b = some (.own a)) -> h.get? b = some u -> h'.get? b = some u)
  (ho : ∀ b, H b = some (.own a) -> H' b = some (.own a)) (ht : ∀ b xs, H b = some (.tup xs) -> H' b = some (.tup xs)) : z16 P w H' h' a o := by
 induction o with
 | lst xs => obtain ⟨z, its, n, r, e⟩ := x; exact ⟨z, its, n, r, k _ _ (.inl rfl) e⟩
 | tup xs => obtain ⟨z, its, r, ob, e, c⟩ := x; exact ⟨z, its, r, ob, k _ _ (.inl rfl) e, c⟩
 | dK kvs => obtain ⟨z, y, vs, r, ob, es, ep, e, c⟩ := x; exact ⟨z, y, vs, r, ob, es, ep, k _ _ (.inl rfl) e, c⟩
 | dT kvs =>
  obtain ⟨z, y, xs, r, ob, es, ep, e, c⟩ := x
  exact ⟨z, y, xs, Paired.mapP r fun p q z => ⟨z.1, ht _ _ z.2.1, z.2.2⟩, ob, es, ep, k _ _ (.inl rfl) e, c⟩
 | set S n => obtain ⟨ob, es, ep, t, e, c⟩ := x; exact ⟨ob, es, ep, t, k _ _ (.inl rfl) e, c⟩
 | ins C dx fs =>
  obtain ⟨d, z, ne, e, mA, ⟨od, es, ep, e2, c⟩, r⟩ := x
  exact ⟨ho _ d, z, ne, k _ _ (.inl rfl) e, mA, ⟨od, es, ep, k _ _ (.inr d) e2, c⟩, r⟩
 | own y => obtain ⟨ob, e⟩ := x; exact ⟨ob, k _ _ (.inl rfl) e⟩
 | xd fs => obtain ⟨mA, ⟨od, es, ep, e, c⟩, r⟩ := x; exact ⟨mA, ⟨od, es, ep, k _ _ (.inl rfl) e, c⟩, r⟩
 | rng lo hi => obtain ⟨t, u, v, e⟩ := x; exact ⟨t, u, v, k _ _ (.inl rfl) e⟩
 | frz ob u ih => obtain ⟨e, q⟩ := x; exact ⟨k _ _ (.inl rfl) e, ih q⟩
 | tbl ps =>
  have e : h.get? a = some { cls := .none, data := .fields ps } := x
  show h'.get? a = some { cls := .none, data := .fields ps }
  exact k a _ (.inl rfl) e
 | met f y =>
  have e : h.get? a = some (PySem.W.methodObj (.ref f) (.ref y)) := x
  show h'.get? a = some (PySem.W.methodObj (.ref f) (.ref y))
  exact k a _ (.inl rfl) e
 | ext φ => obtain ⟨p, ⟨o, e⟩, st⟩ := x; exact ⟨st _ _ p fun o q => k _ _ (.inl rfl) q, ⟨o, k _ _ (.inl rfl) e⟩, st⟩
theorem HOk.lt (x : HOk P w H h) (e : H a = some o) : a < h.objs.size := (x a o e).lt
theorem HOk.fresh (x : HOk P w H h) (e : h.objs.size ≤ a) : H a = none := by
 cases q : H a with
 | none => rfl
 | some u => exact absurd (Nat.lt_of_lt_of_le (x.lt q) e) (Nat.lt_irrefl _)
theorem HOk.kept (x : HOk P w H h) (k : ∀ b u, h.get? b = some u -> h'.get? b = some u) : HOk P w H h' := fun a o e =>
 (x a o e).stay (fun b u _ q => k b u q) (fun _ q => q) fun _ _ q => q
theorem HOk.laid (x : HOk P w H h) (k : ∀ b u, h.get? b = some u -> h'.get? b = some u) (hp : h.objs.size ≤ a) (new : z16 P w (upd H a o) h' a o) : HOk P w (upd H a o) h' := fun b u e => by
 have hn := x.fresh hp
 by_cases hb : b = a
 ·subst hb; rw [z03] at e; cases e; exact new
 ·rw [z0b hb] at e
  exact (x b u e).stay (fun c v _ q => k c v q) (fun c q => by rw [z0b (z0j q hn)]; exact q) fun c xs q => by rw [z0b (z0j q hn)]; exact q
end
def Rd (H : Hp) (a : Addr) (u : HO) : Prop := H a = some u \/ ∃ o, H a = some (.frz o u)
theorem Rd.ok {P : Program} {w : World} {H : Hp} {h : Heap} {a : Addr} {u : HO} (r : Rd H a u) (x : HOk P w H h) : z16 P w H h a u := by
 rcases r with r | ⟨o, r⟩
 ·exact x a u r
 ·obtain ⟨_, q⟩ := x a _ r
  exact q
def Mut : Option HO -> Prop
 | some (.lst _) => True
 | some (.dK _) => True
 | some (.dT _) => True
 | some (.set _ _) => True
 | some (.ins _ _ _) => True
 | some (.ext _) => True
 | _ => False
section
variable {P : Program} {w : World} {H : Hp} {h h' : Heap} {x e : Addr} {o' : HO}
theorem HOk.write (ok : HOk P w H h) (mu : Mut (H x)) (he : e = x \/ H e = some (.own x)) (k : ∀ b u, b ≠ e -> h.get? b = some u -> h'.get? b = some u) (heo : ∃ u, h'.get? e = some u)
  (new : z16 P w (upd H x o') h' x o') : HOk P w (upd H x o') h' := fun b u q => by
 have nown : ∀ c y, H c = some (.own y) -> c ≠ x := fun c y r z => by subst z; rw [r] at mu; exact mu
 have ntup : ∀ c xs, H c = some (.tup xs) -> c ≠ x := fun c xs r z => by subst z; rw [r] at mu; exact mu
 by_cases hb : b = x
 ·subst hb; rw [z03] at q; cases q; exact new
 ·rw [z0b hb] at q
  by_cases hbe : b = e
  ·have q' : H b = some (.own x) := by
    rcases he with z | z
    ·exact absurd (hbe.trans z) hb
    ·rw [hbe]; exact z
   rw [q] at q'; cases q'
   obtain ⟨v, hv⟩ := heo
   exact ⟨v, by rw [hbe]; exact hv⟩
  ·refine (ok b u q).stay (fun c v hc r => k c v ?_ r) (fun c r => by rw [z0b (nown c b r)]; exact r) fun c xs r => by rw [z0b (ntup c xs r)]; exact r
   rcases hc with rfl | hc
   ·exact hbe
   ·rintro rfl
    rcases he with z | z
    ·exact nown c b hc z
    ·rw [hc] at z; cases z; exact hb rfl
end
structure Un (fs ex : List Addr) (H H' : Hp) (h h' : Heap) : Prop where
 keep : ∀ b o, h.get? b = some o -> H b = none -> b ∉ fs -> b ∉ ex -> h'.get? b = some o
 slot : ∀ b o, h.get? b = some o -> H b = none -> b ∈ fs -> b ∉ ex -> ∃ sl, h'.get? b = some { o with slots := sl }
 free : ∀ b o, h.get? b = some o -> H b = none -> b ∉ ex -> H' b = none
 there : ∀ b o, h.get? b = some o -> b ∉ ex -> ∃ o', h'.get? b = some o'
 tups : ∀ b xs, H b = some (.tup xs) -> H' b = some (.tup xs)
 frzs : ∀ b o u, H b = some (.frz o u) -> H' b = some (.frz o u)
 tbls : ∀ b ps, H b = some (.tbl ps) -> ∃ more, H' b = some (.tbl (ps ++ more))
section
variable {fs fs' ex ex' : List Addr} {H H1 H2 : Hp} {h h1 h2 h' : Heap} {a x e : Addr} {o : HO}
theorem Un.any (u : Un fs ex H H1 h h1) {b : Addr} {ob : Obj} (q : h.get? b = some ob) (n : H b = none) (hx : b ∉ ex) : ∃ sl, h1.get? b = some { ob with slots := sl } := by
 by_cases hb : b ∈ fs
 ·exact u.slot b ob q n hb hx
 ·exact ⟨ob.slots, u.keep b ob q n hb hx⟩
theorem Un.kept (k : ∀ b u, h.get? b = some u -> h'.get? b = some u) : Un fs ex H H h h' :=
 ⟨fun b ob q _ _ _ => k b ob q, fun b ob q _ _ _ => ⟨ob.slots, k b ob q⟩, fun _ _ _ n _ => n, fun b ob q _ => ⟨ob, k b ob q⟩, fun _ _ q => q, fun _ _ _ q => q, fun _ ps q => ⟨#[], by rw [q]; simp⟩⟩
theorem Un.refl : Un fs ex H H h h := Un.kept fun _ _ q => q
theorem Un.laid (k : ∀ b u, h.get? b = some u -> h'.get? b = some u) (hp : h.objs.size ≤ a) (hn : H a = none) : Un fs ex H (upd H a o) h h' where
 keep := fun b u q _ _ _ => k b u q
 slot := fun b u q _ _ _ => ⟨u.slots, k b u q⟩
 free := fun b u q n _ => by rw [z0b (Nat.ne_of_lt (Nat.lt_of_lt_of_le (Heap.lt_size q) hp))]; exact n
 there := fun b u q _ => ⟨u, k b u q⟩
 tups := fun b xs q => by rw [z0b (z0j q hn)]; exact q
 frzs := fun b u xs q => by rw [z0b (z0j q hn)]; exact q
 tbls := fun b ps q => ⟨#[], by rw [z0b (z0j q hn), q]; simp⟩
theorem Un.write (mu : Mut (H x)) (he : e = x \/ H e = some (.own x)) (k : ∀ b u, b ≠ e -> h.get? b = some u -> h'.get? b = some u) (heo : ∃ u, h'.get? e = some u) : Un fs ex H (upd H x o) h h' := by
 have hx : ∀ b, H b = none -> b ≠ x := fun b n z => by subst z; rw [n] at mu; exact mu
 have hb : ∀ b, H b = none -> b ≠ e := fun b n z => by
  subst z
  rcases he with r | r
  ·exact hx b n r
  ·rw [n] at r; cases r
 have hm : ∀ b u, H b = some u -> ¬ Mut (some u) -> b ≠ x := fun b u q nm z => by subst z; rw [q] at mu; exact nm mu
 refine ⟨fun b u q n _ _ => k b u (hb b n) q, fun b u q n _ _ => ⟨u.slots, k b u (hb b n) q⟩, fun b u q n _ => by rw [z0b (hx b n)]; exact n, fun b u q _ => ?_,
  fun b xs q => by rw [z0b (hm b _ q fun z => z)]; exact q, fun b u xs q => by rw [z0b (hm b _ q fun z => z)]; exact q, fun b ps q => ⟨#[], by rw [z0b (hm b _ q fun z => z), q]; simp⟩⟩
 by_cases hbe : b = e
 ·subst hbe; exact heo
 ·exact ⟨u, k b u hbe q⟩
end
def trk (h : Heap) (H : Hp) : List Addr := (List.range h.objs.size).filter fun a => (H a).isSome
def hidT (h : Heap) (H : Hp) : Heap := PySem.W.hideAll h (trk h H)
theorem y06 (h : Heap) (H : Hp) : (hidT h H).objs.size = h.objs.size := PySem.W.hideAll_size _ _
theorem y24 {h : Heap} {H : Hp} {b : Addr} {o : Obj} (e : h.get? b = some o) (n : H b = none) : (hidT h H).get? b = some o :=
 PySem.W.hideAll_get _ e fun hm => by
  have q : (H b).isSome = true := (List.mem_filter.mp hm).2
  rw [n] at q; simp at q
theorem y3a {h : Heap} {H : Hp} {b : Addr} {o : Obj} (e : (hidT h H).get? b = some o) : h.get? b = some o /\ H b = none := by
 have e' : h.get? b = some o := PySem.W.of_hideAll (trk h H) e
 refine ⟨e', ?_⟩
 cases q : H b with
 | none => rfl
 | some x =>
  have hm : b ∈ trk h H := List.mem_filter.mpr ⟨List.mem_range.mpr (Heap.lt_size e'), by simp [q]⟩
  have z : (hidT h H).get? b = none := PySem.W.hideAll_none (trk h H) hm
  rw [z] at e; cases e
def y3g (g h : Heap) (L : Addr) : List (Addr × Obj) := (List.range h.objs.size).filterMap fun a => if a = L \/ (g.get? a).isSome = true then none else (h.get? a).map fun o => (a, o)
def rest (g h : Heap) (L d : Addr) : List (Addr × Obj) := (y3g g h L).filter fun p => decide (p.1 ≠ d)
structure Mod (K : PySem.W.Frag) (mg : Str -> Option Value) (base : Heap) : Prop where
 kin : K.In base
 glob : base.Ns mainGlobals mg
 blt : ∃ mb, base.Ns builtinsNs mb /\ ∀ x : Str, x ≠ "__name__" -> mb x = bootBuiltins x
 nolimit : base.NoLimit
structure Cx where
 prog : Program
 w : World
 K : PySem.W.Frag
 mg : Str -> Option Value
 base : Heap
 A : Around
 N : List Str
 s₀ : Shared
 H₀ : Hp
 env : Env
 outer : List Env
 stack : List Env
 ex : List Addr
 fn : Str -> Bool
 calm : Bool
 pn : List (Addr × Obj)
 xe : Value -> Shared -> Prop
def frs (l : List Env) : List Addr := l.filterMap (·.frame)
abbrev Cx.fs (X : Cx) : List Addr := frs X.outer
def Vis (sc : Scope) (x : Str) : Prop := sc.names.lookup x = some .local \/ sc.names.lookup x = some .cell \/ sc.names.lookup x = some .free
def Loc (sc : Scope) (x : Str) : Prop := sc.names.lookup x = some .local \/ sc.names.lookup x = some .cell
def Look (env : Env) (h : Heap) (m : Str -> Option Value) (x : Str) (u : Value) : Prop :=
 (env.kindOf x = some .local /\ m x = some u) \/ ((env.kindOf x = some .cell \/ env.kindOf x = some .free) /\ ∃ c, env.cells.lookup x = some c /\ h.IsCell c (some u))
structure Cx.Ok (X : Cx) : Prop where
 mod : Mod X.K X.mg X.base
 kind : X.env.scope.kind = .function
 glob : X.env.globals = mainGlobals
 blt : X.env.builtins = builtinsNs
 above : X.s₀.heap.objs.size ≤ X.env.locals
 inj : ∀ x y c, X.env.cells.lookup x = some c -> X.env.cells.lookup y = some c -> x = y
 has : ∀ x, (X.env.kindOf x = some .cell \/ X.env.kindOf x = some .free) -> ∃ c, X.env.cells.lookup x = some c
 cab : ∀ x c, X.fn x = true -> X.env.cells.lookup x = some c -> X.s₀.heap.objs.size ≤ c
 hd : X.calm = true -> X.A.handled = none
 frames : X.A.frames = some X.stack
 stk : X.stack = X.outer \/ (X.stack = X.env :: X.outer /\ X.env.frame = some X.env.locals)
 exf : ∀ b ∈ X.ex, b ≠ X.env.locals /\ ∀ x c, X.env.cells.lookup x = some c -> c ≠ b
 bs : ∀ b o, X.base.get? b = some o -> X.s₀.heap.get? b = some o /\ X.H₀ b = none
 bsz : X.base.objs.size ≤ X.s₀.heap.objs.size
 noex : ∀ b o, X.base.get? b = some o -> b ∉ X.ex
 exfs : ∀ b ∈ X.ex, b ∉ X.fs
 funs : X.s₀.heap.FunFrames X.base X.outer
 frf : ∀ b ∈ X.fs, X.H₀ b = none
structure Inv (X : Cx) (pins : List (Addr × Obj)) (σ : List (Option V)) (H : Hp) (s : Shared) : Prop where
 ok : X.Ok
 os : s.os = X.s₀.os
 bare : AllBare s.gens
 base : Un X.fs X.ex X.H₀ H X.s₀.heap s.heap
 loc : ∃ m, s.heap.Ns X.env.locals m /\ ∀ (i : Nat) (x : Str) (v : V), X.N[i]? = some x -> σ[i]? = some (some v) -> Vis X.env.scope x -> ∃ u, RelV v u /\ Look X.env s.heap m x u
 cell : ∀ x c, X.env.cells.lookup x = some c -> ∃ v, s.heap.IsCell c v
 free : H X.env.locals = none
 freeC : ∀ x c, X.env.cells.lookup x = some c -> H c = none
 pin : ∀ p ∈ X.pn ++ pins, s.heap.get? p.1 = some p.2 /\ H p.1 = none /\ p.1 ≠ X.env.locals /\ p.1 ∉ X.fs /\ ∀ v, p.2.data ≠ .cell v
 hok : HOk X.prog X.w H s.heap
 len : σ.length = X.N.length
section
variable {X : Cx} {pins : List (Addr × Obj)} {σ : List (Option V)} {H H' : Hp} {s : Shared} {h' : Heap}
theorem Cx.Ok.nofr (ok : X.Ok) {b : Addr} {o : Obj} (e : X.base.get? b = some o) : b ∉ X.fs := fun hb => by
 have := (ok.funs.mem hb).1
 rw [e] at this; cases this
theorem Inv.bs (I : Inv X pins σ H s) : ∀ b o, X.base.get? b = some o -> s.heap.get? b = some o /\ H b = none := fun b o e =>
 ⟨I.base.keep b o (I.ok.bs b o e).1 (I.ok.bs b o e).2 (I.ok.nofr e) (I.ok.noex b o e), I.base.free b o (I.ok.bs b o e).1 (I.ok.bs b o e).2 (I.ok.noex b o e)⟩
theorem Inv.bk (I : Inv X pins σ H s) : ∀ b o, X.base.get? b = some o -> s.heap.get? b = some o := fun b o e => (I.bs b o e).1
theorem Inv.mod (I : Inv X pins σ H s) : Mod X.K X.mg X.base := I.ok.mod
theorem Inv.kIn (I : Inv X pins σ H s) : X.K.In s.heap := I.ok.mod.kin.keeps I.bk
theorem Inv.fr (I : Inv X pins σ H s) : ∃ m, Fr X.base X.env.locals s.heap m :=
 let ⟨m, hn, _⟩ := I.loc
 ⟨m, hn, I.bk, Nat.le_trans I.ok.bsz I.ok.above⟩
theorem Inv.lt (I : Inv X pins σ H s) : X.env.locals < s.heap.objs.size := let ⟨_, hn, _⟩ := I.loc; hn.lt
theorem Inv.sz (I : Inv X pins σ H s) : X.s₀.heap.objs.size ≤ s.heap.objs.size := Nat.le_trans I.ok.above (Nat.le_of_lt I.lt)
theorem Inv.nofs (I : Inv X pins σ H s) {a : Addr} (h : s.heap.objs.size ≤ a) : a ∉ X.fs := fun hb => by
 obtain ⟨_, o, ho, _⟩ := I.ok.funs.mem hb
 exact absurd (Nat.lt_of_lt_of_le (Heap.lt_size ho) (Nat.le_trans I.sz h)) (Nat.lt_irrefl _)
theorem Inv.cne (I : Inv X pins σ H s) : ∀ x c, X.env.cells.lookup x = some c -> c ≠ X.env.locals := fun x c e z => by
 obtain ⟨v, o, ho, hd⟩ := I.cell x c e
 obtain ⟨m, ⟨o', es, ep, ho', hd', _⟩, _⟩ := I.loc
 rw [z, ho'] at ho; cases ho; rw [hd'] at hd; cases hd
theorem Inv.funs (I : Inv X pins σ H s) : s.heap.FunFrames X.base X.outer := by
 have all : ∀ (l : List Env), (∀ b ∈ frs l, b ∈ X.fs) -> X.s₀.heap.FunFrames X.base l -> s.heap.FunFrames X.base l := by
  intro l
  induction l with
  | nil => intro _ _; trivial
  | cons env r ih =>
   intro hs hl
   obtain ⟨hk, ⟨L, o, hf, hn, ho, hd⟩, hr⟩ := hl
   have hL : L ∈ X.fs := hs L (by unfold frs; rw [List.filterMap_cons, hf]; exact List.mem_cons_self)
   obtain ⟨sl, e⟩ := I.base.slot L o ho (I.ok.frf L hL) hL fun z => I.ok.exfs L z hL
   exact ⟨hk, ⟨L, _, hf, hn, e, hd⟩, ih (fun b hb => hs b (by unfold frs; rw [List.filterMap_cons, hf]; exact List.mem_cons_of_mem _ hb)) hr⟩
 exact all X.outer (fun _ hb => hb) I.ok.funs
theorem Inv.stack (I : Inv X pins σ H s) : s.heap.FunFrames X.base X.stack := by
 rcases I.ok.stk with e | ⟨e, hf⟩
 ·rw [e]; exact I.funs
 ·rw [e]
  obtain ⟨m, hn, _⟩ := I.loc
  refine .cons (by rw [I.ok.kind]; decide) hf hn ?_ I.funs
  exact Heap.get?_none_of_le (Nat.le_trans I.ok.bsz I.ok.above)
theorem Inv.stkSub (I : Inv X pins σ H s) : ∀ b ∈ frs X.stack, b ∈ X.env.locals :: X.fs := fun b hb => by
 rcases I.ok.stk with e | ⟨e, hf⟩
 ·rw [e] at hb; exact List.mem_cons_of_mem _ hb
 ·rw [e] at hb
  unfold frs at hb
  rw [List.filterMap_cons, hf] at hb
  exact hb
theorem Inv.stkFree (I : Inv X pins σ H s) : ∀ b ∈ frs X.stack, H b = none := fun b hb => by
 rcases List.mem_cons.mp (I.stkSub b hb) with e | hb
 ·rw [e]; exact I.free
 ·obtain ⟨_, o, ho, _⟩ := I.ok.funs.mem hb
  exact I.base.free b o ho (I.ok.frf b hb) fun z => I.ok.exfs b z hb
theorem Inv.step {g' : Array GenState} {t' : Nat} {d' : Drawn} {ch : List Addr} (I : Inv X pins σ H s)
  (hch : ∀ b ∈ ch, (b ∈ X.ex \/ X.s₀.heap.objs.size ≤ b) /\ b ≠ X.env.locals /\ (∀ x c, X.env.cells.lookup x = some c -> c ≠ b) /\ ∀ p ∈ X.pn ++ pins, p.1 ≠ b)
  (keep : ∀ b o, b ≠ X.env.locals -> b ∉ X.fs -> b ∉ ch -> s.heap.get? b = some o -> H b = none -> h'.get? b = some o)
  (slot : ∀ b o, b ≠ X.env.locals -> b ∈ X.fs -> b ∉ ch -> s.heap.get? b = some o -> H b = none -> ∃ sl, h'.get? b = some { o with slots := sl }) (free : ∀ b o, b ∉ ch -> s.heap.get? b = some o -> H b = none -> H' b = none)
  (there : ∀ b o, b ∉ ch -> s.heap.get? b = some o -> ∃ o', h'.get? b = some o')
  (tups : ∀ b xs, H b = some (.tup xs) -> H' b = some (.tup xs)) (frzs : ∀ b o u, H b = some (.frz o u) -> H' b = some (.frz o u)) (tbls : ∀ b ps, H b = some (.tbl ps) -> ∃ more, H' b = some (.tbl (ps ++ more)))
  (ns : ∀ m, s.heap.Ns X.env.locals m -> h'.Ns X.env.locals m) (hok : HOk X.prog X.w H' h') (hg : AllBare g') :
  Inv X pins σ H' { s with heap := h', gens := g', drawn := d', toks := t' } := by
 have neL : ∀ b o, X.s₀.heap.get? b = some o -> b ≠ X.env.locals := fun b o e => Nat.ne_of_lt (Nat.lt_of_lt_of_le (Heap.lt_size e) I.ok.above)
 have neC : ∀ b o, X.s₀.heap.get? b = some o -> b ∉ X.ex -> b ∉ ch := fun b o e hx hb => by
  rcases (hch b hb).1 with z | z
  ·exact hx z
  ·exact absurd (Nat.lt_of_lt_of_le (Heap.lt_size e) z) (Nat.lt_irrefl _)
 have cellK : ∀ x c, X.env.cells.lookup x = some c -> ∀ v, s.heap.IsCell c v -> h'.IsCell c v := fun x c e v ⟨o, ho, hd⟩ => by
  have nch : c ∉ ch := fun z => (hch c z).2.2.1 x c e rfl
  by_cases hc : c ∈ X.fs
  ·obtain ⟨sl, q⟩ := slot c o (I.cne x c e) hc nch ho (I.freeC x c e)
   exact ⟨_, q, hd⟩
  ·exact ⟨o, keep c o (I.cne x c e) hc nch ho (I.freeC x c e), hd⟩
 refine ⟨I.ok, I.os, hg, ⟨fun b o e n hb hx => ?_, fun b o e n hb hx => ?_, fun b o e n hx => ?_, fun b o e hx => ?_, fun b xs e => tups b xs (I.base.tups b xs e), fun b o xs e => frzs b o xs (I.base.frzs b o xs e), fun b ps e => ?_⟩, ?_, fun x c e => ?_, ?_, fun x c e => ?_, fun p hp => ?_, hok, I.len⟩
 ·exact keep b o (neL b o e) hb (neC b o e hx) (I.base.keep b o e n hb hx) (I.base.free b o e n hx)
 ·obtain ⟨sl, e1⟩ := I.base.slot b o e n hb hx
  obtain ⟨sl', e2⟩ := slot b _ (neL b o e) hb (neC b o e hx) e1 (I.base.free b o e n hx)
  exact ⟨sl', e2⟩
 ·obtain ⟨o', e1⟩ := I.base.there b o e hx
  exact free b o' (neC b o e hx) e1 (I.base.free b o e n hx)
 ·obtain ⟨o', e1⟩ := I.base.there b o e hx
  exact there b o' (neC b o e hx) e1
 ·obtain ⟨m1, e1⟩ := I.base.tbls b ps e
  obtain ⟨m2, e2⟩ := tbls b _ e1
  exact ⟨m1 ++ m2, by rw [e2, Array.append_assoc]⟩
 ·obtain ⟨m, hn, hl⟩ := I.loc
  refine ⟨m, ns m hn, fun i x v e1 e2 e3 => ?_⟩
  obtain ⟨u, r, l⟩ := hl i x v e1 e2 e3
  refine ⟨u, r, ?_⟩
  rcases l with l | ⟨k, c, e, z⟩
  ·exact .inl l
  ·exact .inr ⟨k, c, e, cellK x c e _ z⟩
 ·obtain ⟨v, z⟩ := I.cell x c e
  exact ⟨v, cellK x c e v z⟩
 ·obtain ⟨m, ⟨o, _, _, ho, _⟩, _⟩ := I.loc
  exact free _ o (fun z => (hch _ z).2.1 rfl) ho I.free
 ·obtain ⟨v, o, ho, hd⟩ := I.cell x c e
  exact free c o (fun z => (hch c z).2.2.1 x c e rfl) ho (I.freeC x c e)
 ·obtain ⟨e, n, ne, nf, d⟩ := I.pin p hp
  have nch : p.1 ∉ ch := fun z => (hch p.1 z).2.2.2 p hp rfl
  exact ⟨keep p.1 p.2 ne nf nch e n, free p.1 p.2 nch e n, ne, nf, d⟩
theorem Inv.un {t' : Nat} (I : Inv X pins σ H s) (u : Un X.fs [] H H' s.heap h') (hok : HOk X.prog X.w H' h') : Inv X pins σ H' { s with heap := h', toks := t' } := by
 obtain ⟨m, ⟨o, es, ep, ho, r⟩, _⟩ := id I.loc
 obtain ⟨sl, hL⟩ := u.any ho I.free (by simp)
 exact I.step (g' := s.gens) (d' := s.drawn) (ch := []) (fun _ z => nomatch z) (fun b o _ hb _ e n => u.keep b o e n hb (by simp)) (fun b o _ hb _ e n => u.slot b o e n hb (by simp)) (fun b o _ e n => u.free b o e n (by simp)) (fun b o _ e => u.there b o e (by simp)) u.tups u.frzs u.tbls (fun m' hm => by
  obtain ⟨o', es', ep', ho', r'⟩ := hm
  rw [ho] at ho'; cases ho'
  exact ⟨_, es', ep', hL, r'⟩) hok I.bare
theorem Inv.call {g' : Array GenState} {t' : Nat} {d' : Drawn} {ch : List Addr} (I : Inv X pins σ H s) (u : Un (frs X.stack) ch H H' s.heap h') (hok : HOk X.prog X.w H' h') (hg : AllBare g')
  (hch : ∀ b ∈ ch, (b ∈ X.ex \/ X.s₀.heap.objs.size ≤ b) /\ b ≠ X.env.locals /\ (∀ x c, X.env.cells.lookup x = some c -> c ≠ b) /\ ∀ p ∈ X.pn ++ pins, p.1 ≠ b) :
  Inv X pins σ H' { s with heap := h', gens := g', drawn := d', toks := t' } := by
 obtain ⟨m, ⟨o, es, ep, ho, r⟩, _⟩ := id I.loc
 obtain ⟨sl, hL⟩ := u.any ho I.free fun z => (hch _ z).2.1 rfl
 exact I.step (ch := ch) hch (fun b o hL hb hc e n => u.keep b o e n (fun z => (List.mem_cons.mp (I.stkSub b z)).elim hL hb) hc) (fun b o _ _ hc e n => u.any e n hc) (fun b o hc e n => u.free b o e n hc) (fun b o hc e => u.there b o e hc) u.tups u.frzs u.tbls (fun m' hm => by
  obtain ⟨o', es', ep', ho', r'⟩ := hm
  rw [ho] at ho'; cases ho'
  exact ⟨_, es', ep', hL, r'⟩) hok hg
theorem Inv.turned {t' : Nat} {it : Addr} (I : Inv X pins σ H s) (k : ∀ b o, b ≠ it -> s.heap.get? b = some o -> h'.get? b = some o) (hn : H it = none) (hL : it ≠ X.env.locals)
  (h1 : it ∈ X.ex \/ X.s₀.heap.objs.size ≤ it) (h2 : ∀ x c, X.env.cells.lookup x = some c -> c ≠ it) (h3 : ∀ p ∈ X.pn ++ pins, p.1 ≠ it) : Inv X pins σ H { s with heap := h', toks := t' } := by
 have nit : ∀ b u, H b = some u -> b ≠ it := fun b u e z => by rw [z, hn] at e; cases e
 refine I.step (g' := s.gens) (d' := s.drawn) (ch := [it]) (fun b hb => ?_) (fun b o _ _ hc e _ => k b o (fun z => hc (by simp [z])) e) (fun b o _ _ hc e _ => ⟨o.slots, k b o (fun z => hc (by simp [z])) e⟩) (fun _ _ _ _ n => n)
  (fun b o hc e => ⟨o, k b o (fun z => hc (by simp [z])) e⟩) (fun _ _ e => e) (fun _ _ _ e => e) (fun b ps e => ⟨#[], by rw [e]; simp⟩) (fun m hm => ?_) (fun b u e => ?_) I.bare
 ·have e : b = it := by simpa using hb
  subst e
  exact ⟨h1, hL, h2, h3⟩
 ·obtain ⟨o, es, ep, ho, r⟩ := hm
  exact ⟨o, es, ep, k _ o (Ne.symm hL) ho, r⟩
 ·refine (I.hok b u e).stay (fun c v hc q => k c v ?_ q) (fun _ q => q) fun _ _ q => q
  rcases hc with z | z
  ·rw [z]; exact nit b u e
  ·exact nit c _ z
theorem Inv.tok (I : Inv X pins σ H s) (t : Nat) : Inv X pins σ H { s with toks := t } := I.un (h' := s.heap) (t' := t) Un.refl I.hok
theorem Inv.kept {t' : Nat} (I : Inv X pins σ H s) (k : ∀ b u, s.heap.get? b = some u -> h'.get? b = some u) : Inv X pins σ H { s with heap := h', toks := t' } := I.un (Un.kept k) (I.hok.kept k)
theorem Inv.laid {a : Addr} {o : HO} {t' : Nat} (I : Inv X pins σ H s) (k : ∀ b u, s.heap.get? b = some u -> h'.get? b = some u) (hp : s.heap.objs.size ≤ a) (new : z16 X.prog X.w (upd H a o) h' a o) :
  Inv X pins σ (upd H a o) { s with heap := h', toks := t' } := I.un (Un.laid k hp (I.hok.fresh hp)) (I.hok.laid k hp new)
theorem Inv.write {x e : Addr} {o : HO} {t' : Nat} (I : Inv X pins σ H s) (mu : Mut (H x)) (he : e = x \/ H e = some (.own x)) (k : ∀ b u, b ≠ e -> s.heap.get? b = some u -> h'.get? b = some u) (heo : ∃ u, h'.get? e = some u)
  (new : z16 X.prog X.w (upd H x o) h' x o) : Inv X pins σ (upd H x o) { s with heap := h', toks := t' } := I.un (Un.write mu he k heo) (I.hok.write mu he k heo new)
theorem Inv.weak {σ' : List (Option V)} (I : Inv X pins σ H s) (hl : σ'.length = σ.length) (w : ∀ (i : Nat) v, σ'[i]? = some (some v) -> σ[i]? = some (some v)) : Inv X pins σ' H s :=
 ⟨I.ok, I.os, I.bare, I.base, let ⟨m, hn, hl'⟩ := I.loc; ⟨m, hn, fun i x v e1 e2 e3 => hl' i x v e1 (w i v e2) e3⟩, I.cell, I.free, I.freeC, I.pin, I.hok, hl.trans I.len⟩
theorem Inv.pins_of {pins' : List (Addr × Obj)} (I : Inv X pins σ H s) (h : ∀ p ∈ pins', s.heap.get? p.1 = some p.2 /\ H p.1 = none /\ p.1 ≠ X.env.locals /\ p.1 ∉ X.fs /\ ∀ v, p.2.data ≠ .cell v) : Inv X pins' σ H s :=
 ⟨I.ok, I.os, I.bare, I.base, I.loc, I.cell, I.free, I.freeC, fun p hp => (List.mem_append.mp hp).elim (fun z => I.pin p (List.mem_append_left _ z)) (h p), I.hok, I.len⟩
theorem z74 {N : List Str} (hN : N.Nodup) {i j : Nat} {x : Str} (a : N[i]? = some x) (b : N[j]? = some x) : i = j := by
 obtain ⟨h1, e1⟩ := List.getElem?_eq_some_iff.mp a
 obtain ⟨h2, e2⟩ := List.getElem?_eq_some_iff.mp b
 exact (List.getElem_inj hN).mp (e1.trans e2.symm)
theorem y0S {M : Model} {A : Around} {E : Value -> Shared -> Prop} {i : Nat} {x : Str} {v : V} {u : Value} {Q : Unit -> Shared -> Prop} (I : Inv X pins σ H s) (hN : X.N.Nodup) (hi : X.N[i]? = some x) (hx : Loc X.env.scope x) (r : RelV v u)
  (h : ∀ s', Inv X pins (σ.set i (some v)) H s' -> (∃ a, Heap.SameBut a s.heap s'.heap /\ (a = X.env.locals \/ X.env.cells.lookup x = some a)) -> Q () s') (hf : X.fn x = true \/ X.env.scope.names.lookup x = some .local := by first | exact .inl rfl | exact .inr rfl | assumption) : wpAny M A (storeName X.env x u) Q E s := by
 obtain ⟨m, hn, hl⟩ := id I.loc
 have hcls : (X.env.scope.kind == .class || (X.env.scope.kind == .module && X.env.locals != X.env.globals)) = false := by rw [I.ok.kind]; rfl
 have hiσ : i < σ.length := by rw [I.len]; exact (List.getElem?_eq_some_iff.mp hi).1
 have cne := I.cne
 have tracked : ∀ {a : Addr} {h' : Heap}, (∃ o, s.heap.get? a = some o /\ H a = none) -> Heap.SameBut a s.heap h' -> HOk X.prog X.w H h' := fun {a h'} ha hs b ob e => by
  obtain ⟨_, _, hfree⟩ := ha
  refine (I.hok b ob e).stay (fun c w' hc q => (hs.2 c ?_).trans q) (fun _ q => q) fun _ _ q => q
  rintro rfl
  rcases hc with rfl | hc
  ·rw [hfree] at e; cases e
  ·rw [hfree] at hc; cases hc
 rcases hx with hk | hk
 ·refine wpAny_storeName_local hk hn (fun h' hn' hs => ?_) hcls
  obtain ⟨oL, _, _, hoL, _⟩ := id hn
  refine h _ ⟨I.ok, I.os, I.bare, ⟨fun b o e n hb hx => ?_, fun b o e n hb hx => ?_, I.base.free, fun b o e hx => ?_, I.base.tups, I.base.frzs, I.base.tbls⟩, ⟨_, hn', fun j y v' e1 e2 e3 => ?_⟩, fun y c e => ?_, I.free, I.freeC, fun p hp => ?_, tracked ⟨oL, hoL, I.free⟩ hs, by simpa using I.len⟩ ⟨_, hs, .inl rfl⟩
  ·exact (hs.2 b (Nat.ne_of_lt (Nat.lt_of_lt_of_le (Heap.lt_size e) I.ok.above))).trans (I.base.keep b o e n hb hx)
  ·obtain ⟨sl, e1⟩ := I.base.slot b o e n hb hx
   exact ⟨sl, (hs.2 b (Nat.ne_of_lt (Nat.lt_of_lt_of_le (Heap.lt_size e) I.ok.above))).trans e1⟩
  ·obtain ⟨o', e1⟩ := I.base.there b o e hx
   exact ⟨o', (hs.2 b (Nat.ne_of_lt (Nat.lt_of_lt_of_le (Heap.lt_size e) I.ok.above))).trans e1⟩
  ·by_cases hj : j = i
   ·subst hj
    rw [hi] at e1; cases e1
    rw [List.getElem?_set_self hiσ] at e2
    cases e2
    exact ⟨u, r, .inl ⟨hk, by simp⟩⟩
   ·rw [List.getElem?_set_ne (Ne.symm hj)] at e2
    obtain ⟨u', r', q⟩ := hl j y v' e1 e2 e3
    refine ⟨u', r', ?_⟩
    rcases q with ⟨k, e⟩ | ⟨k, c, e, z⟩
    ·refine .inl ⟨k, ?_⟩
     have : y ≠ x := fun e => hj (z74 hN e1 (e ▸ hi))
     simp [this, e]
    ·exact .inr ⟨k, c, e, z.sameBut hs (cne y c e)⟩
  ·obtain ⟨w', z⟩ := I.cell y c e
   exact ⟨w', z.sameBut hs (cne y c e)⟩
  ·obtain ⟨e, n, ne, nf, d⟩ := I.pin p hp
   exact ⟨(hs.2 p.1 ne).trans e, n, ne, nf, d⟩
 ·have hfn : X.fn x = true := by
   rcases hf with z | z
   ·exact z
   ·rw [z] at hk; cases hk
  obtain ⟨c, hc⟩ := I.ok.has x (.inl hk)
  obtain ⟨w', z⟩ := I.cell x c hc
  refine wpAny_storeName_cell I.ok.kind hk hc z (fun h' hc' hs => ?_)
  obtain ⟨oc, hoc, hocd⟩ := id z
  refine h { s with heap := h' } ⟨I.ok, I.os, I.bare, ⟨fun b o e n hb hx => ?_, fun b o e n hb hx => ?_, I.base.free, fun b o e hx => ?_, I.base.tups, I.base.frzs, I.base.tbls⟩, ⟨m, hn.sameBut hs (Ne.symm (cne x c hc)), fun j y v' e1 e2 e3 => ?_⟩, fun y c' e => ?_, I.free, I.freeC, fun p hp => ?_, tracked ⟨oc, hoc, I.freeC x c hc⟩ hs, by simpa using I.len⟩ ⟨c, hs, .inr hc⟩
  ·exact (hs.2 b (Nat.ne_of_lt (Nat.lt_of_lt_of_le (Heap.lt_size e) (I.ok.cab x c hfn hc)))).trans (I.base.keep b o e n hb hx)
  ·obtain ⟨sl, e1⟩ := I.base.slot b o e n hb hx
   exact ⟨sl, (hs.2 b (Nat.ne_of_lt (Nat.lt_of_lt_of_le (Heap.lt_size e) (I.ok.cab x c hfn hc)))).trans e1⟩
  ·obtain ⟨o', e1⟩ := I.base.there b o e hx
   exact ⟨o', (hs.2 b (Nat.ne_of_lt (Nat.lt_of_lt_of_le (Heap.lt_size e) (I.ok.cab x c hfn hc)))).trans e1⟩
  ·by_cases hj : j = i
   ·subst hj
    rw [hi] at e1; cases e1
    rw [List.getElem?_set_self hiσ] at e2
    cases e2
    exact ⟨u, r, .inr ⟨.inl hk, c, hc, hc'⟩⟩
   ·rw [List.getElem?_set_ne (Ne.symm hj)] at e2
    obtain ⟨u', r', q⟩ := hl j y v' e1 e2 e3
    refine ⟨u', r', ?_⟩
    rcases q with q | ⟨k, c', e, z'⟩
    ·exact .inl q
    ·refine .inr ⟨k, c', e, z'.sameBut hs ?_⟩
     rintro rfl
     exact hj (z74 hN e1 (I.ok.inj _ _ _ e hc ▸ hi))
  ·by_cases hcc : c' = c
   ·subst hcc; exact ⟨_, hc'⟩
   ·obtain ⟨w2, z2⟩ := I.cell y c' e
    exact ⟨w2, z2.sameBut hs hcc⟩
  ·obtain ⟨e, n, ne, nf, d⟩ := I.pin p hp
   refine ⟨(hs.2 p.1 ?_).trans e, n, ne, nf, d⟩
   intro q
   rw [q, hoc] at e
   have q' : oc = p.2 := Option.some.inj e
   exact d w' (by rw [<- q']; exact hocd)
theorem z72 {M : Model} {A : Around} {E : Value -> Shared -> Prop} {i : Nat} {x : Str} {v : V} {u : Value} {Q : Unit -> Shared -> Prop} (I : Inv X pins σ H s) (hN : X.N.Nodup) (hi : X.N[i]? = some x) (hx : Loc X.env.scope x) (r : RelV v u)
  (h : ∀ s', Inv X pins (σ.set i (some v)) H s' -> Q () s') (hf : X.fn x = true \/ X.env.scope.names.lookup x = some .local := by first | exact .inl rfl | exact .inr rfl | assumption) : wpAny M A (storeName X.env x u) Q E s :=
 y0S I hN hi hx r (fun s' I' _ => h s' I') hf
theorem Inv.call' {s' : Shared} {ch : List Addr} (I : Inv X pins σ H s) (ho : s'.os = s.os) (u : Un (frs X.stack) ch H H' s.heap s'.heap) (hok : HOk X.prog X.w H' s'.heap) (hg : AllBare s'.gens)
  (hch : ∀ b ∈ ch, (b ∈ X.ex \/ X.s₀.heap.objs.size ≤ b) /\ b ≠ X.env.locals /\ (∀ x c, X.env.cells.lookup x = some c -> c ≠ b) /\ ∀ p ∈ X.pn ++ pins, p.1 ≠ b) : Inv X pins σ H' s' := by
 obtain ⟨h', g', d', t', o'⟩ := s'
 have e : o' = s.os := ho
 subst e
 exact I.call (g' := g') (t' := t') (d' := d') u hok hg hch
end
abbrev XK := Value -> Option Addr -> Hp -> Prop
abbrev St := List (Option V)
abbrev VK := V -> Hp -> Prop
abbrev TE := St -> Hp -> VK -> Prop
abbrev TT := St -> Hp -> (Bool -> Hp -> Prop) -> Prop
abbrev TA := St -> Hp -> (List V -> Hp -> Prop) -> Prop
structure Ends where
 nx : St -> Hp -> Prop
 rt : VK
 bk : St -> Hp -> Prop := fun _ _ => False
 ct : St -> Hp -> Prop := fun _ _ => False
abbrev TS := Ends -> St -> Hp -> Prop
def EP (X : Cx) (pins : List (Addr × Obj)) (σ : St) (Q : VK) (u : Value) (s' : Shared) : Prop := ∃ v H', Inv X pins σ H' s' /\ RelV v u /\ Q v H'
def TP (X : Cx) (pins : List (Addr × Obj)) (σ : St) (Q : Bool -> Hp -> Prop) (b : Bool) (s' : Shared) : Prop := ∃ H', Inv X pins σ H' s' /\ Q b H'
def AP (X : Cx) (pins : List (Addr × Obj)) (σ : St) (Q : List V -> Hp -> Prop) (us : List Value) (s' : Shared) : Prop := ∃ vs H', Inv X pins σ H' s' /\ Vals vs us /\ Q vs H'
def SP (X : Cx) (pins : List (Addr × Obj)) (D : Ends) (f : Flow) (s' : Shared) : Prop :=
 match f with
 | .next => ∃ σ' H', Inv X pins σ' H' s' /\ D.nx σ' H'
 | .brk => ∃ σ' H', Inv X pins σ' H' s' /\ D.bk σ' H'
 | .cont => ∃ σ' H', Inv X pins σ' H' s' /\ D.ct σ' H'
 | .ret u => ∃ v σ' H', Inv X pins σ' H' s' /\ RelV v u /\ D.rt v H'
def PE (X : Cx) (e : Expr) (t : TE) : Prop :=
 ∀ (pins : List (Addr × Obj)) (s : Shared) (σ : St) (H : Hp) (Q : VK), Inv X pins σ H s -> t σ H Q -> wpAny (model X.prog X.w) X.A (eval e X.env) (EP X pins σ Q) X.xe s
def PT (X : Cx) (e : Expr) (t : TT) : Prop :=
 ∀ (pins : List (Addr × Obj)) (s : Shared) (σ : St) (H : Hp) (Q : Bool -> Hp -> Prop), Inv X pins σ H s -> t σ H Q -> wpAny (model X.prog X.w) X.A (isTrue e X.env (eval e X.env)) (TP X pins σ Q) X.xe s
def PW (X : Cx) (e : Expr) (t : TT) : Prop :=
 ∀ (whole : Sem Value) (pins : List (Addr × Obj)) (s : Shared) (σ : St) (H : Hp) (Q : Bool -> Hp -> Prop), Inv X pins σ H s -> t σ H Q -> wpAny (model X.prog X.w) X.A (isTrue e X.env whole) (TP X pins σ Q) X.xe s
theorem PW.pt {X : Cx} {e : Expr} {t : TT} (h : PW X e t) : PT X e t := h _
def PA (X : Cx) (es : List Expr) (t : TA) : Prop :=
 ∀ (pos : Pos) (pins : List (Addr × Obj)) (s : Shared) (σ : St) (H : Hp) (Q : List V -> Hp -> Prop), Inv X pins σ H s -> t σ H Q -> wpAny (model X.prog X.w) X.A (spliced (backTo pos (starEach es X.env))) (AP X pins σ Q) X.xe s
def PS (X : Cx) (st : Stmt) (t : TS) : Prop :=
 ∀ (pins : List (Addr × Obj)) (s : Shared) (σ : St) (H : Hp) (D : Ends), Inv X pins σ H s -> t D σ H -> wpAny (model X.prog X.w) X.A (exec st X.env) (SP X pins D) X.xe s
def PSs (X : Cx) (st : List Stmt) (t : TS) : Prop :=
 ∀ (pins : List (Addr × Obj)) (s : Shared) (σ : St) (H : Hp) (D : Ends), Inv X pins σ H s -> t D σ H -> wpAny (model X.prog X.w) X.A (execs st X.env) (SP X pins D) X.xe s
theorem thn {α : Type} {t : Sem α} {Q Q' : α -> Shared -> Prop} {M : Model} {A : Around} {E : Value -> Shared -> Prop} {s : Shared} (h : wpAny M A t Q E s) (hQ : ∀ a s, Q a s -> Q' a s) : wpAny M A t Q' E s := wpAny_mono h hQ fun _ _ x => x
section
variable {X : Cx}
def tVar (i : Nat) : TE := fun σ H Q => ∃ v, σ[i]? = some (some v) /\ Q v H
def tC (v : V) : TE := fun _ H Q => Q v H
theorem y42 {i : Nat} {x : Str} {pos : Pos} (hN : X.N[i]? = some x) (hv : Vis X.env.scope x) (hd : (x == ("__debug__" : Str)) = false := by decide) (hcd : (x == ("__classdict__" : Str)) = false := by decide) : PE X (.Name x pos) (tVar i) := by
 intro pins s σ H Q I h
 obtain ⟨v, e, h⟩ := h
 obtain ⟨m, hn, hl⟩ := I.loc
 obtain ⟨u, r, l⟩ := hl i x v hN e hv
 have fin : EP X pins σ Q u s := ⟨v, H, I, r, h⟩
 rcases l with ⟨hk, hm⟩ | ⟨hk, c, hc, hcell⟩
 ·exact wpAny_Name (wpAny_loadName_local I.ok.kind hk hn hm fin) hd
 ·rcases hk with hk | hk
  ·exact wpAny_Name (wpAny_loadName_cell I.ok.kind hk hc hcell fin) hd
  ·exact wpAny_Name (wpAny_loadName_free I.ok.kind hk hc hcell fin hcd) hd
theorem z05 {i j pos} : PE X (.Constant (.int i) j pos) (tC (.int i)) := fun _ _ _ H _ I h => wpAny_Constant_int ⟨.int i, H, I.tok _, ⟨_, rfl⟩, h⟩
theorem z3J {b j pos} : PE X (.Constant (.bool b) j pos) (tC (.bl b)) := fun _ _ _ H _ I h => Constant_bool ⟨.bl b, H, I, rfl, h⟩
theorem y4h {j pos} : PE X (.Constant .none j pos) (tC .non) := fun _ _ _ H _ I h => Constant_none ⟨.non, H, I, rfl, h⟩
theorem z0r {x j pos} : PE X (.Constant (.str x) j pos) (tC (.str x)) := fun _ _ _ H _ I h => Calls.Constant_str ⟨.str x, H, I.tok _, ⟨_, rfl⟩, h⟩
def Gl (X : Cx) (x : Str) : Prop := X.env.kindOf x = some .globalImplicit
theorem z3Y {E : Value -> Shared -> Prop} {pins : List (Addr × Obj)} {s : Shared} {σ : St} {H : Hp} {x : Str} {u : Value} {pos : Pos} {Q : Value -> Shared -> Prop} (I : Inv X pins σ H s) (hg : Gl X x) (hm : X.mg x = some u) (h : Q u s)
  (hd : (x == ("__debug__" : Str)) = false := by decide) : wpAny (model X.prog X.w) X.A (eval (.Name x pos) X.env) Q E s :=
 Calls.Name_function_global I.ok.kind hg (Calls.loadGlobal_global (by rw [I.ok.glob]; exact I.mod.glob.keeps I.bk) hm h) hd
theorem z53 {E : Value -> Shared -> Prop} {pins : List (Addr × Obj)} {s : Shared} {σ : St} {H : Hp} {x : Str} {u : Value} {pos : Pos} {Q : Value -> Shared -> Prop} (I : Inv X pins σ H s) (hg : Gl X x) (hm : X.mg x = none) (hv : bootBuiltins x = some u) (h : Q u s)
  (hn : x ≠ "__name__" := by decide) (hd : (x == ("__debug__" : Str)) = false := by decide) : wpAny (model X.prog X.w) X.A (eval (.Name x pos) X.env) Q E s := by
 obtain ⟨mb, h1, h2⟩ := I.mod.blt
 exact Calls.Name_function_global I.ok.kind hg (Calls.loadGlobal_builtin (by rw [I.ok.glob]; exact I.mod.glob.keeps I.bk) hm (by rw [I.ok.blt]; exact h1.keeps I.bk) ((h2 x hn).trans hv) h) hd
theorem y0H {x : Str} {v : V} {u : Value} {pos : Pos} (hg : Gl X x) (hm : X.mg x = some u) (r : RelV v u) (hd : (x == ("__debug__" : Str)) = false := by decide) : PE X (.Name x pos) (tC v) :=
 fun _ _ _ H _ I h => z3Y I hg hm ⟨v, H, I, r, h⟩ hd
theorem z34 {x : Str} {v : V} {u : Value} {pos : Pos} (hg : Gl X x) (hm : X.mg x = none) (hv : bootBuiltins x = some u) (r : RelV v u) (hn : x ≠ "__name__" := by decide) (hd : (x == ("__debug__" : Str)) = false := by decide) : PE X (.Name x pos) (tC v) :=
 fun _ _ _ H _ I h => z53 I hg hm hv ⟨v, H, I, r, h⟩ hn hd
variable {a b : Expr} {ta tb : TE} {pos : Pos}
def PC (X : Cx) (op : CmpOp) (a b : Expr) (t : TE) : Prop :=
 ∀ (pins : List (Addr × Obj)) (s : Shared) (σ : St) (H : Hp) (Q : VK), Inv X pins σ H s -> t σ H Q ->
  wpAny (model X.prog X.w) X.A (eval a X.env) (fun v s₁ => wpAny (model X.prog X.w) X.A (eval b X.env) (fun u s₂ => wpAny (model X.prog X.w) X.A (compareOp op v u) (EP X pins σ Q) X.xe s₂) X.xe s₁) X.xe s
theorem z9i (b : Expr) {op : CmpOp} (h : op ≠ .In) (h2 : op ≠ .NotIn) : behindInMarks op b = false := by
 have e1 : (op == CmpOp.In) = false := by cases op <;> first | rfl | exact absurd rfl h
 have e2 : (op == CmpOp.NotIn) = false := by cases op <;> first | rfl | exact absurd rfl h2
 cases b <;> simp [behindInMarks, e1, e2]
def tIsN (ta : TE) : TE := fun σ H Q => ta σ H fun x H1 => Q (.bl (decide (x = .non))) H1
theorem RelV.none_iff {x : V} {v : Value} (r : RelV x v) : (v == Value.none) = decide (x = .non) := by
 cases x with
 | non => cases r; rfl
 | bl _ => cases r; rfl
 | int _ => obtain ⟨t, rfl⟩ := r; rfl
 | str _ => obtain ⟨t, rfl⟩ := r; rfl
 | byt _ => obtain ⟨t, rfl⟩ := r; rfl
 | flt _ => obtain ⟨t, rfl⟩ := r; rfl
 | ref _ => cases r; rfl
 | ty _ => cases r; rfl
theorem y1r {j pos'} (ha : PE X a ta) : PC X .Is a (.Constant .none j pos') (tIsN ta) := by
 intro pins s σ H Q I h
 refine thn (ha pins s σ H _ I h) fun v s1 hz => ?_
 obtain ⟨x, H1, I1, r1, q1⟩ := hz
 exact Constant_none (is_none_gen ⟨.bl _, H1, I1, by rw [r1.none_iff]; rfl, q1⟩)
def tB (t : TE) : TT := fun σ H Q => t σ H fun x H1 => ∃ c, x = .bl c /\ Q c H1
theorem y2L {op : CmpOp} {t : TE} (h : PC X op a b t) (h1 : behindInMarks op b = false := by first | exact z9i _ (by decide) (by decide) | rfl) : PE X (.Compare a [op] [b] pos) t := fun pins s σ H Q I hw => wpAny_Compare1 (h pins s σ H Q I hw) h1
theorem y1a {op : CmpOp} {t : TE} (h : PC X op a b t) (h1 : behindInMarks op b = false := by first | exact z9i _ (by decide) (by decide) | rfl) : PT X (.Compare a [op] [b] pos) (tB t) := by
 intro pins s σ H Q I hw
 refine wpAny_isTrue_Compare1 (thn (h pins s σ H _ I hw) fun v s1 h1 => thn h1 fun u s2 h2 => thn h2 fun c s3 hz => ?_) h1
 obtain ⟨x, H1, I1, r1, q1⟩ := hz
 obtain ⟨d, rfl, q⟩ := q1
 cases r1
 exact wpAny_truthy_bool ⟨H1, I1, q⟩
theorem z47 {e : Expr} {t : TE} (h : PE X e t) (he : ∀ whole, isTrue e X.env whole = (do let v <- whole; standAt e.pos; holding [v] (truthy v)) := by intro _; rfl) : PT X e (tB t) := by
 intro pins s σ H Q I hw
 refine isTrue_plain (thn (h pins s σ H _ I hw) fun v s1 hz => ?_) (he _)
 obtain ⟨x, H1, I1, r1, q1⟩ := hz
 obtain ⟨d, rfl, q⟩ := q1
 cases r1
 exact wpAny_truthy_bool ⟨H1, I1, q⟩
variable {tA tB' : TT} {rest : List Expr}
def tAnd (t u : TT) : TT := fun σ H Q => t σ H fun c H1 => if c = true then u σ H1 Q else Q false H1
def tOr (t u : TT) : TT := fun σ H Q => t σ H fun c H1 => if c = true then Q true H1 else u σ H1 Q
def tNot (t : TT) : TT := fun σ H Q => t σ H fun c H1 => Q (!c) H1
theorem z7b (ha : PT X a tA) : PW X (.BoolOp .And [a] pos) tA := by
 intro wh pins s σ H Q I h
 refine isTrue_and (thn (ha pins s σ H Q I h) fun c s1 e => ?_)
 cases c with
 | true => exact isTrue_and_nil e
 | false => exact e
theorem z1F (ha : PT X a tA) : PW X (.BoolOp .Or [a] pos) tA := by
 intro wh pins s σ H Q I h
 refine isTrue_or (thn (ha pins s σ H Q I h) fun c s1 e => ?_)
 cases c with
 | false => exact isTrue_or_nil e
 | true => exact e
theorem z6G (ha : PT X a tA) (hb : PW X (.BoolOp .And (b :: rest) pos) tB') : PW X (.BoolOp .And (a :: b :: rest) pos) (tAnd tA tB') := by
 intro wh pins s σ H Q I h
 refine isTrue_and (thn (ha pins s σ H _ I h) fun c s1 hz => ?_)
 obtain ⟨H1, I1, q1⟩ := hz
 cases c with
 | true => exact hb wh pins s1 σ H1 Q I1 q1
 | false => exact ⟨H1, I1, q1⟩
theorem z2L (ha : PT X a tA) (hb : PW X (.BoolOp .Or (b :: rest) pos) tB') : PW X (.BoolOp .Or (a :: b :: rest) pos) (tOr tA tB') := by
 intro wh pins s σ H Q I h
 refine isTrue_or (thn (ha pins s σ H _ I h) fun c s1 hz => ?_)
 obtain ⟨H1, I1, q1⟩ := hz
 cases c with
 | true => exact ⟨H1, I1, q1⟩
 | false => exact hb wh pins s1 σ H1 Q I1 q1
theorem z4X (ha : PT X a tA) : PT X (.UnaryOp .Not a pos) (tNot tA) := by
 intro pins s σ H Q I h
 exact isTrue_not (ha pins s σ H (fun c H1 => Q (!c) H1) I h)
def tIf (t : TT) (ta tb : TE) : TE := fun σ H Q => t σ H fun c H1 => if c = true then ta σ H1 Q else tb σ H1 Q
theorem z6U {c : Expr} (hc : PT X c tA) (ha : PE X a ta) (hb : PE X b tb) : PE X (.IfExp c a b pos) (tIf tA ta tb) := by
 intro pins s σ H Q I h
 refine wpAny_IfExp (thn (hc pins s σ H _ I h) fun d s1 hz => ?_)
 obtain ⟨H1, I1, q1⟩ := hz
 cases d with
 | true => exact ha pins s1 σ H1 Q I1 q1
 | false => exact hb pins s1 σ H1 Q I1 q1
end
def SqL (K : PySem.W.Frag) (H : Hp) (a : Addr) (xs : List V) : Prop :=
 Rd H a (.lst xs) \/
  ∃ (o : Obj) (its : Array Value) (n : Nat), K.lookup a = some o /\ o.cls = .type "list" /\ o.dict = none /\ o.data = .seq its n /\ its.size ≤ sizeLine /\ Vals xs its.toList
def SqT (K : PySem.W.Frag) (H : Hp) (a : Addr) (xs : List V) : Prop :=
 Rd H a (.tup xs) \/
  ∃ (o : Obj) (its : Array Value) (n : Nat), K.lookup a = some o /\ o.cls = .type "tuple" /\ o.data = .seq its n /\ its.size ≤ sizeLine /\ Vals xs its.toList
def absV : Value -> Option V
 | .none => some .non
 | .bool b => some (.bl b)
 | .int i _ => some (.int i)
 | .str x _ => some (.str x)
 | .bytes b _ => some (.byt b)
 | .float b _ => some (.flt b)
 | .ref a => some (.ref a)
 | .type n => some (.ty n)
 | _ => none
theorem RelV.abs {x : V} {u : Value} (r : RelV x u) : absV u = some x := by
 cases x with
 | non => cases r; rfl
 | bl _ => cases r; rfl
 | int _ => obtain ⟨t, rfl⟩ := r; rfl
 | str _ => obtain ⟨t, rfl⟩ := r; rfl
 | byt _ => obtain ⟨t, rfl⟩ := r; rfl
 | flt _ => obtain ⟨t, rfl⟩ := r; rfl
 | ref _ => cases r; rfl
 | ty _ => cases r; rfl
theorem RelV.inj {x y : V} {u : Value} (r : RelV x u) (q : RelV y u) : x = y := Option.some.inj (r.abs.symm.trans q.abs)
theorem Vals.inj : ∀ {xs ys : List V} {us : List Value}, Vals xs us -> Vals ys us -> xs = ys
 | _, _, _, .nil, .nil => rfl
 | _, _, _, .cons r t, .cons r' t' => by rw [r.inj r', Vals.inj t t']
section
variable {X : Cx} {pins : List (Addr × Obj)} {σ : St} {H : Hp} {s : Shared} {a : Addr} {xs ys : List V}
theorem SqL.of {K : PySem.W.Frag} (h : H a = some (.lst xs)) : SqL K H a xs := .inl (.inl h)
theorem SqT.of {K : PySem.W.Frag} (h : H a = some (.tup xs)) : SqT K H a xs := .inl (.inl h)
theorem Inv.list (I : Inv X pins σ H s) (h : SqL X.K H a xs) : ∃ its : List Value, Vals xs its /\ PlainL s.heap a its.toArray /\ xs.length ≤ sizeLine := by
 rcases h with h | ⟨o, its, n, hk, hc, hd, hs, hz, r⟩
 ·obtain ⟨z, its, n, r, e⟩ := h.ok I.hok
  exact ⟨its, r, ⟨_, n, e, rfl, rfl, rfl⟩, z⟩
 ·refine ⟨its.toList, r, ⟨o, n, I.kIn a o hk, hc, hd, by simpa using hs⟩, ?_⟩
  have e := r.length
  simp only [Array.length_toList] at e
  omega
theorem Inv.tuple (I : Inv X pins σ H s) (h : SqT X.K H a xs) : ∃ its : List Value, Vals xs its /\ IsTup s.heap a its.toArray /\ xs.length ≤ sizeLine := by
 rcases h with h | ⟨o, its, n, hk, hc, hs, hz, r⟩
 ·obtain ⟨z, its, r, p⟩ := h.ok I.hok
  exact ⟨its, r, PlT.tup p, z⟩
 ·refine ⟨its.toList, r, ⟨o, I.kIn a o hk, hc, n, by simpa using hs⟩, ?_⟩
  have e := r.length
  simp only [Array.length_toList] at e
  omega
theorem Inv.list_inj (I : Inv X pins σ H s) (h : SqL X.K H a xs) (h' : SqL X.K H a ys) : xs = ys := by
 obtain ⟨its, r, ⟨o, n, e, _, _, d⟩, _⟩ := I.list h
 obtain ⟨its', r', ⟨o', n', e', _, _, d'⟩, _⟩ := I.list h'
 rw [e] at e'; cases e'
 rw [d] at d'
 injection d' with d1 _
 have : its = its' := by simpa using congrArg Array.toList d1
 subst this
 exact r.inj r'
theorem Inv.tuple_inj (I : Inv X pins σ H s) (h : SqT X.K H a xs) (h' : SqT X.K H a ys) : xs = ys := by
 obtain ⟨its, r, ⟨o, e, _, n, d⟩, _⟩ := I.tuple h
 obtain ⟨its', r', ⟨o', e', _, n', d'⟩, _⟩ := I.tuple h'
 rw [e] at e'; cases e'
 rw [d] at d'
 injection d' with d1 _
 have : its = its' := by simpa using congrArg Array.toList d1
 subst this
 exact r.inj r'
end
abbrev Cx.wish (X : Cx) (E : Value -> Shared -> Prop) : Cx := { X with xe := E }
abbrev Cx.nox (X : Cx) : Cx := X.wish fun _ _ => False
theorem Cx.Ok.wish {X : Cx} (ok : X.Ok) (E : Value -> Shared -> Prop) : (X.wish E).Ok :=
 ⟨ok.mod, ok.kind, ok.glob, ok.blt, ok.above, ok.inj, ok.has, ok.cab, ok.hd, ok.frames, ok.stk, ok.exf, ok.bs, ok.bsz, ok.noex, ok.exfs, ok.funs, ok.frf⟩
theorem Cx.Ok.unwish {X : Cx} {E : Value -> Shared -> Prop} (ok : (X.wish E).Ok) : X.Ok :=
 ⟨ok.mod, ok.kind, ok.glob, ok.blt, ok.above, ok.inj, ok.has, ok.cab, ok.hd, ok.frames, ok.stk, ok.exf, ok.bs, ok.bsz, ok.noex, ok.exfs, ok.funs, ok.frf⟩
section
variable {X : Cx} {pins : List (Addr × Obj)} {σ : St} {H : Hp} {s : Shared} {E : Value -> Shared -> Prop}
theorem Inv.wish (I : Inv X pins σ H s) (E : Value -> Shared -> Prop) : Inv (X.wish E) pins σ H s := ⟨I.ok.wish E, I.os, I.bare, I.base, I.loc, I.cell, I.free, I.freeC, I.pin, I.hok, I.len⟩
theorem Inv.unwish (I : Inv (X.wish E) pins σ H s) : Inv X pins σ H s := ⟨I.ok.unwish, I.os, I.bare, I.base, I.loc, I.cell, I.free, I.freeC, I.pin, I.hok, I.len⟩
theorem SP.unwish {D : Ends} {f : Flow} {s' : Shared} (h : SP (X.wish E) pins D f s') : SP X pins D f s' := by
 cases f with
 | next => obtain ⟨σ', H', I, q⟩ := h; exact ⟨σ', H', I.unwish, q⟩
 | brk => obtain ⟨σ', H', I, q⟩ := h; exact ⟨σ', H', I.unwish, q⟩
 | cont => obtain ⟨σ', H', I, q⟩ := h; exact ⟨σ', H', I.unwish, q⟩
 | ret u => obtain ⟨v, σ', H', I, r, q⟩ := h; exact ⟨v, σ', H', I.unwish, r, q⟩
theorem PSs.nox {st : List Stmt} {t : TS} (h : PSs X.nox st t) : PSs X st t := fun pins s σ H D I hw =>
 wpAny_mono (h pins s σ H D (I.wish _) hw) (fun _ _ q => q.unwish) fun _ _ z => False.elim z
end
section
variable {X : Cx} {st : Stmt} {rest : List Stmt} {t u : TS} {e : Expr} {te : TE} {pos : Pos}
def tNext : TS := fun D σ H => D.nx σ H
def tSeq (t u : TS) : TS := fun D σ H => t { D with nx := u D } σ H
theorem z0h : PSs X [] tNext := fun _ _ σ H _ I h => wpAny_execs_nil ⟨σ, H, I, h⟩
theorem z04 (h1 : PS X st t) (h2 : PSs X rest u) : PSs X (st :: rest) (tSeq t u) := by
 intro pins s σ H D I h
 refine wpAny_execs_cons (thn (h1 pins s σ H { D with nx := u D } I h) fun f s1 q => ?_)
 cases f with
 | next =>
  obtain ⟨σ', H', I', q⟩ := q
  exact h2 pins s1 σ' H' D I' q
 | ret v => exact q
 | brk => exact q
 | cont => exact q
theorem z06 (h1 : PS X st t) : PSs X [st] t := by
 intro pins s σ H D I h
 refine wpAny_execs_cons (thn (h1 pins s σ H D I h) fun f s1 q => ?_)
 cases f with
 | next => exact wpAny_execs_nil q
 | ret v => exact q
 | brk => exact q
 | cont => exact q
theorem Inv.quiet {pins : List (Addr × Obj)} {σ : St} {H : Hp} {s : Shared} (I : Inv X pins σ H s) : interactive X.env = false := by simp [interactive, I.ok.kind]
def tDrop (te : TE) : TS := fun D σ H => te σ H fun _ H1 => D.nx σ H1
theorem z0p (he : PE X e te) (hs : swapsWith e none pos.line X.env = pure false := by rfl) : PS X (.Expr e pos) (tDrop te) := by
 intro pins s σ H D I h
 exact wpAny_Expr_any (thn (he pins s σ H _ I h) fun v s1 ⟨x, H1, I1, r1, q1⟩ => ⟨σ, H1, I1, q1⟩) I.quiet hs
def tRet (te : TE) : TS := fun D σ H => te σ H D.rt
theorem z0o (he : PE X e te) : PS X (.Return (some e) pos) (tRet te) := by
 intro pins s σ H D I h
 exact wpAny_Return_some (thn (he pins s σ H _ I h) fun v s1 ⟨x, H1, I1, r1, q1⟩ => ⟨x, σ, H1, I1, r1, q1⟩)
def tIfS (c : TT) (t u : TS) : TS := fun D σ H => c σ H fun b H1 => if b = true then t D σ H1 else u D σ H1
theorem z0G {c : Expr} {a b : List Stmt} {tc : TT} (hc : PT X c tc) (ha : PSs X a t) (hb : PSs X b u) : PS X (.If c a b pos) (tIfS tc t u) := by
 intro pins s σ H D I h
 refine wpAny_If (thn (hc pins s σ H _ I h) fun d s1 hz => ?_)
 obtain ⟨H1, I1, q1⟩ := hz
 cases d with
 | true => exact ha pins s1 σ H1 D I1 q1
 | false => exact hb pins s1 σ H1 D I1 q1
def y44 : TS := fun _ _ _ => False
theorem z1b : PS X st y44 := fun _ _ _ _ _ _ h => h.elim
end
abbrev TG := V -> St -> Hp -> (St -> Hp -> Prop) -> Prop
abbrev TGs := List V -> St -> Hp -> (St -> Hp -> Prop) -> Prop
def PG (X : Cx) (target : Expr) (t : TG) : Prop :=
 ∀ (pins : List (Addr × Obj)) (s : Shared) (σ : St) (H : Hp) (v : V) (u : Value) (Q : St -> Hp -> Prop), Inv X pins σ H s -> RelV v u -> t v σ H Q ->
  wpAny (model X.prog X.w) X.A (assign target X.env u) (fun _ s' => ∃ σ' H', Inv X pins σ' H' s' /\ Q σ' H') X.xe s
def PGs (X : Cx) (ts : List Expr) (t : TGs) : Prop :=
 ∀ (pins : List (Addr × Obj)) (s : Shared) (σ : St) (H : Hp) (vs : List V) (us : List Value) (Q : St -> Hp -> Prop), Inv X pins σ H s -> Vals vs us -> t vs σ H Q ->
  wpAny (model X.prog X.w) X.A (assignInOrder ((assignEach ts X.env).map (·.2)) us) (fun _ s' => ∃ σ' H', Inv X pins σ' H' s' /\ Q σ' H') X.xe s
abbrev TSet := V -> V -> V -> Hp -> (Hp -> Prop) -> Prop
def PSet (X : Cx) (t : TSet) : Prop :=
 ∀ (pins : List (Addr × Obj)) (s : Shared) (σ : St) (H : Hp) (o i v : V) (ov iv u : Value) (Q : Hp -> Prop), Inv X pins σ H s -> RelV o ov -> RelV i iv -> RelV v u -> t o i v H Q ->
  wpAny (model X.prog X.w) X.A (setItem ov iv u) (fun _ s' => ∃ H', Inv X pins σ H' s' /\ Q H') X.xe s
section
variable {X : Cx} {pos : Pos}
def y03 (i : Nat) : TG := fun v σ H Q => Q (σ.set i (some v)) H
theorem z0u {i : Nat} {x : Str} (hN : X.N.Nodup) (hi : X.N[i]? = some x) (hx : Loc X.env.scope x) (hf : X.fn x = true \/ X.env.scope.names.lookup x = some .local := by first | exact .inl rfl | exact .inr rfl | assumption) : PG X (.Name x pos) (y03 i) := by
 intro pins s σ H v u Q I r h
 exact wpAny_assign_Name (z72 I hN hi hx r (fun s' I' => ⟨_, H, I', h⟩) hf)
def gNil : TGs := fun vs σ H Q => vs = [] /\ Q σ H
def y3N (t : TG) (u : TGs) : TGs := fun vs σ H Q => ∃ v r, vs = v :: r /\ t v σ H fun σ' H' => u r σ' H' Q
theorem z5P : PGs X [] gNil := by
 intro pins s σ H vs us Q I r h
 obtain ⟨e, h⟩ := h
 subst e
 cases r
 exact assignInOrder_nil ⟨σ, H, I, h⟩
theorem z1Q {e : Expr} {es : List Expr} {t : TG} {u : TGs} (h1 : PG X e t) (h2 : PGs X es u)
  (hs : (assignEach (e :: es) X.env).map (·.2) = assign e X.env :: (assignEach es X.env).map (·.2) := by rfl) : PGs X (e :: es) (y3N t u) := by
 intro pins s σ H vs us Q I r h
 obtain ⟨v, vr, e1, h⟩ := h
 subst e1
 cases r with
 | cons r rr =>
  rw [hs]
  refine assignInOrder_cons (thn (h1 pins s σ H _ _ _ I r h) fun _ s1 hz => ?_)
  obtain ⟨σ1, H1, I1, q1⟩ := hz
  exact h2 pins s1 σ1 H1 _ _ Q I1 rr q1
def gTup (K : PySem.W.Frag) (n : Nat) (t : TGs) : TG := fun v σ H Q => ∃ a xs, v = .ref a /\ SqT K H a xs /\ xs.length = n /\ t xs σ H Q
theorem y49 {es : List Expr} {k : Nat} {t : TGs} {n : Nat} (hc : X.calm = true) (h : PGs X es t)
  (hn : (assignEach es X.env).length = n := by rfl) (hst : (assignEach es X.env).findIdx? (·.1) = none := by rfl) : PG X (.Tuple es k pos) (gTup X.K n t) := by
 intro pins s σ H v u Q I r hw
 obtain ⟨a, xs, e1, hq, hl, hw⟩ := hw
 subst e1
 cases r
 obtain ⟨its, rv, ht, hz⟩ := I.tuple hq
 refine assign_Tuple_tuple (I.ok.hd hc) ht (by simp [hn, <- hl, rv.length]) hst fun h' hx => ?_
 have I1 : Inv X pins σ H { s with heap := h' } := I.kept (t' := s.toks) fun b o e => hx b o (Nat.ne_of_lt (Heap.lt_size e)) e
 exact h pins _ σ H xs _ Q I1 (by simpa using rv) hw
def gSub (to ti : TE) (t : TSet) : TG := fun v σ H Q => to σ H fun o H1 => ti σ H1 fun i H2 => t o i v H2 fun H3 => Q σ H3
theorem y4u {o i : Expr} {to ti : TE} {t : TSet} (ho : PE X o to) (hi : PE X i ti) (hs : PSet X t)
  (ha : ∀ v, assign (.Subscript o i pos) X.env v = (do
   let ov <- holding [v] (eval o X.env)
   let iv <- holding [v, ov] (eval i X.env)
   standAt pos
   holding [v, ov, iv] (setItem ov iv v)
   release [v, ov, iv] []) := by intro _; rfl) : PG X (.Subscript o i pos) (gSub to ti t) := by
 intro pins s σ H v u Q I r h
 rw [ha]
 refine wpAny_bind (wpAny_holding (thn (ho pins s σ H _ I h) fun ov s1 hz => ?_))
 obtain ⟨x, H1, I1, r1, q1⟩ := hz
 refine wpAny_bind (wpAny_holding (thn (hi pins s1 σ H1 _ I1 q1) fun iv s2 hz => ?_))
 obtain ⟨y, H2, I2, r2, q2⟩ := hz
 refine wpAny_bind (wpAny_standAt (wpAny_bind (wpAny_holding (thn (hs pins s2 σ H2 x y v ov iv u _ I2 r1 r2 r q2) fun _ s3 hz => ?_))))
 obtain ⟨H3, I3, q3⟩ := hz
 exact wpAny_release ⟨σ, H3, I3, q3⟩
def tAsg (te : TE) (g : TG) : TS := fun D σ H => te σ H fun x H1 => g x σ H1 D.nx
theorem y4w {tg e : Expr} {te : TE} {g : TG} (he : PE X e te) (hg : PG X tg g) (hs : swapsWithSole [tg] e pos.line X.env = pure false := by rfl) (hw : swappedStores [tg] e X.env = pure none := by rfl)
  (h1 : (assignEach [tg] X.env).map (·.2) = [assign tg X.env] := by rfl) : PS X (.Assign [tg] e pos) (tAsg te g) := by
 intro pins s σ H D I h
 refine wpAny_Assign_stores (thn (he pins s σ H _ I h) fun v s1 hz => ?_) hs hw
 obtain ⟨x, H1, I1, r1, q1⟩ := hz
 rw [h1]
 exact thn (hg pins s1 σ H1 x v _ I1 r1 q1) fun _ s2 q => q
theorem z0n {i : Nat} {x : Str} {e : Expr} {te : TE} {pos' : Pos} (hN : X.N.Nodup) (hi : X.N[i]? = some x) (hx : Loc X.env.scope x) (he : PE X e te) (hs : swapsWith e (some (.Name x pos')) pos.line X.env = pure false := by rfl) (hf : X.fn x = true \/ X.env.scope.names.lookup x = some .local := by first | exact .inl rfl | exact .inr rfl | assumption) :
  PS X (.Assign [.Name x pos'] e pos) (tAsg te (y03 i)) := by
 intro pins s σ H D I h
 refine wpAny_Assign_Name (thn (he pins s σ H _ I h) fun v s1 hz => ?_) hs
 obtain ⟨y, H1, I1, r1, q1⟩ := hz
 exact z72 I1 hN hi hx r1 (fun s2 I2 => ⟨_, H1, I2, q1⟩) hf
end
section
variable {X : Cx} {pos : Pos}
end
structure It where
 go : Nat -> Hp -> Prop
 yld : Nat -> Hp -> V -> Hp -> Prop
 stop : Nat -> Hp -> Prop
def FpOk (X : Cx) (pins : List (Addr × Obj)) (H : Hp) (b : Addr) : Prop :=
 H b = none /\ b ≠ X.env.locals /\ b ∉ X.fs /\ (b ∈ X.ex \/ X.s₀.heap.objs.size ≤ b) /\ (∀ x c, X.env.cells.lookup x = some c -> c ≠ b) /\ ∀ p ∈ X.pn ++ pins, p.1 ≠ b
theorem Inv.fpOk {X : Cx} {pins : List (Addr × Obj)} {σ : St} {H H' : Hp} {s : Shared} {b : Addr} (I : Inv X pins σ H s) (hb : s.heap.objs.size ≤ b) (hn : H' b = none) : FpOk X pins H' b := by
 refine ⟨hn, Nat.ne_of_gt (Nat.lt_of_lt_of_le I.lt hb), I.nofs hb, .inr (Nat.le_trans I.sz hb), fun x c e z => ?_, fun p hp z => ?_⟩
 ·obtain ⟨v, q⟩ := I.cell x c e
  exact absurd (Nat.lt_of_lt_of_le q.lt (by rw [z]; exact hb)) (Nat.lt_irrefl _)
 ·exact absurd (Nat.lt_of_lt_of_le (Heap.lt_size (I.pin p hp).1) (by rw [z]; exact hb)) (Nat.lt_irrefl _)
structure Turn (P : Program) (w : World) (K : PySem.W.Frag) (tg : Expr) (J : It) (fp : List Addr) (it : Addr) (tn : Nat -> Heap -> Prop) : Prop where
 mem : it ∈ fp
 obj : ∀ i h, tn i h -> ∀ b ∈ fp, ∃ o, h.get? b = some o /\ ∀ v, o.data ≠ .cell v
 keep : ∀ i h h', tn i h -> (∀ b ∈ fp, ∀ o, h.get? b = some o -> h'.get? b = some o) -> tn i h'
 item : ∀ (X : Cx), X.prog = P -> X.w = w -> X.K = K -> X.calm = true -> ∀ (i : Nat) (pins : List (Addr × Obj)) (s : Shared) (σ : St) (H : Hp) (E : Value -> Shared -> Prop), Inv X pins σ H s -> (∀ b ∈ fp, FpOk X pins H b) -> tn i s.heap -> J.go i H ->
  wpAny (model P w) X.A (pyNext (.ref it)) (fun r s1 => ∃ u, r = some u /\
   wpAny (model P w) X.A (letOwnedTupleGo tg (.ref it) u) (fun _ s2 => ∃ x H', Inv X pins σ H' s2 /\ RelV x u /\ J.yld i H x H' /\ tn (i + 1) s2.heap /\ ∀ b ∈ fp, H' b = none) E s1) E s
 done : ∀ (X : Cx), X.prog = P -> X.w = w -> X.K = K -> X.calm = true -> ∀ (i : Nat) (pins : List (Addr × Obj)) (s : Shared) (σ : St) (H : Hp) (E : Value -> Shared -> Prop), Inv X pins σ H s -> (∀ b ∈ fp, FpOk X pins H b) -> tn i s.heap -> J.stop i H ->
  wpAny (model P w) X.A (pyNext (.ref it)) (fun r s1 => r = none /\ Inv X pins σ H s1) E s
 self : ∀ (A : Around) (i : Nat) (s : Shared) (Q : Value -> Shared -> Prop) (E : Value -> Shared -> Prop), tn i s.heap -> Q (.ref it) s -> wpAny (model P w) A (pyIter (.ref it)) Q E s
abbrev TI := St -> Hp -> (It -> Hp -> Prop) -> Prop
def PIE (X : Cx) (pins : List (Addr × Obj)) (σ : St) (tg : Expr) (R : It -> Hp -> Prop) (itv : Value) (s2 : Shared) : Prop :=
 ∃ (it : Addr) (fp : List Addr) (tn : Nat -> Heap -> Prop) (J : It) (H' : Hp), itv = .ref it /\ Inv X pins σ H' s2 /\ Turn X.prog X.w X.K tg J fp it tn /\ tn 0 s2.heap /\ (∀ b ∈ fp, FpOk X pins H' b) /\ R J H'
def PI (X : Cx) (tg iter : Expr) (wi : TI) : Prop :=
 ∀ (pins : List (Addr × Obj)) (s : Shared) (σ : St) (H : Hp) (R : It -> Hp -> Prop), Inv X pins σ H s -> wi σ H R ->
  wpAny (model X.prog X.w) X.A (eval iter X.env) (fun v s1 => wpAny (model X.prog X.w) X.A (pyIter v) (PIE X pins σ tg R) X.xe s1) X.xe s
theorem y0j {M : Model} {A : Around} {E : Value -> Shared -> Prop} {s : Shared} {tg : Expr} {it : Addr} {u : Value} {o : Obj} {n : String} {vs : Array Value} {Q : Unit -> Shared -> Prop} (ho : s.heap.get? it = some o) (hc : o.cls = .type n) (hd : o.data = .fields vs)
    (hn : ["enumerate", "zip", "dict_itemiterator", "dict_reverseitemiterator", "odict_iterator", "itertools.zip_longest", "itertools.pairwise"].contains n = false) (hQ : Q () s) : wpAny M A (letOwnedTupleGo tg (.ref it) u) Q E s := by
  unfold letOwnedTupleGo
  cases tg <;> first
    | exact wpAny_pure hQ
    | (cases u <;> first
        | exact wpAny_pure hQ
        | (refine wpAny_bind (wpAny_load ho ?_)
           rw [hc, hd]
           show wpAny M A (if (["enumerate", "zip", "dict_itemiterator", "dict_reverseitemiterator", "odict_iterator", "itertools.zip_longest", "itertools.pairwise"].contains n && vs[0]? == some (rawInt _)) = true then _ else _) Q E s
           rw [if_neg (by intro h; rw [hn, Bool.false_and] at h; cases h)]
           exact wpAny_pure hQ))
def Itl (K : PySem.W.Frag) (a : Addr) : It :=
 ⟨fun i H => ∃ xs x, SqL K H a xs /\ xs[i]? = some x, fun i H x H' => H' = H /\ ∀ xs, SqL K H a xs -> xs[i]? = some x, fun i H => ∃ xs, SqL K H a xs /\ xs.length ≤ i⟩
def Itt (K : PySem.W.Frag) (a : Addr) : It :=
 ⟨fun i H => ∃ xs x, SqT K H a xs /\ xs[i]? = some x, fun i H x H' => H' = H /\ ∀ xs, SqT K H a xs -> xs[i]? = some x, fun i H => ∃ xs, SqT K H a xs /\ xs.length ≤ i⟩
def Itr (lo : Int) (n : Nat) : It := ⟨fun i _ => i < n, fun i H x H' => H' = H /\ x = .int (lo + i), fun i _ => n ≤ i⟩
theorem z7Q {P : Program} {w : World} {K : PySem.W.Frag} {tg : Expr} (a it : Addr) : Turn P w K tg (Itl K a) [it] it (fun i h => h.IsListIter it a i) where
 mem := by simp
 obj := fun i h st b hb => by
  have e : b = it := by simpa using hb
  subst e
  obtain ⟨o, e, c, d⟩ := st
  exact ⟨o, e, fun v z => by rw [d] at z; cases z⟩
 keep := fun i h h' st k => st.at fun o e => k it (by simp) o e
 item := by
  intro X hP hw hK hc i pins s σ H E I hf st hg
  subst hP hw hK
  obtain ⟨xs, x, hq, hx⟩ := hg
  obtain ⟨its, rv, p, hz⟩ := I.list hq
  obtain ⟨u, hu, ru⟩ := rv.get hx
  obtain ⟨f0, f1, f2, f3, f4, f5⟩ := hf it (by simp)
  refine wpAny_pyNext_list_item st p.isList (x := u) (by simpa using hu) fun h' st' sb => ?_
  have I1 : Inv X pins σ H { s with heap := h' } := I.turned (t' := s.toks) (fun b o hb e => (sb.2 b hb).trans e) f0 f1 f3 f4 f5
  obtain ⟨o, e, c, d⟩ := id st'
  exact ⟨u, rfl, y0j (s := { s with heap := h' }) e c d (by decide) ⟨x, H, I1, ru, ⟨rfl, fun ys hy => by rw [I.list_inj hy hq]; exact hx⟩, st', fun b hb => (hf b hb).1⟩⟩
 done := by
  intro X hP hw hK hc i pins s σ H E I hf st hg
  subst hP hw hK
  obtain ⟨xs, hq, hx⟩ := hg
  obtain ⟨its, rv, p, hz⟩ := I.list hq
  obtain ⟨f0, f1, f2, f3, f4, f5⟩ := hf it (by simp)
  have hl := rv.length
  exact wpAny_pyNext_list_end (I.ok.hd hc) st p.isList (by simp; omega) fun h' eb => ⟨rfl, I.turned (t' := s.toks) (fun b o hb e => eb b o hb e) f0 f1 f3 f4 f5⟩
 self := fun _ _ _ _ _ st h => wpAny_pyIter_listiter st h
theorem z6D {P : Program} {w : World} {K : PySem.W.Frag} {tg : Expr} (a it : Addr) : Turn P w K tg (Itt K a) [it] it (fun i h => h.IsTupleIter it a i) where
 mem := by simp
 obj := fun i h st b hb => by
  have e : b = it := by simpa using hb
  subst e
  obtain ⟨o, e, c, d⟩ := st
  exact ⟨o, e, fun v z => by rw [d] at z; cases z⟩
 keep := fun i h h' st k => st.at fun o e => k it (by simp) o e
 item := by
  intro X hP hw hK hc i pins s σ H E I hf st hg
  subst hP hw hK
  obtain ⟨xs, x, hq, hx⟩ := hg
  obtain ⟨its, rv, p, hz⟩ := I.tuple hq
  obtain ⟨u, hu, ru⟩ := rv.get hx
  obtain ⟨f0, f1, f2, f3, f4, f5⟩ := hf it (by simp)
  refine wpAny_pyNext_tuple_item st (show s.heap.IsTuple a its.toArray from p) (x := u) (by simpa using hu) fun h' st' sb => ?_
  have I1 : Inv X pins σ H { s with heap := h' } := I.turned (t' := s.toks) (fun b o hb e => (sb.2 b hb).trans e) f0 f1 f3 f4 f5
  obtain ⟨o, e, c, d⟩ := id st'
  exact ⟨u, rfl, y0j (s := { s with heap := h' }) e c d (by decide) ⟨x, H, I1, ru, ⟨rfl, fun ys hy => by rw [I.tuple_inj hy hq]; exact hx⟩, st', fun b hb => (hf b hb).1⟩⟩
 done := by
  intro X hP hw hK hc i pins s σ H E I hf st hg
  subst hP hw hK
  obtain ⟨xs, hq, hx⟩ := hg
  obtain ⟨its, rv, p, hz⟩ := I.tuple hq
  obtain ⟨f0, f1, f2, f3, f4, f5⟩ := hf it (by simp)
  have hl := rv.length
  exact wpAny_pyNext_tuple_end (I.ok.hd hc) st (show s.heap.IsTuple a its.toArray from p) (by simp; omega) fun h' eb => ⟨rfl, I.turned (t' := s.toks) (fun b o hb e => eb b o hb e) f0 f1 f3 f4 f5⟩
 self := fun _ _ _ _ _ st h => wpAny_pyIter_tupleiter st h
theorem z9S {P : Program} {w : World} {K : PySem.W.Frag} {tg : Expr} (it : Addr) (lo : Int) (n : Nat) : Turn P w K tg (Itr lo n) [it] it (fun i h => IsRangeIter h it (lo + (i : Nat) * 1) ((n : Int) - (i : Nat)) 1) where
 mem := by simp
 obj := fun i h st b hb => by
  have e : b = it := by simpa using hb
  subst e
  exact ⟨_, st, fun v z => by
   have z' : Data.fields _ = Data.cell v := z
   cases z'⟩
 keep := fun i h h' st k => k it (by simp) _ st
 item := by
  intro X hP hw hK hc i pins s σ H E I hf st hg
  subst hP hw hK
  obtain ⟨f0, f1, f2, f3, f4, f5⟩ := hf it (by simp)
  have W := Walks.range (prog := X.prog) (w := X.w) (I.ok.hd hc) it lo 1 n
  refine W.item i s _ _ hg st fun v h' tk hv st' kk => ?_
  obtain ⟨t, rfl⟩ := hv
  have I1 : Inv X pins σ H { s with heap := h', toks := tk } := I.turned (fun b o hb e => kk b o (by simpa using hb) e) f0 f1 f3 f4 f5
  refine ⟨_, rfl, y0j (s := { s with heap := h', toks := tk }) (n := "range_iterator") st' rfl rfl (by decide) ⟨.int (lo + i), H, I1, ⟨t, ?_⟩, ⟨rfl, rfl⟩, st', fun b hb => (hf b hb).1⟩⟩
  rw [Int.mul_one]
 done := by
  intro X hP hw hK hc i pins s σ H E I hf st hg
  subst hP hw hK
  obtain ⟨f0, f1, f2, f3, f4, f5⟩ := hf it (by simp)
  exact wpAny_pyNext_range_end (I.ok.hd hc) st (by have : n ≤ i := hg; omega) fun h' eb => ⟨rfl, I.turned (t' := s.toks) (fun b o hb e => eb b o hb e) f0 f1 f3 f4 f5⟩
 self := fun _ _ _ _ _ st h => wpAny_pyIter_rangeiter st h
section
variable {X : Cx} {tg : Expr}
def iList (K : PySem.W.Frag) (tl : TE) : TI := fun σ H R => tl σ H fun x H1 => ∃ a, x = .ref a /\ (∃ xs, SqL K H1 a xs) /\ R (Itl K a) H1
def iTup (K : PySem.W.Frag) (tl : TE) : TI := fun σ H R => tl σ H fun x H1 => ∃ a, x = .ref a /\ (∃ xs, SqT K H1 a xs) /\ R (Itt K a) H1
theorem z21 {l : Expr} {tl : TE} (hl : PE X l tl) : PI X tg l (iList X.K tl) := by
 intro pins s σ H R I h
 refine thn (hl pins s σ H _ I h) fun v s1 hz => ?_
 obtain ⟨x, H1, I1, r1, q1⟩ := hz
 obtain ⟨a, e, ⟨xs, hq⟩, q⟩ := q1
 subst e
 cases r1
 obtain ⟨its, rv, p, hz⟩ := I1.list hq
 refine wpAny_pyIter_list p.isList ?_
 refine ⟨s1.heap.objs.size, [s1.heap.objs.size], _, _, H1, rfl, I1.kept (t' := s1.toks) fun b o e => Heap.get?_push_of_some _ e, z7Q a _, ⟨_, Heap.get?_push_size _ rfl, rfl, rfl⟩, fun b hb => ?_, q⟩
 have e : b = s1.heap.objs.size := by simpa using hb
 subst e
 exact I1.fpOk (Nat.le_refl _) (I1.hok.fresh (Nat.le_refl _))
theorem y2T {l : Expr} {tl : TE} (hl : PE X l tl) : PI X tg l (iTup X.K tl) := by
 intro pins s σ H R I h
 refine thn (hl pins s σ H _ I h) fun v s1 hz => ?_
 obtain ⟨x, H1, I1, r1, q1⟩ := hz
 obtain ⟨a, e, ⟨xs, hq⟩, q⟩ := q1
 subst e
 cases r1
 obtain ⟨its, rv, p, hz⟩ := I1.tuple hq
 refine wpAny_pyIter_tuple (show s1.heap.IsTuple a its.toArray from p) ?_
 refine ⟨s1.heap.objs.size, [s1.heap.objs.size], _, _, H1, rfl, I1.kept (t' := s1.toks) fun b o e => Heap.get?_push_of_some _ e, z6D a _, ⟨_, Heap.get?_push_size _ rfl, rfl, rfl⟩, fun b hb => ?_, q⟩
 have e : b = s1.heap.objs.size := by simpa using hb
 subst e
 exact I1.fpOk (Nat.le_refl _) (I1.hok.fresh (Nat.le_refl _))
theorem z9b {pins : List (Addr × Obj)} {σ : St} {H : Hp} {s : Shared} {R : It -> Hp -> Prop} {E : Value -> Shared -> Prop} {lo hi : Int} {t u v : Tok} {tk : Nat} (I : Inv X pins σ H s) (h1 : -(2 ^ 62) ≤ lo) (h2 : lo < 2 ^ 62) (h3 : -(2 ^ 62) ≤ hi) (h4 : hi < 2 ^ 62)
  (q : R (Itr lo (hi - lo).toNat) H) : wpAny (model X.prog X.w) X.A (pyIter (.ref s.heap.objs.size)) (PIE X pins σ tg R) E { s with heap := s.heap.push { cls := .type "range", data := .fields #[.int lo t, .int hi u, .int 1 v] }, toks := tk } := by
 refine wpAny_pyIter_range (IsRange.new ..) (small_one h1 h2 h3 h4) ?_
 have I1 : Inv X pins σ H { s with heap := s.heap.push { cls := .type "range", data := .fields #[.int lo t, .int hi u, .int 1 v] }, toks := tk } := I.kept fun b o e => Heap.get?_push_of_some _ e
 refine ⟨(s.heap.push { cls := .type "range", data := .fields #[.int lo t, .int hi u, .int 1 v] }).objs.size, [(s.heap.push { cls := .type "range", data := .fields #[.int lo t, .int hi u, .int 1 v] }).objs.size], _, _, H, rfl,
  I1.kept (t' := tk) fun b o e => Heap.get?_push_of_some _ e, z9S _ lo (hi - lo).toNat, ?_, fun b hb => ?_, q⟩
 ·have e1 : lo + ((0 : Nat) : Int) * 1 = lo := by simp
  have e2 : (((hi - lo).toNat : Nat) : Int) - ((0 : Nat) : Int) = Builtin.Range.rangeSize lo hi 1 := by rw [rangeSize_one]; split <;> omega
  show IsRangeIter _ _ (lo + ((0 : Nat) : Int) * 1) ((((hi - lo).toNat : Nat) : Int) - ((0 : Nat) : Int)) 1
  rw [e1, e2]
  exact Heap.get?_push_size _ rfl
 ·have e : b = (s.heap.push { cls := .type "range", data := .fields #[.int lo t, .int hi u, .int 1 v] }).objs.size := by simpa using hb
  subst e
  exact I1.fpOk (Nat.le_refl _) (I1.hok.fresh (Nat.le_refl _))
def iRng1 (ta : TA) : TI := fun σ H R => ta σ H fun vs H1 => ∃ j : Int, vs = [.int j] /\ -(2 ^ 62) ≤ j /\ j < 2 ^ 62 /\ R (Itr 0 j.toNat) H1
def iRng2 (ta : TA) : TI := fun σ H R => ta σ H fun vs H1 => ∃ i j : Int, vs = [.int i, .int j] /\ (-(2 ^ 62) ≤ i /\ i < 2 ^ 62 /\ -(2 ^ 62) ≤ j /\ j < 2 ^ 62) /\ R (Itr i (j - i).toNat) H1
theorem z1X {a : Expr} {ta : TA} {p pos : Pos} (hg : Gl X "range") (hm : X.mg "range" = none) (ha : PA X [a] ta) (hs : starEach [a] X.env = [(false, eval a X.env)] := by rfl) : PI X tg (.Call (.Name "range" p) [a] [] pos) (iRng1 ta) := by
 intro pins s σ H R I h
 refine Call_ (z53 I hg hm boot_range (PyProof.Rows.callWith_type1 (thn (ha pos pins s σ H _ I h) fun us s1 hz => ?_) hs rfl))
 obtain ⟨vs, H1, I1, r1, q1⟩ := hz
 obtain ⟨j, e, q1, q2, q⟩ := q1
 subst e
 cases r1 with
 | cons r rr =>
  cases rr
  obtain ⟨t, rfl⟩ := r
  exact call_range_1 (z9b I1 (by omega) (by omega) q1 q2 (by simpa using q))
theorem y1y {a b : Expr} {ta : TA} {p pos : Pos} (hg : Gl X "range") (hm : X.mg "range" = none) (ha : PA X [a, b] ta) (hs : starEach [a, b] X.env = [(false, eval a X.env), (false, eval b X.env)] := by rfl) (hs2 : starEach [b] X.env = [(false, eval b X.env)] := by rfl) :
  PI X tg (.Call (.Name "range" p) [a, b] [] pos) (iRng2 ta) := by
 intro pins s σ H R I h
 refine Call_ (z53 I hg hm boot_range (PyProof.Rows.callWith_type1 (thn (ha pos pins s σ H _ I h) fun us s1 ⟨vs, H1, I1, r1, q1⟩ => ?_) (by rw [hs, hs2]) (by rw [hs2]; rfl)))
 obtain ⟨i, j, e, ⟨q1, q2, q3, q4⟩, q⟩ := q1
 subst e
 cases r1 with
 | cons r rr =>
  cases rr with
  | cons r' rr =>
   cases rr
   obtain ⟨t, rfl⟩ := r
   obtain ⟨t', rfl⟩ := r'
   exact call_range_2 (z9b I1 q1 q2 q3 q4 q)
def tFor (wi : TI) (g : TG) (tb : TS) : TS := fun D σ H => wi σ H fun J H1 => ∃ W : Nat -> Nat -> St -> Hp -> Prop, (∃ m, W 0 m σ H1) /\ ∀ i m σ H, W i m σ H ->
 (J.stop i H /\ D.nx σ H) \/ (J.go i H /\ ∃ N : St -> Hp -> Prop, (∀ σ' H', N σ' H' -> ∃ m', m' < m /\ W (i + 1) m' σ' H') /\ ∀ x H', J.yld i H x H' -> g x σ H' fun σ2 H2 => tb { D with nx := N, ct := N, bk := D.nx } σ2 H2)
def z7Z (fp : List Addr) (h : Heap) : List (Addr × Obj) := fp.filterMap fun b => (h.get? b).map fun o => (b, o)
theorem z3x {fp : List Addr} {h : Heap} {b : Addr} {o : Obj} (hb : b ∈ fp) (e : h.get? b = some o) : (b, o) ∈ z7Z fp h := List.mem_filterMap.mpr ⟨b, hb, by rw [e]; rfl⟩
theorem y0L {fp : List Addr} {h : Heap} {p : Addr × Obj} (hp : p ∈ z7Z fp h) : p.1 ∈ fp /\ h.get? p.1 = some p.2 := by
 obtain ⟨b, hb, e⟩ := List.mem_filterMap.mp hp
 cases q : h.get? b with
 | none => rw [q] at e; cases e
 | some o =>
  rw [q] at e
  have e' : (b, o) = p := Option.some.inj e
  subst e'
  exact ⟨hb, q⟩
theorem Inv.pinned {pins : List (Addr × Obj)} {σ : St} {H : Hp} {s : Shared} {fp : List Addr} (I : Inv X pins σ H s) (hf : ∀ b ∈ fp, FpOk X pins H b) (ho : ∀ b ∈ fp, ∃ o, s.heap.get? b = some o /\ ∀ v, o.data ≠ .cell v) : Inv X (pins ++ z7Z fp s.heap) σ H s :=
 I.pins_of fun p hp => (List.mem_append.mp hp).elim (fun z => I.pin p (List.mem_append_right _ z)) fun z => by
  obtain ⟨hb, e⟩ := y0L z
  obtain ⟨f0, f1, f2, _⟩ := hf p.1 hb
  obtain ⟨o, e', d⟩ := ho p.1 hb
  rw [e] at e'; cases e'
  exact ⟨e, f0, f1, f2, d⟩
theorem Inv.unpinned {pins pl : List (Addr × Obj)} {σ : St} {H : Hp} {s : Shared} (I : Inv X (pins ++ pl) σ H s) : Inv X pins σ H s := I.pins_of fun p hp => I.pin p (List.mem_append_right _ (List.mem_append_left _ hp))
theorem z2E {iter : Expr} {body : List Stmt} {wi : TI} {g : TG} {tb : TS} {pos : Pos} (hp : PassesOwn (model X.prog X.w) X.A X.env X.xe) (hc : X.calm = true) (hi : PI X tg iter wi) (hg : PG X tg g) (hb : PSs X body tb)
  (hs : ∀ x, foldedSetIterable iter X.env x = pure x := by intro _; rfl) : PS X (.For tg iter body [] pos) (tFor wi g tb) := by
 intro pins s σ H D I h
 refine wpAny_For (thn (hi pins s σ H _ I h) fun v s1 h1 => thn h1 fun itv s2 h2 => ?_) hs
 obtain ⟨it, fp, tn, J, H2, e, I2, T, st2, f2, W, ⟨m0, w0⟩, turn⟩ := h2
 subst e
 have stat : ∀ {H' : Hp}, (∀ b ∈ fp, H' b = none) -> ∀ b ∈ fp, FpOk X pins H' b := fun hn b hb => ⟨hn b hb, (f2 b hb).2⟩
 refine codeAny_forLoop_any (fun n s' => ∃ i σ' H', Inv X pins σ' H' s' /\ tn i s'.heap /\ (∀ b ∈ fp, H' b = none) /\ W i n σ' H') ?_ m0 ⟨0, σ, H2, I2, st2, fun b hb => (f2 b hb).1, w0⟩
 rintro n s3 ⟨i, σ3, H3, I3, st3, fr3, w3⟩
 rcases turn i n σ3 H3 w3 with ⟨stop, qn⟩ | ⟨go, N, hN, step⟩
 ·refine wpAny_passesOwn hp (thn (T.done X rfl rfl rfl hc i pins s3 σ3 H3 X.xe I3 (stat fr3) st3 stop) fun r s4 hz => ?_)
  obtain ⟨hr, I4⟩ := hz
  subst hr
  exact wpAny_execs_nil ⟨σ3, H3, I4, qn⟩
 ·refine wpAny_passesOwn hp (thn (T.item X rfl rfl rfl hc i pins s3 σ3 H3 X.xe I3 (stat fr3) st3 go) fun r s4 hz => ?_)
  obtain ⟨u, hr, h4⟩ := hz
  subst hr
  refine wpAny_passesOwn hp (thn h4 fun _ s5 hz => ?_)
  obtain ⟨x, H5, I5, r5, y5, st5, fr5⟩ := hz
  have I5' := I5.pinned (stat fr5) (T.obj _ _ st5)
  refine wpAny_passesOwn hp (thn (hg _ s5 σ3 H5 x u _ I5' r5 (step x H5 y5)) fun _ s6 hz => ?_)
  obtain ⟨σ6, H6, I6, q6⟩ := hz
  refine wpAny_passesOwn hp (thn (hb _ s6 σ6 H6 _ I6 q6) fun f s7 q7 => ?_)
  have again : ∀ {σ7 : St} {H7 : Hp}, Inv X (pins ++ z7Z fp s5.heap) σ7 H7 s7 -> N σ7 H7 -> ∃ m, m < n /\ ∃ i σ' H', Inv X pins σ' H' s7 /\ tn i s7.heap /\ (∀ b ∈ fp, H' b = none) /\ W i m σ' H' := fun {σ7 H7} I7 n7 => by
   obtain ⟨m', hm, w7⟩ := hN σ7 H7 n7
   refine ⟨m', hm, i + 1, σ7, H7, I7.unpinned, T.keep _ _ _ st5 fun b hb o e => (I7.pin (b, o) (List.mem_append_right _ (List.mem_append_right _ (z3x hb e)))).1, fun b hb => ?_, w7⟩
   obtain ⟨o, e, d⟩ := T.obj _ _ st5 b hb
   exact (I7.pin (b, o) (List.mem_append_right _ (List.mem_append_right _ (z3x hb e)))).2.1
  cases f with
  | next => obtain ⟨σ7, H7, I7, n7⟩ := q7; exact again I7 n7
  | cont => obtain ⟨σ7, H7, I7, n7⟩ := q7; exact again I7 n7
  | brk => obtain ⟨σ7, H7, I7, q7⟩ := q7; exact ⟨σ7, H7, I7.unpinned, q7⟩
  | ret v => obtain ⟨x7, σ7, H7, I7, r7, q7⟩ := q7; exact ⟨x7, σ7, H7, I7.unpinned, r7, q7⟩
end
theorem z3C {K : PySem.W.Frag} {a : Addr} {xs : List V} {g : TG} {tb : TS} {D : Ends} {σ : St} {H : Hp} (Pv : Nat -> St -> Hp -> Prop) (h0 : Pv 0 σ H) (hl : ∀ i σ H, i ≤ xs.length -> Pv i σ H -> SqL K H a xs)
  (hs : ∀ i x σ H, xs[i]? = some x -> Pv i σ H -> g x σ H fun σ2 H2 => tb { D with nx := Pv (i + 1), ct := Pv (i + 1), bk := D.nx } σ2 H2) (hd : ∀ σ H, Pv xs.length σ H -> D.nx σ H) :
  ∃ W : Nat -> Nat -> St -> Hp -> Prop, (∃ m, W 0 m σ H) /\ ∀ i m σ H, W i m σ H ->
   ((Itl K a).stop i H /\ D.nx σ H) \/ ((Itl K a).go i H /\ ∃ N : St -> Hp -> Prop, (∀ σ' H', N σ' H' -> ∃ m', m' < m /\ W (i + 1) m' σ' H') /\ ∀ x H', (Itl K a).yld i H x H' -> g x σ H' fun σ2 H2 => tb { D with nx := N, ct := N, bk := D.nx } σ2 H2) := by
 refine ⟨fun i m σ H => m = xs.length - i /\ i ≤ xs.length /\ Pv i σ H, ⟨xs.length, by simp, Nat.zero_le _, h0⟩, ?_⟩
 rintro i m σ H ⟨rfl, hi, p⟩
 have q := hl i σ H hi p
 by_cases hlt : i < xs.length
 ·refine .inr ⟨⟨xs, xs[i], q, by simp [hlt]⟩, Pv (i + 1), fun σ' H' p' => ⟨xs.length - (i + 1), by omega, rfl, hlt, p'⟩, fun x H' y => ?_⟩
  obtain ⟨e, y⟩ := y
  subst e
  exact hs i x σ _ (y xs q) p
 ·have e : i = xs.length := by omega
  subst e
  exact .inl ⟨⟨xs, q, Nat.le_refl _⟩, hd σ H p⟩
theorem y3O {K : PySem.W.Frag} {a : Addr} {xs : List V} {g : TG} {tb : TS} {D : Ends} {σ : St} {H : Hp} (Pv : Nat -> St -> Hp -> Prop) (h0 : Pv 0 σ H) (hl : ∀ i σ H, i ≤ xs.length -> Pv i σ H -> SqT K H a xs)
  (hs : ∀ i x σ H, xs[i]? = some x -> Pv i σ H -> g x σ H fun σ2 H2 => tb { D with nx := Pv (i + 1), ct := Pv (i + 1), bk := D.nx } σ2 H2) (hd : ∀ σ H, Pv xs.length σ H -> D.nx σ H) :
  ∃ W : Nat -> Nat -> St -> Hp -> Prop, (∃ m, W 0 m σ H) /\ ∀ i m σ H, W i m σ H ->
   ((Itt K a).stop i H /\ D.nx σ H) \/ ((Itt K a).go i H /\ ∃ N : St -> Hp -> Prop, (∀ σ' H', N σ' H' -> ∃ m', m' < m /\ W (i + 1) m' σ' H') /\ ∀ x H', (Itt K a).yld i H x H' -> g x σ H' fun σ2 H2 => tb { D with nx := N, ct := N, bk := D.nx } σ2 H2) := by
 refine ⟨fun i m σ H => m = xs.length - i /\ i ≤ xs.length /\ Pv i σ H, ⟨xs.length, by simp, Nat.zero_le _, h0⟩, ?_⟩
 rintro i m σ H ⟨rfl, hi, p⟩
 have q := hl i σ H hi p
 by_cases hlt : i < xs.length
 ·refine .inr ⟨⟨xs, xs[i], q, by simp [hlt]⟩, Pv (i + 1), fun σ' H' p' => ⟨xs.length - (i + 1), by omega, rfl, hlt, p'⟩, fun x H' y => ?_⟩
  obtain ⟨e, y⟩ := y
  subst e
  exact hs i x σ _ (y xs q) p
 ·have e : i = xs.length := by omega
  subst e
  exact .inl ⟨⟨xs, q, Nat.le_refl _⟩, hd σ H p⟩
theorem z2K {lo : Int} {n : Nat} {g : TG} {tb : TS} {D : Ends} {σ : St} {H : Hp} (Pv : Nat -> St -> Hp -> Prop) (h0 : Pv 0 σ H)
  (hs : ∀ i σ H, i < n -> Pv i σ H -> g (.int (lo + i)) σ H fun σ2 H2 => tb { D with nx := Pv (i + 1), ct := Pv (i + 1), bk := D.nx } σ2 H2) (hd : ∀ σ H, Pv n σ H -> D.nx σ H) :
  ∃ W : Nat -> Nat -> St -> Hp -> Prop, (∃ m, W 0 m σ H) /\ ∀ i m σ H, W i m σ H ->
   ((Itr lo n).stop i H /\ D.nx σ H) \/ ((Itr lo n).go i H /\ ∃ N : St -> Hp -> Prop, (∀ σ' H', N σ' H' -> ∃ m', m' < m /\ W (i + 1) m' σ' H') /\ ∀ x H', (Itr lo n).yld i H x H' -> g x σ H' fun σ2 H2 => tb { D with nx := N, ct := N, bk := D.nx } σ2 H2) := by
 refine ⟨fun i m σ H => m = n - i /\ i ≤ n /\ Pv i σ H, ⟨n, by simp, Nat.zero_le _, h0⟩, ?_⟩
 rintro i m σ H ⟨rfl, hi, p⟩
 by_cases hlt : i < n
 ·refine .inr ⟨hlt, Pv (i + 1), fun σ' H' p' => ⟨n - (i + 1), by omega, rfl, hlt, p'⟩, fun x H' y => ?_⟩
  obtain ⟨e, y⟩ := y
  subst e y
  exact hs i σ _ hlt p
 ·have e : i = n := by omega
  subst e
  exact .inl ⟨Nat.le_refl _, hd σ H p⟩
abbrev R2 := V -> V -> Hp -> VK -> Prop
def OpR (X : Cx) (f : Value -> Value -> Sem Value) (r : R2) : Prop :=
 ∀ (pins : List (Addr × Obj)) (s : Shared) (σ : St) (H : Hp) (x y : V) (v u : Value) (Q : VK), Inv X pins σ H s -> RelV x v -> RelV y u -> r x y H Q ->
  wpAny (model X.prog X.w) X.A (f v u) (EP X pins σ Q) X.xe s
def UnR (X : Cx) (f : Value -> Sem Value) (r : V -> Hp -> VK -> Prop) : Prop :=
 ∀ (pins : List (Addr × Obj)) (s : Shared) (σ : St) (H : Hp) (x : V) (v : Value) (Q : VK), Inv X pins σ H s -> RelV x v -> r x H Q ->
  wpAny (model X.prog X.w) X.A (f v) (EP X pins σ Q) X.xe s
def z33 (X : Cx) (f : Value) (r : List V -> Hp -> VK -> Prop) : Prop :=
 ∀ (pins : List (Addr × Obj)) (s : Shared) (σ : St) (H : Hp) (xs : List V) (us : List Value) (Q : VK), Inv X pins σ H s -> Vals xs us -> r xs H Q ->
  wpAny (model X.prog X.w) X.A (call f us) (EP X pins σ Q) X.xe s
def tOp (r : R2) (ta tb : TE) : TE := fun σ H Q => ta σ H fun x H1 => tb σ H1 fun y H2 => r x y H2 Q
def tUn (r : V -> Hp -> VK -> Prop) (ta : TE) : TE := fun σ H Q => ta σ H fun x H1 => r x H1 Q
def rI (C : Int -> Int -> Prop) (g : Int -> Int -> V) : R2 := fun x y H Q => ∃ i j, x = .int i /\ y = .int j /\ C i j /\ Q (g i j) H
def rI0 (g : Int -> Int -> V) : R2 := fun x y H Q => ∃ i j, x = .int i /\ y = .int j /\ Q (g i j) H
def rU (g : Int -> V) : V -> Hp -> VK -> Prop := fun x H Q => ∃ i, x = .int i /\ Q (g i) H
section
variable {X : Cx} {a b c : Expr} {ta tb tc : TE} {pos : Pos}
theorem binT (ha : PE X a ta) (hb : PE X b tb) {pins : List (Addr × Obj)} {s : Shared} {σ : St} {H : Hp} {R : V -> V -> Hp -> Prop} (I : Inv X pins σ H s)
  (h : ta σ H fun x H1 => tb σ H1 fun y H2 => R x y H2) {Q : Value -> Shared -> Prop} {f : Value -> Value -> Sem Value}
  (hf : ∀ v u s2 x y H2, Inv X pins σ H2 s2 -> RelV x v -> RelV y u -> R x y H2 -> wpAny (model X.prog X.w) X.A (f v u) Q X.xe s2) :
  wpAny (model X.prog X.w) X.A (eval a X.env) (fun v s₁ => wpAny (model X.prog X.w) X.A (eval b X.env) (fun u s₂ => wpAny (model X.prog X.w) X.A (f v u) Q X.xe s₂) X.xe s₁) X.xe s := by
 refine thn (ha pins s σ H _ I h) fun v s1 hz => ?_
 obtain ⟨x, H1, I1, r1, q1⟩ := hz
 refine thn (hb pins s1 σ H1 _ I1 q1) fun u s2 hz => ?_
 obtain ⟨y, H2, I2, r2, q2⟩ := hz
 exact hf v u s2 x y H2 I2 r1 r2 q2
theorem z0c {op : Operator} {r : R2} (ho : OpR X (binaryOp op) r) (ha : PE X a ta) (hb : PE X b tb) : PE X (.BinOp a op b pos) (tOp r ta tb) := by
 intro pins s σ H Q I h
 exact wpAny_BinOp (binT ha hb I h fun v u s2 x y H2 I2 rx ry q => ho pins s2 σ H2 x y v u Q I2 rx ry q)
theorem z7i {op : UnaryOp} {r : V -> Hp -> VK -> Prop} (ho : UnR X (unaryOp op) r) (ha : PE X a ta) : PE X (.UnaryOp op a pos) (tUn r ta) := by
 intro pins s σ H Q I h
 exact UnaryOp_ (thn (ha pins s σ H _ I h) fun v s1 ⟨x, H1, I1, r1, q1⟩ => ho pins s1 σ H1 x v Q I1 r1 q1)
theorem opI {f : Value -> Value -> Sem Value} {C : Int -> Int -> Prop} {g : Int -> Int -> Int}
  (rule : ∀ (i j : Int) (t u : Tok) (s : Shared) (Q : Value -> Shared -> Prop) (E : Value -> Shared -> Prop), C i j -> Q (.int (g i j) s.toks) { s with toks := s.toks + 1 } -> wpAny (model X.prog X.w) X.A (f (.int i t) (.int j u)) Q E s) :
  OpR X f (rI C fun i j => .int (g i j)) := by
 intro pins s σ H x y v u Q I rx ry h
 obtain ⟨i, j, rfl, rfl, hc, q⟩ := h
 obtain ⟨t, rfl⟩ := rx
 obtain ⟨t', rfl⟩ := ry
 exact rule i j t t' s _ _ hc ⟨.int (g i j), H, I.tok _, ⟨_, rfl⟩, q⟩
theorem opI0 {f : Value -> Value -> Sem Value} {g : Int -> Int -> Int}
  (rule : ∀ (i j : Int) (t u : Tok) (s : Shared) (Q : Value -> Shared -> Prop) (E : Value -> Shared -> Prop), Q (.int (g i j) s.toks) { s with toks := s.toks + 1 } -> wpAny (model X.prog X.w) X.A (f (.int i t) (.int j u)) Q E s) :
  OpR X f (rI0 fun i j => .int (g i j)) := by
 intro pins s σ H x y v u Q I rx ry h
 obtain ⟨i, j, rfl, rfl, q⟩ := h
 obtain ⟨t, rfl⟩ := rx
 obtain ⟨t', rfl⟩ := ry
 exact rule i j t t' s _ _ ⟨.int (g i j), H, I.tok _, ⟨_, rfl⟩, q⟩
theorem opB0 {f : Value -> Value -> Sem Value} {g : Int -> Int -> Bool}
  (rule : ∀ (i j : Int) (t u : Tok) (s : Shared) (Q : Value -> Shared -> Prop) (E : Value -> Shared -> Prop), Q (.bool (g i j)) s -> wpAny (model X.prog X.w) X.A (f (.int i t) (.int j u)) Q E s) :
  OpR X f (rI0 fun i j => .bl (g i j)) := by
 intro pins s σ H x y v u Q I rx ry h
 obtain ⟨i, j, rfl, rfl, q⟩ := h
 obtain ⟨t, rfl⟩ := rx
 obtain ⟨t', rfl⟩ := ry
 exact rule i j t t' s _ _ ⟨.bl (g i j), H, I, rfl, q⟩
def CDiv (i j : Int) : Prop := 0 < j /\ j < 1073741824
def CPow (i j : Int) : Prop := 0 ≤ j /\ j ≤ 1000000 /\ i.natAbs < 2 ^ 64
def CMul (i j : Int) : Prop := (-(2 ^ 64) < i /\ i < 2 ^ 64) \/ (-(2 ^ 64) < j /\ j < 2 ^ 64)
theorem CMul.ok {i j : Int} (h : CMul i j) : IntMulOk i j := by
 rcases h with ⟨h1, h2⟩ | ⟨h1, h2⟩
 ·exact .of_left (intBits_le_64 h1 h2)
 ·exact .of_right (intBits_le_64 h1 h2)
theorem z13 : OpR X (binaryOp .Add) (rI0 fun i j => .int (i + j)) := opI0 fun _ _ _ _ _ _ _ q => add_int q
theorem z2J : OpR X (binaryOp .Sub) (rI0 fun i j => .int (i - j)) := opI0 fun _ _ _ _ _ _ _ q => sub_int q
theorem z4b : OpR X (binaryOp .Mult) (rI CMul fun i j => .int (i * j)) := opI fun _ _ _ _ _ _ _ hc q => mul_int q hc.ok
theorem z0D : OpR X (binaryOp .FloorDiv) (rI CDiv fun i j => .int (i / j)) := opI fun i j _ _ _ _ _ hc q => by
 have h1 : (0 : Int) < j := hc.1
 have h2 : j < 1073741824 := hc.2
 exact floordiv_int (by omega) (by rw [Int.fdiv_eq_ediv_of_nonneg i (by omega)]; exact q) (.inl (PyProof.noPylong_small (by omega)))
theorem z0w : OpR X (binaryOp .Mod) (rI (fun _ j => 0 < j) fun i j => .int (i % j)) := opI fun i j _ _ _ _ _ hc q => by
 have h1 : (0 : Int) < j := hc
 exact mod_int' (by omega) (by rw [Int.fmod_eq_emod_of_nonneg i (by omega)]; exact q)
theorem z9n : OpR X (binaryOp .Pow) (rI CPow fun i j => .int (i ^ j.toNat)) := opI fun _ _ _ _ _ _ _ hc q => pow_int_small hc.1 hc.2.1 hc.2.2 q
theorem unI {f : Value -> Sem Value} {g : Int -> Int}
  (rule : ∀ (i : Int) (t : Tok) (s : Shared) (Q : Value -> Shared -> Prop) (E : Value -> Shared -> Prop), Q (.int (g i) s.toks) { s with toks := s.toks + 1 } -> wpAny (model X.prog X.w) X.A (f (.int i t)) Q E s) :
  UnR X f (rU fun i => .int (g i)) := by
 intro pins s σ H x v Q I rx h
 obtain ⟨i, rfl, q⟩ := h
 obtain ⟨t, rfl⟩ := rx
 exact rule i t s _ _ ⟨.int (g i), H, I.tok _, ⟨_, rfl⟩, q⟩
theorem z4c : UnR X (unaryOp .USub) (rU fun i => .int (-i)) := unI fun _ _ _ _ _ q => neg_int q
end
def scal : V -> V -> Bool
 | .non, .non => true | .non, .int _ => true | .int _, .non => true | .non, .bl _ => true | .bl _, .non => true | .non, .str _ => true | .str _, .non => true
 | .int _, .int _ => true | .bl _, .bl _ => true | .str _, .str _ => true | .byt _, .byt _ => true
 | .int _, .str _ => true | .str _, .int _ => true | .bl _, .str _ => true | .str _, .bl _ => true
 | _, _ => false
def rEq : R2 := fun x y H Q => scal x y = true /\ Q (.bl (decide (x = y))) H
def rNe : R2 := fun x y H Q => scal x y = true /\ Q (.bl (!decide (x = y))) H
theorem y1z {i j : Int} : decide (V.int i = V.int j) = (i == j) := by
 rw [Bool.eq_iff_iff]
 simp
theorem y2U {i j : Bool} : decide (V.bl i = V.bl j) = (i == j) := by
 rw [Bool.eq_iff_iff]
 simp
theorem y0i {i j : Str} : decide (V.str i = V.str j) = (i == j) := by
 rw [Bool.eq_iff_iff]
 simp
theorem y1B {i j : Array UInt8} : decide (V.byt i = V.byt j) = (i.toList == j.toList) := by
 rw [Bool.eq_iff_iff]
 cases i
 cases j
 simp
section
variable {X : Cx} {a b c : Expr} {ta tb tc : TE} {pos : Pos}
theorem z0S {pins : List (Addr × Obj)} {σ : St} {H : Hp} {s : Shared} {Q : VK} {k k' : Bool} (I : Inv X pins σ H s) (q : Q (.bl k) H) (e : k = k') : EP X pins σ Q (.bool k') s := by
 subst e
 exact ⟨.bl k, H, I, rfl, q⟩
theorem z3Z : OpR X (compareOp .Eq) rEq := by
 intro pins s σ H x y v u Q I rx ry h
 obtain ⟨hs, q⟩ := h
 cases x with
 | non =>
  cases rx
  cases y with
  | non => cases ry; exact PySem.EqNone.eq_none_none (z0S I q (by simp))
  | bl j => cases ry; exact PySem.EqNone.eq_none_bool (z0S I q (by simp))
  | int j => obtain ⟨t', rfl⟩ := ry; exact PySem.EqNone.eq_none_int (z0S I q (by simp))
  | str j => obtain ⟨t', rfl⟩ := ry; exact PySem.EqNone.eq_none_str (z0S I q (by simp))
  | _ => exact absurd (show false = true from hs) Bool.false_ne_true
 | bl i =>
  cases rx
  cases y with
  | non => cases ry; exact PySem.EqNone.eq_bool_none (z0S I q (by simp))
  | bl j => cases ry; exact eq_bool (z0S I q y2U)
  | str j => obtain ⟨t', rfl⟩ := ry; exact PySem.EqMixed.eq_bool_str (z0S I q (by simp))
  | _ => exact absurd (show false = true from hs) Bool.false_ne_true
 | int i =>
  obtain ⟨t, rfl⟩ := rx
  cases y with
  | non => cases ry; exact PySem.EqNone.eq_int_none (z0S I q (by simp))
  | int j => obtain ⟨t', rfl⟩ := ry; exact eq_int (z0S I q y1z)
  | str j => obtain ⟨t', rfl⟩ := ry; exact PySem.EqMixed.eq_int_str (z0S I q (by simp))
  | _ => exact absurd (show false = true from hs) Bool.false_ne_true
 | str i =>
  obtain ⟨t, rfl⟩ := rx
  cases y with
  | non => cases ry; exact PySem.EqNone.eq_str_none (z0S I q (by simp))
  | bl j => cases ry; exact PySem.EqMixed.eq_str_bool (z0S I q (by simp))
  | int j => obtain ⟨t', rfl⟩ := ry; exact PySem.EqMixed.eq_str_int (z0S I q (by simp))
  | str j => obtain ⟨t', rfl⟩ := ry; exact eq_str (z0S I q y0i)
  | _ => exact absurd (show false = true from hs) Bool.false_ne_true
 | byt i =>
  obtain ⟨t, rfl⟩ := rx
  cases y with
  | byt j => obtain ⟨t', rfl⟩ := ry; exact PySem.W.eq_bytes (z0S I q y1B)
  | _ => exact absurd (show false = true from hs) Bool.false_ne_true
 | _ => cases y <;> exact absurd (show false = true from hs) Bool.false_ne_true
theorem z5I : OpR X (compareOp .NotEq) rNe := by
 intro pins s σ H x y v u Q I rx ry h
 obtain ⟨hs, q⟩ := h
 cases x with
 | non =>
  cases rx
  cases y with
  | non => cases ry; exact PySem.EqNone.ne_none_none (z0S I q (by simp))
  | bl j => cases ry; exact PySem.EqNone.ne_none_bool (z0S I q (by simp))
  | int j => obtain ⟨t', rfl⟩ := ry; exact PySem.EqNone.ne_none_int (z0S I q (by simp))
  | str j => obtain ⟨t', rfl⟩ := ry; exact PySem.EqNone.ne_none_str (z0S I q (by simp))
  | _ => exact absurd (show false = true from hs) Bool.false_ne_true
 | bl i =>
  cases rx
  cases y with
  | non => cases ry; exact PySem.EqNone.ne_bool_none (z0S I q (by simp))
  | bl j => cases ry; exact ne_bool (z0S I q (congrArg not y2U))
  | str j => obtain ⟨t', rfl⟩ := ry; exact PySem.EqMixed.ne_bool_str (z0S I q (by simp))
  | _ => exact absurd (show false = true from hs) Bool.false_ne_true
 | int i =>
  obtain ⟨t, rfl⟩ := rx
  cases y with
  | non => cases ry; exact PySem.EqNone.ne_int_none (z0S I q (by simp))
  | int j => obtain ⟨t', rfl⟩ := ry; exact ne_int (z0S I q (congrArg not y1z))
  | str j => obtain ⟨t', rfl⟩ := ry; exact PySem.EqMixed.ne_int_str (z0S I q (by simp))
  | _ => exact absurd (show false = true from hs) Bool.false_ne_true
 | str i =>
  obtain ⟨t, rfl⟩ := rx
  cases y with
  | non => cases ry; exact PySem.EqNone.ne_str_none (z0S I q (by simp))
  | bl j => cases ry; exact PySem.EqMixed.ne_str_bool (z0S I q (by simp))
  | int j => obtain ⟨t', rfl⟩ := ry; exact PySem.EqMixed.ne_str_int (z0S I q (by simp))
  | str j => obtain ⟨t', rfl⟩ := ry; exact ne_str (z0S I q (congrArg not y0i))
  | _ => exact absurd (show false = true from hs) Bool.false_ne_true
 | byt i =>
  obtain ⟨t, rfl⟩ := rx
  cases y with
  | byt j => obtain ⟨t', rfl⟩ := ry; exact PySem.W.ne_bytes (z0S I q (congrArg not y1B))
  | _ => exact absurd (show false = true from hs) Bool.false_ne_true
 | _ => cases y <;> exact absurd (show false = true from hs) Bool.false_ne_true
theorem z3I : OpR X (compareOp .Lt) (rI0 fun i j => .bl (decide (i < j))) := opB0 fun _ _ _ _ _ _ _ q => lt_int q
theorem op_le : OpR X (compareOp .LtE) (rI0 fun i j => .bl (decide (i ≤ j))) := opB0 fun _ _ _ _ _ _ _ q => le_int q
theorem z2f : OpR X (compareOp .Gt) (rI0 fun i j => .bl (decide (j < i))) := opB0 fun _ _ _ _ _ _ _ q => gt_int q
theorem z8q : OpR X (compareOp .GtE) (rI0 fun i j => .bl (decide (j ≤ i))) := opB0 fun _ _ _ _ _ _ _ q => ge_int q
theorem z0g (b : Expr) {op : CmpOp} (h : op ≠ .In := by decide) (h2 : op ≠ .NotIn := by decide) : behindInMarks op b = false := by
 have e1 : (op == CmpOp.In) = false := by cases op <;> first | rfl | exact absurd rfl h
 have e2 : (op == CmpOp.NotIn) = false := by cases op <;> first | rfl | exact absurd rfl h2
 cases b <;> simp [behindInMarks, e1, e2]
theorem z7m {op : CmpOp} {r : R2} (ho : OpR X (compareOp op) r) (ha : PE X a ta) (hb : PE X b tb) (hm : behindInMarks op b = false) : PE X (.Compare a [op] [b] pos) (tOp r ta tb) := by
 intro pins s σ H Q I h
 exact wpAny_Compare1 (binT ha hb I h fun v u s2 x y H2 I2 rx ry q => ho pins s2 σ H2 x y v u Q I2 rx ry q) hm
def tTest (t : TE) : TT := fun σ H Q => t σ H fun x H' => ∃ k, x = .bl k /\ Q k H'
theorem z0a {op : CmpOp} {r : R2} (ho : OpR X (compareOp op) r) (ha : PE X a ta) (hb : PE X b tb) (hm : behindInMarks op b = false) : PT X (.Compare a [op] [b] pos) (tTest (tOp r ta tb)) := by
 intro pins s σ H Q I h
 refine wpAny_isTrue_Compare1 (thn (ha pins s σ H _ I h) fun v s1 ⟨x, H1, I1, r1, q1⟩ => thn (hb pins s1 σ H1 _ I1 q1) fun u s2 ⟨y, H2, I2, r2, q2⟩ =>
  thn (ho pins s2 σ H2 x y v u _ I2 r1 r2 q2) fun c s3 ⟨z, H3, I3, r3, k, e, q3⟩ => ?_) hm
 subst e
 cases r3
 exact wpAny_truthy_bool ⟨H3, I3, q3⟩
theorem z4q : (sizeLine : Nat) < 2 ^ 63 := by rw [sizeLine_eq]; decide
theorem z3w : OpR X (binaryOp .Add) (fun x y H Q => ∃ i j, x = .str i /\ y = .str j /\ i.length + j.length ≤ sizeLine /\ Q (.str (i ++ j)) H) := by
 intro pins s σ H x y v u Q I rx ry h
 obtain ⟨i, j, rfl, rfl, hz, q⟩ := h
 obtain ⟨t, rfl⟩ := rx
 obtain ⟨t', rfl⟩ := ry
 exact add_str (fun t' tk => ⟨.str (i ++ j), H, I.tok _, ⟨_, rfl⟩, q⟩) hz
theorem z5h {x : V} {us : List Value} (r : Vals [x] us) : ∃ u, us = [u] /\ RelV x u := by
 cases r with
 | cons r1 r2 => cases r2; exact ⟨_, rfl, r1⟩
theorem z9P {x y : V} {us : List Value} (r : Vals [x, y] us) : ∃ u w', us = [u, w'] /\ RelV x u /\ RelV y w' := by
 cases r with
 | cons r1 r2 =>
  cases r2 with
  | cons r3 r4 => cases r4; exact ⟨_, _, rfl, r1, r3⟩
theorem z86 (hc : X.calm = true) : z33 X (.builtin "max") (fun xs H Q => ∃ i j, xs = [.int i, .int j] /\ Q (.int (if j > i then j else i)) H) := by
 intro pins s σ H xs us Q I r h
 obtain ⟨i, j, rfl, q⟩ := h
 obtain ⟨u, w', rfl, ⟨t, rfl⟩, ⟨t', rfl⟩⟩ := z9P r
 refine max_two_ints (I.ok.hd hc) fun h' tk k => ⟨_, H, I.kept k, ?_, q⟩
 by_cases hj : j > i
 ·rw [if_pos hj, if_pos hj]; exact ⟨_, rfl⟩
 ·rw [if_neg hj, if_neg hj]; exact ⟨_, rfl⟩
end
structure ObjM (h : Heap) (x dx C : Addr) (mA : Str -> Option Value) : Prop where
 obj : h.get? x = some (PySem.W.instObj C dx)
 ns : h.Ns1 dx mA
 ne : dx ≠ x
theorem y1j {h : Heap} {dx : Addr} {mA : Str -> Option Value} (n : h.Ns1 dx mA) : ∃ od, h.get? dx = some od /\ ∀ name, PySem.W.lookIn name od = some (mA name) := by
 obtain ⟨o, es, ep, ho, hd, hk, _, hm⟩ := n
 refine ⟨o, ho, fun name => ?_⟩
 have e := hm name
 unfold nsFind findBy at e
 rw [<- Array.find?_toList] at e
 unfold PySem.W.lookIn
 rw [hd]
 dsimp only
 split
 ·rename_i y q
  rw [q] at e
  exact congrArg some e
 ·rename_i q
  rw [q] at e
  have a : es.toList.any (·.refKey) = false := by
   rw [List.any_eq_false]
   intro y hy
   obtain ⟨z, t, hkey⟩ := hk y (Array.mem_toList_iff.mp hy)
   simp [DictEntry.refKey, hkey]
  have a' : ¬ es.toList.any (·.refKey) = true := by rw [a]; exact Bool.false_ne_true
  rw [if_neg a']
  exact congrArg some e
theorem ObjM.look {h : Heap} {x dx C : Addr} {mA : Str -> Option Value} (I : ObjM h x dx C mA) : ∃ od, PySem.W.InstAt h x (PySem.W.instObj C dx) C (some od) /\ ∀ name, PySem.W.lookIn name od = some (mA name) :=
 let ⟨od, ho, hl⟩ := y1j I.ns
 ⟨od, ⟨I.obj, rfl, rfl, ho⟩, hl⟩
section
variable {prog : Program} {w : World} {A : Around} {E : Value -> Shared -> Prop} {s : Shared} {K : PySem.W.Frag} {x dx C f : Addr} {mA : Str -> Option Value} {name : Str} {v : Value}
theorem y31 {expr : Bool} {Q : Value -> Shared -> Prop} (X : K.In s.heap) (I : ObjM s.heap x dx C mA) (hg : PySem.W.plainGet K C name = true) (hh : PySem.W.hasDictIn K C = true)
  (ha : PySem.W.findIn K (.ref C) name = some none) (hv : mA name = some v) (hv' : PySem.W.handedIn v = true) (h : Q v { s with toks := s.toks + 1 }) :
  wpAny (model prog w) A (getAttr (.ref x) name expr) Q E s := by
 obtain ⟨od, J, hl⟩ := I.look
 exact PySem.W.get_value X J (PySem.W.plainGet_of hg).1 (PySem.W.findObj_own hh ha rfl (by rw [hl, hv])) hv' h
theorem y2l {pl : Sem Bool} {Q : Value × List Value -> Shared -> Prop} (X : K.In s.heap) (I : ObjM s.heap x dx C mA) (hg : PySem.W.plainGet K C name = true)
  (hf : PySem.W.findIn K (.ref C) name = some (some (.ref f))) (ht : PySem.W.isFn K (.ref f) = true) (hv : mA name = none) (h : Q (.ref f, [.ref x]) s) :
  wpAny (model prog w) A (getMethod (.ref x) name pl) Q E s := by
 obtain ⟨od, J, hl⟩ := I.look
 exact PySem.W.method_fn X J (PySem.W.plainGet_of hg).1 (PySem.W.plainGet_of hg).2 hf (beq_iff_eq.mp ht) (by show (PySem.W.lookIn name od).map (·.isSome) = some false; rw [hl, hv]; rfl) h
theorem y3C {ns : List Str} {Q : Unit -> Shared -> Prop} (X : K.In s.heap) (I : ObjM s.heap x dx C mA)
  (hs : PySem.W.findIn K (.ref C) "__setattr__" = some (some (.builtin "object.__setattr__"))) (hp : PySem.W.plainOver K C = true) (ht : PySem.W.takerIn K C name = some none) (hh : PySem.W.hasDictIn K C = true)
  (hw : PySem.Within mA ns) (hsz : ns.length ≤ sizeLine)
  (h : ∀ h', ObjM h' x dx C (fun y => if y = name then some v else mA y) -> Heap.SameBut dx s.heap h' -> Q () { s with heap := h', toks := s.toks + 2 }) :
  wpAny (model prog w) A (setAttr (.ref x) name v) Q E s := by
 obtain ⟨od, J, hl⟩ := I.look
 refine PySem.W.set_plain X J hs (PySem.W.osa_open (s := { s with toks := s.toks + 1 }) (r := none) X J hp ht fun b => ?_)
 obtain ⟨cd, hc, hd'⟩ := PySem.W.any_some hh
 have hx : s.heap.get? x = some ⟨.ref C, some dx, .plain, #[]⟩ := I.obj
 refine wpAny_bind (wpAny_pure (wpAny_bind (wpAny_bind (wpAny_loadPart hx (wpAny_bind (PySem.W.Looks.here (s := { s with toks := s.toks + 1 }) (PySem.W.looks_clsIn X hc) ?_))))))
 rw [hd']
 refine wpAny_pure (a := some dx) (wpAny_bind (wpAny_pure (wpAny_bind ?_)))
 refine wpAny_nsSet1 (s := { s with toks := s.toks + 1 }) I.ns fun h' hn2 hs2 => ?_
 obtain ⟨oD, esD, epD, hoD, hdD, hcD⟩ := hn2.count (PySem.Within.cons name v hw)
 refine wpAny_bind (wpAny_lookBehind hoD (by rw [hdD]; exact pastItsLine_dict (Nat.le_trans hcD (by rw [List.length_cons]; omega))) ?_)
 exact wpAny_pure (h _ ⟨(hs2.2 _ (Ne.symm I.ne)).trans I.obj, hn2, I.ne⟩ hs2)
theorem y1K {R : Result -> Shared -> Prop} {vs : List Value} {kw : List (Str × Value)} (X : K.In s.heap) (hm : PySem.W.makesIn K C = true)
  (hi : PySem.W.findIn K (.ref C) "__init__" = some (some (.ref f))) (hf : PySem.W.typeIn K (.ref f) = some (.type "function"))
  (h : codeAny (model prog w) (A.under (.builtin "type.__call__" ⟨.ref C :: vs, kw⟩)) (.call (.ref f) ⟨.ref (s.heap.objs.size + 1) :: vs, kw⟩) (PySem.W.InitBack (s.heap.objs.size + 1) R)
   { s with heap := (s.heap.push PySem.W.emptyDict).push (PySem.W.instObj C s.heap.objs.size) }) :
  codeAny (model prog w) A (.call (.ref C) ⟨vs, kw⟩) R s := by
 obtain ⟨hh, g, d, t, os⟩ := s
 exact PySem.W.make_core (PySem.W.makes_of X hm) (PySem.W.looks_findIn X hi) (fun self => PySem.W.bind_fn X self hf) (.inl rfl) h
end
def putF (f : Str) (v : V) : List (Str × V) -> List (Str × V)
 | [] => [(f, v)]
 | (g, x) :: r => if g = f then (g, v) :: r else (g, x) :: putF f v r
theorem z0e (f g : Str) (v : V) : ∀ fs : List (Str × V), (putF f v fs).lookup g = if g = f then some v else fs.lookup g
 | [] => by
  show List.lookup g [(f, v)] = _
  by_cases h : g = f
  ·have hb : (g == f) = true := beq_iff_eq.mpr h
   simp only [List.lookup, hb, if_pos h]
  ·have hb : (g == f) = false := beq_eq_false_iff_ne.mpr h
   simp only [List.lookup, hb, if_neg h]
 | (k, x) :: r => by
  have ih := z0e f g v r
  rw [show putF f v ((k, x) :: r) = (if k = f then (k, v) :: r else (k, x) :: putF f v r) from rfl]
  by_cases hk : k = f
  ·rw [if_pos hk]
   by_cases h : g = k
   ·have hb : (g == k) = true := beq_iff_eq.mpr h
    simp only [List.lookup, hb, if_pos (h.trans hk)]
   ·have hb : (g == k) = false := beq_eq_false_iff_ne.mpr h
    simp only [List.lookup, hb, if_neg (fun e : g = f => h (e.trans hk.symm))]
  ·rw [if_neg hk]
   by_cases h : g = k
   ·have hb : (g == k) = true := beq_iff_eq.mpr h
    simp only [List.lookup, hb, if_neg (fun e : g = f => hk (h.symm.trans e))]
   ·have hb : (g == k) = false := beq_eq_false_iff_ne.mpr h
    simp only [List.lookup, hb]
    exact ih
theorem z5X (f : Str) (v : V) : ∀ fs : List (Str × V), f ∈ (putF f v fs).map (·.1) /\ ∀ g, g ∈ fs.map (·.1) -> g ∈ (putF f v fs).map (·.1)
 | [] => ⟨by simp [putF], fun g h => by simp at h⟩
 | (k, x) :: r => by
  obtain ⟨i1, i2⟩ := z5X f v r
  rw [show putF f v ((k, x) :: r) = (if k = f then (k, v) :: r else (k, x) :: putF f v r) from rfl]
  by_cases hk : k = f
  ·rw [if_pos hk]
   subst hk
   exact ⟨by simp, fun g h => by simpa using h⟩
  ·rw [if_neg hk]
   refine ⟨?_, fun g h => ?_⟩
   ·rw [List.map_cons]
    exact List.mem_cons_of_mem _ i1
   ·rw [List.map_cons] at h ⊢
    rcases List.mem_cons.mp h with e | e
    ·exact List.mem_cons.mpr (.inl e)
    ·exact List.mem_cons_of_mem _ (i2 g e)
theorem z1h (f : Str) (v : V) : ∀ fs : List (Str × V), (putF f v fs).length ≤ fs.length + 1
 | [] => by simp [putF]
 | (k, x) :: r => by
  have ih := z1h f v r
  rw [show putF f v ((k, x) :: r) = (if k = f then (k, v) :: r else (k, x) :: putF f v r) from rfl]
  by_cases hk : k = f
  ·rw [if_pos hk, List.length_cons, List.length_cons]; omega
  ·rw [if_neg hk, List.length_cons, List.length_cons]; omega
theorem RelO.some_of {v : V} {o : Option Value} (r : RelO (some v) o) : ∃ u, o = some u /\ RelV v u := by
 cases o with
 | none => exact (show False from r).elim
 | some u => exact ⟨u, rfl, r⟩
theorem RelO.none_of {o : Option Value} (r : RelO none o) : o = none := by
 cases o with
 | none => rfl
 | some u => exact (show False from r).elim
theorem y0w {v : V} {u : Value} (r : RelV v u) : PySem.W.handedIn u = true := by
 cases v with
 | non => cases (show u = Value.none from r); rfl
 | bl b => cases (show u = Value.bool b from r); rfl
 | int i => obtain ⟨t, e⟩ := (show ∃ t, u = Value.int i t from r); cases e; rfl
 | str x => obtain ⟨t, e⟩ := (show ∃ t, u = Value.str x t from r); cases e; rfl
 | byt b => obtain ⟨t, e⟩ := (show ∃ t, u = Value.bytes b t from r); cases e; rfl
 | flt b => obtain ⟨t, e⟩ := (show ∃ t, u = Value.float b t from r); cases e; rfl
 | ref a => cases (show u = Value.ref a from r); rfl
 | ty n => cases (show u = Value.type n from r); rfl
section
variable {P : Program} {w : World} {H H' : Hp} {h h' : Heap} {a C dx : Addr} {fs fs' : List (Str × V)}
theorem z6V (hok : HOk P w H h) (e : H a = some (.ins C dx fs)) : ∃ mA, ObjM h a dx C mA /\ (∀ f, RelO (fs.lookup f) (mA f)) /\ PySem.Within mA (fs.map (·.1)) /\ fs.length ≤ 1000 /\ H dx = some (.own a) := by
 obtain ⟨d, z, ne, ob, mA, n, r, q⟩ := (show z16 P w H h a (.ins C dx fs) from hok a _ e)
 exact ⟨mA, ⟨ob, n, ne⟩, r, q, z, d⟩
end
structure Cls (K : PySem.W.Frag) (C : Addr) : Prop where
 pg : PySem.W.plainGet K C Str.empty = true
 hd : PySem.W.hasDictIn K C = true
 po : PySem.W.plainOver K C = true
 sa : PySem.W.findIn K (.ref C) "__setattr__" = some (some (.builtin "object.__setattr__"))
theorem Cls.get {K : PySem.W.Frag} {C : Addr} (c : Cls K C) (f : Str) : PySem.W.plainGet K C f = true := c.pg
def z2h (K : PySem.W.Frag) (C : Addr) (f : Str) : Prop := PySem.W.findIn K (.ref C) f = some none
theorem z2h.taker {K : PySem.W.Frag} {C : Addr} {f : Str} (n : z2h K C f) : PySem.W.takerIn K C f = some none := by
 unfold PySem.W.takerIn
 rw [show PySem.W.findIn K (.ref C) f = some none from n]
 rfl
structure Meth (K : PySem.W.Frag) (C : Addr) (m : Str) (f : Addr) : Prop where
 at_ : PySem.W.findIn K (.ref C) m = some (some (.ref f))
 fn : PySem.W.isFn K (.ref f) = true
 kp : PySem.W.keepIn K (.ref f) = true
section
variable {X : Cx} {pins : List (Addr × Obj)} {σ : St} {H : Hp} {s : Shared} {a C dx : Addr} {fs : List (Str × V)} {f : Str} {v : V} {A : Around} {E : Value -> Shared -> Prop}
theorem z9E {b : Bool} {Q : Value -> Shared -> Prop} (I : Inv X pins σ H s) (e : H a = some (.ins C dx fs)) (c : Cls X.K C) (n : z2h X.K C f) (l : fs.lookup f = some v)
  (h : ∀ u s', Inv X pins σ H s' -> RelV v u -> Q u s') : wpAny (model X.prog X.w) A (getAttr (.ref a) f b) Q E s := by
 obtain ⟨mA, O, r, _, _, _⟩ := z6V I.hok e
 obtain ⟨u, hu, ru⟩ := RelO.some_of (v := v) (o := mA f) (by rw [<- l]; exact r f)
 exact y31 I.kIn O (c.get f) c.hd n hu (y0w ru) (h u _ (I.tok _) ru)
theorem z2I {m : Str} {g : Addr} {pl : Sem Bool} {Q : Value × List Value -> Shared -> Prop} (I : Inv X pins σ H s) (e : H a = some (.ins C dx fs)) (c : Cls X.K C) (k : Meth X.K C m g) (l : fs.lookup m = none)
  (h : Q (.ref g, [.ref a]) s) : wpAny (model X.prog X.w) A (getMethod (.ref a) m pl) Q E s := by
 obtain ⟨mA, O, r, _, _, _⟩ := z6V I.hok e
 have hn : mA m = none := RelO.none_of (by rw [<- l]; exact r m)
 exact y2l I.kIn O (c.get m) k.at_ k.fn hn h
theorem z9Y {y : V} {u : Value} {Q : Unit -> Shared -> Prop} (I : Inv X pins σ H s) (e : H a = some (.ins C dx fs)) (c : Cls X.K C) (n : z2h X.K C f) (hl : fs.length < 1000) (ry : RelV y u)
  (h : ∀ s', Inv X pins σ (upd H a (.ins C dx (putF f y fs))) s' -> Q () s') : wpAny (model X.prog X.w) A (setAttr (.ref a) f u) Q E s := by
 obtain ⟨mA, O, r, wi, _, ho⟩ := z6V I.hok e
 have hz : (fs.map (·.1)).length ≤ sizeLine := by rw [List.length_map, sizeLine_eq]; omega
 refine y3C I.kIn O c.sa c.po n.taker c.hd wi hz fun h' O' sb => h _ ?_
 have hd : ∃ o, h'.get? dx = some o := let ⟨o, _, _, e', _⟩ := O'.ns; ⟨o, e'⟩
 refine I.write (x := a) (e := dx) (by rw [e]; exact True.intro) (.inr ho) (fun b q hb z => (sb.2 b hb).trans z) hd ?_
 refine ⟨by rw [z0b O.ne]; exact ho, ?_, O.ne, O'.obj, _, O'.ns, fun g => ?_, fun g hg => ?_⟩
 ·have := z1h f y fs; omega
 ·show RelO ((putF f y fs).lookup g) (if g = f then some u else mA g)
  rw [z0e]
  by_cases q : g = f
  ·rw [if_pos q, if_pos q]; exact ry
  ·rw [if_neg q, if_neg q]; exact r g
 ·by_cases q : g = f
  ·rw [q]; exact (z5X f y fs).1
  ·refine (z5X f y fs).2 g (wi g fun z => hg ?_)
   show (if g = f then some u else mA g) = none
   rw [if_neg q]; exact z
theorem Inv.made (I : Inv X pins σ H s) : Inv X pins σ (upd (upd H s.heap.objs.size (.own (s.heap.objs.size + 1))) (s.heap.objs.size + 1) (.ins C s.heap.objs.size []))
  { s with heap := (s.heap.push PySem.W.emptyDict).push (PySem.W.instObj C s.heap.objs.size) } := by
 have e1 : (s.heap.push PySem.W.emptyDict).get? s.heap.objs.size = some PySem.W.emptyDict := Heap.get?_push_size s.heap rfl
 have e2 : ((s.heap.push PySem.W.emptyDict).push (PySem.W.instObj C s.heap.objs.size)).get? (s.heap.objs.size + 1) = some (PySem.W.instObj C s.heap.objs.size) := by
  have := Heap.get?_push_size (s.heap.push PySem.W.emptyDict) (o := PySem.W.instObj C s.heap.objs.size) rfl
  rwa [Heap.size_push] at this
 have e3 : (s.heap.push PySem.W.emptyDict).Ns s.heap.objs.size (fun _ => none) := ⟨PySem.W.emptyDict, #[], _, e1, rfl, (fun e he => absurd he (by simp)), fun _ => rfl⟩
 have I1 := I.laid (a := s.heap.objs.size) (o := .own (s.heap.objs.size + 1)) (h' := s.heap.push PySem.W.emptyDict) (t' := s.toks) (fun b u q => Heap.get?_push_of_some _ q) (Nat.le_refl _) ⟨_, e1⟩
 refine I1.laid (a := s.heap.objs.size + 1) (o := .ins C s.heap.objs.size []) (t' := s.toks) (fun b u q => Heap.get?_push_of_some _ q) (Nat.le_of_eq (Heap.size_push _ _)) ?_
 have ne : s.heap.objs.size ≠ s.heap.objs.size + 1 := Nat.ne_of_lt (Nat.lt_succ_self _)
 refine ⟨by rw [z0b ne, z03], Nat.zero_le _, ne, e2, fun _ => none, (Heap.Ns1.of_empty e3).at fun o q => Heap.get?_push_of_some _ q, fun _ => True.intro, fun y hy => absurd rfl hy⟩
theorem y3t {prog : Program} {w : World} {env : Env} {e : Expr} {f : Str} {pos : Pos} {s : Shared} {Q : Value -> Shared -> Prop} (hb : attributeBase e f env (eval e env) = eval e env)
  (h : wpAny (model prog w) A (eval e env) (fun o s₁ => wpAny (model prog w) A (getAttr o f true) Q E s₁) E s) : wpAny (model prog w) A (eval (.Attribute e f pos) env) Q E s :=
 Attribute_any_ h (by rw [arm_eval_Attribute, hb])
end
def tFld (K : PySem.W.Frag) (ta : TE) (f : Str) : TE := fun σ H Q => ta σ H fun x H1 => ∃ a C dx fs v, x = .ref a /\ H1 a = some (.ins C dx fs) /\ Cls K C /\ z2h K C f /\ fs.lookup f = some v /\ Q v H1
def sFld (K : PySem.W.Frag) (ta tv : TE) (f : Str) : TS := fun D σ H => tv σ H fun y H1 => ta σ H1 fun x H2 => ∃ a C dx fs, x = .ref a /\ H2 a = some (.ins C dx fs) /\ Cls K C /\ z2h K C f /\ fs.length < 1000 /\
 D.nx σ (upd H2 a (.ins C dx (putF f y fs)))
section
variable {X : Cx} {o e value : Expr} {f : Str} {pos pos' tpos : Pos} {ta tv : TE}
theorem z0s (he : PE X e ta) (hb : attributeBase e f X.env (eval e X.env) = eval e X.env) : PE X (.Attribute e f pos) (tFld X.K ta f) := by
 intro pins s σ H Q I h
 refine y3t hb (thn (he pins s σ H _ I h) fun u s1 hz => ?_)
 obtain ⟨x, H1, I1, rx, a, C, dx, fs, v, ex, ea, c, n, l, q⟩ := hz
 subst ex
 obtain rfl : u = Value.ref a := rx
 exact z9E I1 ea c n l fun u' s2 I2 ru => ⟨v, H1, I2, ru, q⟩
theorem z4t (ha : PE X o ta) (hv : PE X value tv) (hs : swapsWith value (some (.Attribute o f pos')) pos.line X.env = pure false) : PS X (.Assign [.Attribute o f pos'] value pos) (sFld X.K ta tv f) := by
 intro pins s σ H D I h
 refine plainObj_wpAny_Assign_Attribute (thn (hv pins s σ H _ I h) fun u s1 ⟨y, H1, I1, ry, q⟩ => thn (ha pins s1 σ H1 _ I1 q) fun ov s2 hz => ?_) hs
 obtain ⟨x, H2, I2, rx, a, C, dx, fs, ex, ea, c, n, l, q2⟩ := hz
 subst ex
 obtain rfl : ov = Value.ref a := rx
 exact z9Y I2 ea c n l ry fun s3 I3 => ⟨σ, _, I3, q2⟩
theorem y3E {pl : Sem Bool} {m : Str} {apos : Pos} {args : List Expr} {pins : List (Addr × Obj)} {s : Shared} {σ : St} {H : Hp} {Q : Value -> Shared -> Prop} {te : TE} (he : PE X e te) (I : Inv X pins σ H s)
  (h : te σ H fun x H1 => ∃ a C dx fs g, x = .ref a /\ H1 a = some (.ins C dx fs) /\ Cls X.K C /\ Meth X.K C m g /\ fs.lookup m = none /\
   ∀ s1, Inv X pins σ H1 s1 -> wpAny (model X.prog X.w) X.A (callWith pos (.ref g) [.ref a] (backTo pos (starEach args X.env)) (backToKw pos (keywordEach [] X.env))) Q X.xe s1)
  (ht : eval (.Call (.Attribute e m apos) args [] pos) X.env = (do
   let ov <- eval e X.env
   standAt apos.atName
   let (f, first) <- holding [ov] (getMethod ov m pl)
   callWith pos f first (backTo pos (starEach args X.env)) (backToKw pos (keywordEach [] X.env)))) :
  wpAny (model X.prog X.w) X.A (eval (.Call (.Attribute e m apos) args [] pos) X.env) Q X.xe s := by
 refine PySem.W.methodCall_KW (pl := pl) (thn (he pins s σ H _ I h) fun u s1 hz => ?_) ht
 obtain ⟨x, H1, I1, rx, a, C, dx, fs, g, ex, ea, c, k, l, q⟩ := hz
 subst ex
 obtain rfl : u = Value.ref a := rx
 exact z2I I1 ea c k l (q s1 I1)
end
section
variable {X : Cx} {pins : List (Addr × Obj)} {σ : St} {H : Hp} {s : Shared} {A : Around} {E : Value -> Shared -> Prop} {Q : Value -> Shared -> Prop} {c : Value} {b : Bool}
inductive TyOf (K : PySem.W.Frag) (H : Hp) : V -> Value -> Prop where
 | non : TyOf K H .non (.type "NoneType")
 | bl (x : Bool) : TyOf K H (.bl x) (.type "bool")
 | int (i : Int) : TyOf K H (.int i) (.type "int")
 | str (x : Str) : TyOf K H (.str x) (.type "str")
 | flt (x : UInt64) : TyOf K H (.flt x) (.type "float")
 | lst {a : Addr} {xs : List V} (e : H a = some (.lst xs)) : TyOf K H (.ref a) (.type "list")
 | frz {a : Addr} {o : Obj} {xs : List V} (e : H a = some (.frz o (.lst xs))) : TyOf K H (.ref a) (.type "list")
 | tup {a : Addr} {xs : List V} (e : H a = some (.tup xs)) : TyOf K H (.ref a) (.type "tuple")
 | dK {a : Addr} {kvs : List (Key × V)} (e : H a = some (.dK kvs)) : TyOf K H (.ref a) (.type "dict")
 | dT {a : Addr} {kvs : List (List Key × V)} (e : H a = some (.dT kvs)) : TyOf K H (.ref a) (.type "dict")
 | ins {a C dx : Addr} {fs : List (Str × V)} (e : H a = some (.ins C dx fs)) (cl : Cls K C) (ha : PySem.W.findIn K (.ref C) "__class__" = some (some (.builtin "object.__class__")))
   (hn : PySem.W.specialIn K (.builtin "object.__class__") "__get__" = some (some (.builtin "getset_descriptor.__get__"))) (htk : PySem.W.takesIn K (.builtin "object.__class__") = some true)
   (hm : PySem.W.mroIn K C (.type "object") = some true) : TyOf K H (.ref a) (.ref C)
theorem y00 {x : V} {u t : Value} (I : Inv X pins σ H s) (rx : RelV x u) (ty : TyOf X.K H x t) (e : PySem.W.kitOne X.K t c = some b) (h : ∀ tk, Q (.bool b) { s with toks := tk }) :
  wpAny (model X.prog X.w) A (call (.builtin "isinstance") [u, c]) Q E s := by
 cases ty with
 | non => cases (show u = Value.none from rx); exact PySem.W.kia_one PySem.W.kitx_none I.kIn True.intro e (fun z => nomatch z) h
 | bl y => cases (show u = Value.bool y from rx); exact PySem.W.kia_one PySem.W.kitx_bool I.kIn True.intro e (fun z => nomatch z) h
 | int i => obtain ⟨t, q⟩ := (show ∃ t, u = Value.int i t from rx); cases q; exact PySem.W.kia_one PySem.W.kitx_int I.kIn True.intro e (fun z => nomatch z) h
 | str y => obtain ⟨t, q⟩ := (show ∃ t, u = Value.str y t from rx); cases q; exact PySem.W.kia_one PySem.W.kitx_str I.kIn True.intro e (fun z => nomatch z) h
 | flt y => obtain ⟨t, q⟩ := (show ∃ t, u = Value.float y t from rx); cases q; exact PySem.W.kia_one PySem.W.kitx_float I.kIn True.intro e (fun z => nomatch z) h
 | @lst a xs ea =>
  cases (show u = Value.ref a from rx)
  obtain ⟨_, _, n, _, h1⟩ := (show z16 X.prog X.w H s.heap a (.lst xs) from I.hok a _ ea)
  exact PySem.W.kia_one PySem.W.kitx_list I.kIn ⟨_, h1, rfl⟩ e (fun z => nomatch z) h
 | @frz a ob xs ea =>
  cases (show u = Value.ref a from rx)
  obtain ⟨_, _, _, n, _, h1⟩ := (show z16 X.prog X.w H s.heap a (.frz ob (.lst xs)) from I.hok a _ ea)
  exact PySem.W.kia_one PySem.W.kitx_list I.kIn ⟨_, h1, rfl⟩ e (fun z => nomatch z) h
 | @tup a xs ea =>
  cases (show u = Value.ref a from rx)
  obtain ⟨_, _, _, p⟩ := (show z16 X.prog X.w H s.heap a (.tup xs) from I.hok a _ ea)
  obtain ⟨o, h1, h2, _⟩ := p
  exact PySem.W.kia_one PySem.W.kitx_tuple I.kIn ⟨o, h1, h2⟩ e (fun z => nomatch z) h
 | @dK a kvs ea =>
  cases (show u = Value.ref a from rx)
  obtain ⟨_, _, vs, _, p⟩ := (show z16 X.prog X.w H s.heap a (.dK kvs) from I.hok a _ ea)
  obtain ⟨o, es, ep, h1, h2, _⟩ := p
  exact PySem.W.kia_one PySem.W.kitx_dict I.kIn ⟨o, h1, h2.1⟩ e (fun z => nomatch z) h
 | @dT a kvs ea =>
  cases (show u = Value.ref a from rx)
  obtain ⟨_, _, xs, _, o, es, ep, h1, h2, _⟩ := (show z16 X.prog X.w H s.heap a (.dT kvs) from I.hok a _ ea)
  exact PySem.W.kia_one PySem.W.kitx_dict I.kIn ⟨o, h1, h2.1⟩ e (fun z => nomatch z) h
 | @ins a C dx fs ea cl ha hn htk hm =>
  cases (show u = Value.ref a from rx)
  obtain ⟨mA, O, _⟩ := z6V I.hok ea
  obtain ⟨od, J, _⟩ := O.look
  exact PySem.W.kia_one (PySem.W.kitx_own (cl.get _) cl.hd ha hn htk hm) I.kIn J e (fun z => nomatch z) h
end
structure Room (k : Nat) (A : Around) : Prop where
 hd : A.handled = none
 dp : A.depth + 3 * k + 5 < recursionLimit
 un : A.units + 16 * k + 200 < cLine
theorem Room.mono {j k : Nat} {A : Around} (r : Room k A) (h : j ≤ k) : Room j A := ⟨r.hd, by have := r.dp; omega, by have := r.un; omega⟩
theorem Room.deeper {k : Nat} {A : Around} (r : Room (k + 1) A) (env : Env) : Room k (A.deeper env) :=
 ⟨r.hd, by have := r.dp; show A.depth + 1 + 3 * k + 5 < _; omega, by have := r.un; show A.units + 3 + 16 * k + 200 < _; omega⟩
theorem z9T {A : Around} {C : Addr} {us : List Value} {kw : List (Str × Value)} : (A.under (.builtin "type.__call__" ⟨.ref C :: us, kw⟩)).depth = A.depth + 1 := by
 first | rfl | simp [Around.under, Code.weight, Code.isCreation, Code.isGuard, Code.isCaller, Code.frames, Code.isFrame, guardIds]
theorem z9N {A : Around} {C : Addr} {us : List Value} {kw : List (Str × Value)} : (A.under (.builtin "type.__call__" ⟨.ref C :: us, kw⟩)).units = A.units + 1 := by
 first | rfl | simp [Around.under, Code.cUnits, Code.frames, Code.isFrame]
theorem Room.make {k : Nat} {A : Around} (r : Room (k + 1) A) (C : Addr) (us : List Value) (kw : List (Str × Value)) : Room k (A.under (.builtin "type.__call__" ⟨.ref C :: us, kw⟩)) :=
 ⟨r.hd, by have := r.dp; rw [z9T]; omega, by have := r.un; rw [z9N]; omega⟩
theorem Room.depth {k : Nat} {A : Around} (r : Room k A) : A.depth < recursionLimit := by have := r.dp; omega
theorem Room.units {k : Nat} {A : Around} (r : Room k A) : A.units + 64 < cLine := by have := r.un; omega
theorem Room.units0 {k : Nat} {A : Around} (r : Room k A) : A.units < cLine := by have := r.un; omega
def tNil : TA := fun _ H Q => Q [] H
def y3L (ta : TE) (tr : TA) : TA := fun σ H Q => ta σ H fun x H1 => tr σ H1 fun xs H2 => Q (x :: xs) H2
section
variable {X : Cx} {e : Expr} {es : List Expr} {te : TE} {t : TA} {pos : Pos}
theorem z01 : PA X [] tNil := fun _ _ _ _ H Q I h => Calls.spliced_nil ⟨[], H, I, .nil, h⟩
theorem z00 (ha : PE X e te) (hr : PA X es t) (hs : starEach (e :: es) X.env = (false, eval e X.env) :: starEach es X.env := by rfl) : PA X (e :: es) (y3L te t) := by
 intro pos pins s σ H Q I h
 rw [hs]
 show wpAny _ _ (spliced ((false, eval e X.env) :: backTo pos (starEach es X.env))) _ _ s
 refine Calls.spliced_cons (thn (ha pins s σ H _ I h) fun u s1 hz => ?_)
 obtain ⟨x, H1, I1, r1, q1⟩ := hz
 exact thn (hr pos pins s1 σ H1 _ I1 q1) fun us s2 ⟨xs, H2, I2, r2, q2⟩ => ⟨x :: xs, H2, I2, .cons r1 r2, q2⟩
def tTup (t : TA) : TE := fun σ H Q => t σ H fun xs H1 => xs.length ≤ sizeLine /\ ∀ p, H1 p = none -> Q (.ref p) (upd H1 p (.tup xs))
def tLst (t : TA) : TE := fun σ H Q => t σ H fun xs H1 => xs.length ≤ sizeLine /\ ∀ p, H1 p = none -> Q (.ref p) (upd H1 p (.lst xs))
theorem z1o {x1} (h : PA X es t) : PE X (.Tuple es x1 pos) (tTup t) := by
 intro pins s σ H Q I hq
 refine wpAny_Tuple_spliced (thn (h pos pins s σ H _ I hq) fun us s1 ⟨xs, H1, I1, r, z, q⟩ => ⟨by rw [<- r.length]; exact z, ?_⟩)
 have hf : H1 s1.heap.objs.size = none := I1.hok.fresh (Nat.le_refl _)
 refine ⟨.ref s1.heap.objs.size, upd H1 s1.heap.objs.size (.tup xs), I1.laid (t' := s1.toks) (fun b u e => Heap.get?_push_of_some _ e) (Nat.le_refl _) ?_, rfl, q _ hf⟩
 exact ⟨z, us, r, ⟨_, Heap.get?_push_size _ rfl, rfl, ⟨_, rfl⟩, rfl⟩⟩
theorem z0R (h : PA X es t) : PE X (.List es pos) (tLst t) := by
 intro pins s σ H Q I hq
 refine wpAny_List_spliced (thn (h pos pins s σ H _ I hq) fun us s1 ⟨xs, H1, I1, r, z, q⟩ => ⟨by rw [<- r.length]; exact z, ?_⟩)
 have hf : H1 s1.heap.objs.size = none := I1.hok.fresh (Nat.le_refl _)
 refine ⟨.ref s1.heap.objs.size, upd H1 s1.heap.objs.size (.lst xs), I1.laid (t' := s1.toks) (fun b u e => Heap.get?_push_of_some _ e) (Nat.le_refl _) ?_, rfl, q _ hf⟩
 exact ⟨z, us, 0, r, Heap.get?_push_size _ rfl⟩
end
abbrev Sp := List V -> Hp -> VK -> XK -> Prop
abbrev CXT := List Env -> Hp -> Shared -> XK -> Value -> Shared -> Prop
structure Env0 (P : Program) (w : World) (K : PySem.W.Frag) (mg : Str -> Option Value) (base : Heap) (A : Around) (outer : List Env) (s : Shared) (H : Hp) : Prop where
 frames : A.frames = some outer
 mod : Mod K mg base
 bs : ∀ b o, base.get? b = some o -> s.heap.get? b = some o /\ H b = none
 bsz : base.objs.size ≤ s.heap.objs.size
 funs : s.heap.FunFrames base outer
 frf : ∀ b ∈ frs outer, H b = none
 hok : HOk P w H s.heap
 bare : AllBare s.gens
def CE (outer : List Env) (P : Program) (w : World) (H : Hp) (s : Shared) (Q : VK) (u : Value) (s' : Shared) : Prop :=
 ∃ v H', s'.os = s.os /\ AllBare s'.gens /\ Un (frs outer) [] H H' s.heap s'.heap /\ HOk P w H' s'.heap /\ RelV v u /\ Q v H'
def CR (CX : CXT) (outer : List Env) (P : Program) (w : World) (H : Hp) (s : Shared) (Q : VK) (E : XK) (r : Result) (s' : Shared) : Prop :=
 match r with
 | .ok (.ret u) => CE outer P w H s Q u s'
 | .ok _ => False
 | .error e => CX outer H s E e s'
structure FnOk (P : Program) (w : World) (K : PySem.W.Frag) (mg : Str -> Option Value) (base : Heap) (CX : CXT) (k : Nat) (f : Addr) (fd : FuncData) (ps : List Str) (sp : Sp) : Prop where
 len : ∀ vs H Q E, sp vs H Q E -> vs.length = ps.length
 run : ∀ (A : Around) (outer : List Env) (s : Shared) (H : Hp) (args : Args) (us : List Value) (vs : List V) (Q : VK) (E : XK), Room k A -> Env0 P w K mg base A outer s H -> BindsTo s fd args (ps.zip us) -> Vals vs us -> sp vs H Q E ->
  codeAny (model P w) A (.call (.ref f) args) (CR CX outer P w H s Q E) s
theorem FnOk.mono {P : Program} {w : World} {K : PySem.W.Frag} {mg : Str -> Option Value} {base : Heap} {CX : CXT} {j k : Nat} {f : Addr} {fd : FuncData} {ps : List Str} {sp : Sp} (F : FnOk P w K mg base CX j f fd ps sp) (h : j ≤ k) :
  FnOk P w K mg base CX k f fd ps sp := ⟨F.len, fun A outer s H args us vs Q E hr => F.run A outer s H args us vs Q E (hr.mono h)⟩
theorem Env0.make {P : Program} {w : World} {K : PySem.W.Frag} {mg : Str -> Option Value} {base : Heap} {A : Around} {outer : List Env} {s : Shared} {H : Hp} (e : Env0 P w K mg base A outer s H) (C : Addr) (us : List Value) (kw : List (Str × Value)) :
  Env0 P w K mg base (A.under (.builtin "type.__call__" ⟨.ref C :: us, kw⟩)) outer s H := ⟨by first | exact e.frames | (simpa [Around.under, Code.envs, Code.isFrame, pushEnvs] using e.frames), e.mod, e.bs, e.bsz, e.funs, e.frf, e.hok, e.bare⟩
section
variable {X : Cx} {pins : List (Addr × Obj)} {σ : St} {H : Hp} {s s' : Shared}
theorem Inv.env0 (I : Inv X pins σ H s) : Env0 X.prog X.w X.K X.mg X.base X.A X.stack s H :=
 ⟨I.ok.frames, I.ok.mod, I.bs, Nat.le_trans I.ok.bsz I.sz, I.stack, I.stkFree, I.hok, I.bare⟩
theorem Inv.after {Q : VK} {u : Value} (I : Inv X pins σ H s) (h : CE X.stack X.prog X.w H s Q u s') : EP X pins σ Q u s' := by
 obtain ⟨v, H', os, bare, un, hok, r, q⟩ := h
 obtain ⟨hh, g, d, t, os'⟩ := s'
 obtain rfl : os' = s.os := os
 exact ⟨v, H', I.call (h' := hh) (g' := g) (d' := d) (t' := t) (ch := []) un hok bare (fun b z => absurd z (by simp)), r, q⟩
end
def y4p (sp : Sp) (dvs : List V) (E : XK) (t : TA) : TE := fun σ H Q => t σ H fun vs H1 => sp (vs ++ dvs) H1 Q E
def y0B (C : Addr) (m : Str) (sp : Sp) (dvs : List V) (E : XK) (ta : TE) (t : TA) : TE := fun σ H Q => ta σ H fun x H1 => ∃ a dx fs, x = .ref a /\ H1 a = some (.ins C dx fs) /\ fs.lookup m = none /\
 t σ H1 fun vs H2 => sp (x :: (vs ++ dvs)) H2 Q E
def y4E (C : Addr) (sp : Sp) (dvs : List V) (E : XK) (t : TA) : TE := fun σ H Q => t σ H fun vs H1 => ∀ x dx, H1 x = none -> H1 dx = none -> dx ≠ x ->
 sp (.ref x :: (vs ++ dvs)) (upd (upd H1 dx (.own x)) x (.ins C dx [])) (fun v H2 => v = .non /\ Q (.ref x) H2) E
def z1c (K : PySem.W.Frag) (fd : FuncData) (ps : List Str) (ds : List Value) : Prop :=
 ∀ (s : Shared) (us : List Value), K.In s.heap -> (us ++ ds).length = ps.length -> BindsTo s fd ⟨us, []⟩ (ps.zip (us ++ ds))
theorem z1c.all {K : PySem.W.Frag} {fd : FuncData} {ps : List Str} (h : ∀ us : List Value, us.length = ps.length -> bindArgs fd ⟨us, []⟩ = pure (ps.zip us)) : z1c K fd ps [] := fun s us _ hl => by
 rw [List.append_nil] at hl ⊢
 exact .of_eq (h us hl)
def z55 (CX : CXT) (X : Cx) (E : XK) : Prop := ∀ (pins : List (Addr × Obj)) (σ : St) (H : Hp) (s : Shared) (e : Value) (s' : Shared), Inv X pins σ H s -> CX X.stack H s E e s' -> X.xe e s'
section
variable {X : Cx} {CX : CXT} {k : Nat} {f C : Addr} {fd : FuncData} {ps : List Str} {sp : Sp} {dvs : List V} {ds : List Value} {E : XK} {x m : Str} {p pos apos : Pos} {e o : Expr} {es : List Expr} {ta : TE} {t : TA}
theorem y1e {pins : List (Addr × Obj)} {σ : St} {H : Hp} {s : Shared} {Q : VK} {us : List Value} {vs : List V} (F : FnOk X.prog X.w X.K X.mg X.base CX k f fd ps sp) (hr : Room k X.A) (hb : z1c X.K fd ps ds) (hd : Vals dvs ds) (hx : z55 CX X E)
  (I : Inv X pins σ H s) (r : Vals vs us) (h : sp (vs ++ dvs) H Q E) : wpAny (model X.prog X.w) X.A (call (.ref f) us) (EP X pins σ Q) X.xe s := by
 have r2 : Vals (vs ++ dvs) (us ++ ds) := r.append hd
 have hl : (us ++ ds).length = ps.length := by rw [<- r2.length]; exact F.len _ _ _ _ h
 refine wpAny_call (codeAny_mono (F.run X.A X.stack s H ⟨us, []⟩ (us ++ ds) (vs ++ dvs) Q E hr I.env0 (hb s us I.kIn hl) r2 h) fun r s' hq => ?_)
 cases r with
 | error e => exact hx pins σ H s e s' I hq
 | ok fl =>
  cases fl with
  | ret u => exact I.after hq
  | next => exact False.elim hq
  | brk => exact False.elim hq
  | cont => exact False.elim hq
theorem y3n (F : FnOk X.prog X.w X.K X.mg X.base CX k f fd ps sp) (hr : Room k X.A) (hg : Gl X x) (hm : X.mg x = some (.ref f)) (hk : PySem.W.keepIn X.K (.ref f) = true) (hb : z1c X.K fd ps ds) (hd : Vals dvs ds) (hx : z55 CX X E)
  (ha : PA X (e :: es) t) (hdb : (x == ("__debug__" : Str)) = false := by decide) (he : starEach (e :: es) X.env = (false, eval e X.env) :: starEach es X.env := by rfl) (hpl : (backTo pos (starEach es X.env)).any (·.1) = false := by rfl) :
  PE X (.Call (.Name x p) (e :: es) [] pos) (y4p sp dvs E t) := by
 intro pins s σ H Q I h
 refine wpAny_Call_Name_kw (z3Y I hg hm ?_ hdb)
 refine PySem.W.callWith_K (h₀ := X.base) I.ok.mod.kin hk (thn (ha pos pins s σ H _ I h) fun us s1 ⟨vs, H1, I1, r, q⟩ => ⟨I1.kIn, ?_⟩) he hpl
 exact y1e F hr hb hd hx I1 r q
theorem y04 {pl : Sem Bool} (he : PE X o ta) (c : Cls X.K C) (hm : Meth X.K C m f) (F : FnOk X.prog X.w X.K X.mg X.base CX k f fd ps sp) (hr : Room k X.A) (hb : z1c X.K fd ps ds) (hd : Vals dvs ds) (hx : z55 CX X E) (ha : PA X (e :: es) t)
  (hst : starEach (e :: es) X.env = (false, eval e X.env) :: starEach es X.env := by rfl) (hpl : (backTo pos (starEach es X.env)).any (·.1) = false := by rfl)
  (ht : eval (.Call (.Attribute o m apos) (e :: es) [] pos) X.env = (do
   let ov <- eval o X.env
   standAt apos.atName
   let (f, first) <- holding [ov] (getMethod ov m pl)
   callWith pos f first (backTo pos (starEach (e :: es) X.env)) (backToKw pos (keywordEach [] X.env))) := by rfl) :
  PE X (.Call (.Attribute o m apos) (e :: es) [] pos) (y0B C m sp dvs E ta t) := by
 intro pins s σ H Q I h
 refine PySem.W.methodCall_KW (pl := pl) (thn (he pins s σ H _ I h) fun u s1 hz => ?_) ht
 obtain ⟨x, H1, I1, rx, a, dx, fs, ex, ea, l, q⟩ := hz
 subst ex
 obtain rfl : u = Value.ref a := rx
 refine z2I I1 ea c hm l ?_
 refine PySem.W.callWith_K (first := [.ref a]) (h₀ := X.base) I.ok.mod.kin hm.kp (thn (ha pos pins s1 σ H1 _ I1 q) fun us s2 ⟨vs, H2, I2, r, q2⟩ => ⟨I2.kIn, ?_⟩) hst hpl
 exact y1e (us := .ref a :: us) (vs := .ref a :: vs) F hr hb hd hx I2 (.cons rfl r) q2
theorem y2r {pl : Sem Bool} (he : PE X o ta) (c : Cls X.K C) (hm : Meth X.K C m f) (F : FnOk X.prog X.w X.K X.mg X.base CX k f fd ps sp) (hr : Room k X.A) (hb : z1c X.K fd ps ds) (hd : Vals dvs ds) (hx : z55 CX X E)
  (ht : eval (.Call (.Attribute o m apos) [] [] pos) X.env = (do
   let ov <- eval o X.env
   standAt apos.atName
   let (f, first) <- holding [ov] (getMethod ov m pl)
   callWith pos f first (backTo pos (starEach [] X.env)) (backToKw pos (keywordEach [] X.env))) := by rfl) :
  PE X (.Call (.Attribute o m apos) [] [] pos) (y0B C m sp dvs E ta tNil) := by
 intro pins s σ H Q I h
 refine PySem.W.methodCall_KW (pl := pl) (thn (he pins s σ H _ I h) fun u s1 hz => ?_) ht
 obtain ⟨x, H1, I1, rx, a, dx, fs, ex, ea, l, q⟩ := hz
 subst ex
 obtain rfl : u = Value.ref a := rx
 refine z2I I1 ea c hm l ?_
 exact PySem.W.callWith_K0 (first := [.ref a]) I1.kIn hm.kp (y1e (us := [.ref a]) (vs := [.ref a]) F hr hb hd hx I1 (.cons rfl .nil) q)
structure Mk (K : PySem.W.Frag) (C f : Addr) : Prop where
 makes : PySem.W.makesIn K C = true
 init : PySem.W.findIn K (.ref C) "__init__" = some (some (.ref f))
 fn : PySem.W.isFn K (.ref f) = true
 kp : PySem.W.keepIn K (.ref C) = true
theorem y1D {pins : List (Addr × Obj)} {σ : St} {H : Hp} {s : Shared} {Q : VK} {us : List Value} {vs : List V} (M : Mk X.K C f) (F : FnOk X.prog X.w X.K X.mg X.base CX k f fd ps sp) (hr : Room (k + 1) X.A) (hb : z1c X.K fd ps ds) (hd : Vals dvs ds)
  (hx : z55 CX X E) (I : Inv X pins σ H s) (r : Vals vs us)
  (h : ∀ x dx, H x = none -> H dx = none -> dx ≠ x -> sp (.ref x :: (vs ++ dvs)) (upd (upd H dx (.own x)) x (.ins C dx [])) (fun v H2 => v = .non /\ Q (.ref x) H2) E) :
  wpAny (model X.prog X.w) X.A (call (.ref C) us) (EP X pins σ Q) X.xe s := by
 have hq := h (s.heap.objs.size + 1) s.heap.objs.size (I.hok.fresh (Nat.le_succ _)) (I.hok.fresh (Nat.le_refl _)) (Nat.ne_of_lt (Nat.lt_succ_self _))
 have I2 := Inv.made (C := C) I
 have r2 : Vals (V.ref (s.heap.objs.size + 1) :: (vs ++ dvs)) (Value.ref (s.heap.objs.size + 1) :: (us ++ ds)) := .cons rfl (r.append hd)
 have hl : (Value.ref (s.heap.objs.size + 1) :: us ++ ds).length = ps.length := by
  have e := r2.length
  rw [F.len _ _ _ _ hq] at e
  exact e.symm
 refine wpAny_call (y1K (f := f) I.kIn M.makes M.init (beq_iff_eq.mp M.fn) (codeAny_mono (F.run _ X.stack _ _ ⟨Value.ref (s.heap.objs.size + 1) :: us, []⟩ (Value.ref (s.heap.objs.size + 1) :: (us ++ ds)) _ _ E (hr.make C us [])
  (I2.env0.make C us []) (hb _ (Value.ref (s.heap.objs.size + 1) :: us) I2.kIn hl) r2 hq) fun r s' hq' => ?_))
 cases r with
 | error e => exact hx pins σ _ _ e s' I2 hq'
 | ok fl =>
  cases fl with
  | ret u =>
   obtain ⟨v, H', I3, rv, ev, q3⟩ := I2.after hq'
   subst ev
   exact ⟨rv, ⟨V.ref (s.heap.objs.size + 1), H', I3, rfl, q3⟩⟩
  | next => exact False.elim hq'
  | brk => exact False.elim hq'
  | cont => exact False.elim hq'
theorem y3v (M : Mk X.K C f) (F : FnOk X.prog X.w X.K X.mg X.base CX k f fd ps sp) (hr : Room (k + 1) X.A) (hg : Gl X x) (hm : X.mg x = some (.ref C)) (hb : z1c X.K fd ps ds) (hd : Vals dvs ds) (hx : z55 CX X E)
  (ha : PA X (e :: es) t) (hdb : (x == ("__debug__" : Str)) = false := by decide) (he : starEach (e :: es) X.env = (false, eval e X.env) :: starEach es X.env := by rfl) (hpl : (backTo pos (starEach es X.env)).any (·.1) = false := by rfl) :
  PE X (.Call (.Name x p) (e :: es) [] pos) (y4E C sp dvs E t) := by
 intro pins s σ H Q I h
 refine wpAny_Call_Name_kw (z3Y I hg hm ?_ hdb)
 refine PySem.W.callWith_K (h₀ := X.base) I.ok.mod.kin M.kp (thn (ha pos pins s σ H _ I h) fun us s1 ⟨vs, H1, I1, r, q⟩ => ⟨I1.kIn, ?_⟩) he hpl
 exact y1D M F hr hb hd hx I1 r q
end
def PK (X : Cx) (kws : List Keyword) (t : TA) : Prop :=
 ∀ (pos : Pos) (pins : List (Addr × Obj)) (s : Shared) (σ : St) (H : Hp) (Q : List V -> Hp -> Prop), Inv X pins σ H s -> t σ H Q -> wpAny (model X.prog X.w) X.A (evalAll ((backToKw pos (keywordEach kws X.env)).map (·.2))) (AP X pins σ Q) X.xe s
section
variable {X : Cx} {CX : CXT} {k : Nat} {f C : Addr} {fd : FuncData} {ps ks : List Str} {sp : Sp} {E : XK} {x m : Str} {p pos apos kpos : Pos} {e o : Expr} {es : List Expr} {kws : List Keyword} {te ta : TE} {t tk : TA} {nm : Option Str}
theorem y3Y : PK X [] tNil := fun _ _ _ _ H Q I h => wpAny_evalAll_nil ⟨[], H, I, .nil, h⟩
theorem y3k (ha : PE X e te) (hr : PK X kws t) : PK X (⟨nm, e, kpos⟩ :: kws) (y3L te t) := by
 intro pos pins s σ H Q I h
 show wpAny _ _ (evalAll ((do let v <- eval e X.env; standAt pos; pure v) :: (backToKw pos (keywordEach kws X.env)).map (·.2))) _ _ s
 refine wpAny_evalAll_cons (wpAny_bind (thn (ha pins s σ H _ I h) fun u s1 ⟨x, H1, I1, r1, q1⟩ => wpAny_bind (wpAny_standAt (wpAny_pure ?_))))
 exact thn (hr pos pins s1 σ H1 _ I1 q1) fun us s2 ⟨xs, H2, I2, r2, q2⟩ => ⟨x :: xs, H2, I2, .cons r1 r2, q2⟩
variable {g : List Value -> List Value -> List Value} {gV : List V -> List V -> List V}
end
structure FnScope (N P : List Str) (sc : Scope) : Prop where
 kind : sc.kind = .function
 co : sc.isCoroutine = false
 gen : sc.isGenerator = false
 nd : N.Nodup
 pre : N.take P.length = P
 par : ∀ x ∈ P, sc.names.lookup x = some .local \/ sc.names.lookup x = some .cell
 nofree : ∀ y ∈ sc.names, y.2 ≠ .free
theorem z82 {kindOf : Str -> Option NameKind} {x : Str} : ∀ {binds : List (Str × Value)} {m : Str -> Option Value}, (∀ v, (x, v) ∉ binds) -> bindL kindOf binds m x = m x
 | [], _, _ => rfl
 | (n, v) :: r, m, h => by
  unfold bindL
  rw [z82 fun w hw => h w (List.mem_cons_of_mem _ hw)]
  split
  ·have : x ≠ n := by rintro rfl; exact h v List.mem_cons_self
   simp [this]
  ·rfl
theorem z7W {kindOf : Str -> Option NameKind} {x : Str} : ∀ {binds : List (Str × Value)} {m : Str -> Option Value}, (∀ v, (x, v) ∉ binds) -> bindC kindOf binds m x = m x
 | [], _, _ => rfl
 | (n, v) :: r, m, h => by
  unfold bindC
  rw [z7W fun w hw => h w (List.mem_cons_of_mem _ hw)]
  split
  ·rfl
  ·have : x ≠ n := by rintro rfl; exact h v List.mem_cons_self
   simp [this]
theorem z7M {kindOf : Str -> Option NameKind} {x : Str} {v : Value} : ∀ {P : List Str} {vs : List Value} {i : Nat} {m : Str -> Option Value}, P.Nodup -> P[i]? = some x -> vs[i]? = some v -> kindOf x = some .local ->
  bindL kindOf (P.zip vs) m x = some v
 | [], _, _, _, _, h, _, _ => by simp at h
 | _ :: _, [], _, _, _, _, h, _ => by simp at h
 | p :: P, w :: vs, 0, m, nd, h1, h2, hk => by
  simp at h1 h2; subst h1; subst h2
  show bindL kindOf ((p, w) :: P.zip vs) m p = _
  unfold bindL
  rw [z82 fun v hv => (List.nodup_cons.mp nd).1 (List.of_mem_zip hv).1, if_pos hk]
  simp
 | p :: P, w :: vs, i + 1, m, nd, h1, h2, hk => by
  show bindL kindOf ((p, w) :: P.zip vs) m x = _
  unfold bindL
  exact z7M (i := i) (List.nodup_cons.mp nd).2 (by simpa using h1) (by simpa using h2) hk
theorem z7H {kindOf : Str -> Option NameKind} {x : Str} {v : Value} : ∀ {P : List Str} {vs : List Value} {i : Nat} {m : Str -> Option Value}, P.Nodup -> P[i]? = some x -> vs[i]? = some v -> kindOf x ≠ some .local ->
  bindC kindOf (P.zip vs) m x = some v
 | [], _, _, _, _, h, _, _ => by simp at h
 | _ :: _, [], _, _, _, _, h, _ => by simp at h
 | p :: P, w :: vs, 0, m, nd, h1, h2, hk => by
  simp at h1 h2; subst h1; subst h2
  show bindC kindOf ((p, w) :: P.zip vs) m p = _
  unfold bindC
  rw [z7W fun v hv => (List.nodup_cons.mp nd).1 (List.of_mem_zip hv).1, if_neg hk]
  simp
 | p :: P, w :: vs, i + 1, m, nd, h1, h2, hk => by
  show bindC kindOf ((p, w) :: P.zip vs) m x = _
  unfold bindC
  exact z7H (i := i) (List.nodup_cons.mp nd).2 (by simpa using h1) (by simpa using h2) hk
def z4l (N : List Str) (vs : List V) : St := vs.map some ++ List.replicate (N.length - vs.length) none
def cxOf (CX : CXT) (P : Program) (w : World) (K : PySem.W.Frag) (mg : Str -> Option Value) (base : Heap) (N : List Str) (qual : Str) (scope : Scope) (f : Addr) (cd : Value) (A : Around) (outer : List Env) (s : Shared) (H : Hp) (E : XK) : Cx where
 prog := P
 w := w
 K := K
 mg := mg
 base := base
 A := A.deeper (envOfC qual scope s.heap.objs.size f cd)
 N := N
 s₀ := s
 H₀ := H
 env := envOfC qual scope s.heap.objs.size f cd
 outer := outer
 stack := envOfC qual scope s.heap.objs.size f cd :: outer
 ex := []
 calm := true
 fn := fun _ => true
 pn := []
 xe := fun e s' => wpAny (model P w) (A.deeper (envOfC qual scope s.heap.objs.size f cd)) (leaving (envOfC qual scope s.heap.objs.size f cd) e) (fun _ s'' => CX outer H s E e s'') (fun e' s'' => CX outer H s E e' s'') s'
theorem z9g {sc : Scope} {n : Nat} {x : Str} (h : sc.names.lookup x = some .cell) : ∃ c, (cellsFrom n sc.names []).lookup x = some c := by
 have q := PySem.W.cellsFrom_some sc.names n [] (.inl h)
 exact Option.isSome_iff_exists.mp q
theorem y1f {CX : CXT} {P : Program} {w : World} {K : PySem.W.Frag} {mg : Str -> Option Value} {base : Heap} {N ps : List Str} {qual : Str} {scope : Scope} {f : Addr} {cd : Value} {A : Around} {outer : List Env} {s s1 : Shared} {H : Hp} {E : XK} {us : List Value} {vs : List V}
  (S : FnScope N ps scope) (hd : A.handled = none) (e0 : Env0 P w K mg base A outer s H) (hl : vs.length = ps.length) (r : Vals vs us)
  (x : InCallC s s.heap.objs.size (bindL (envOfC qual scope s.heap.objs.size f cd).kindOf (ps.zip us) fun _ => none) (cellsFrom (s.heap.objs.size + 1) scope.names []) (bindC (envOfC qual scope s.heap.objs.size f cd).kindOf (ps.zip us) fun _ => none) s1) :
  Inv (cxOf CX P w K mg base N qual scope f cd A outer s H E) [] (z4l N vs) H s1 := by
 have hpl : ps.length ≤ N.length := by have := congrArg List.length S.pre; rw [List.length_take] at this; omega
 obtain ⟨h1, tk, rfl, hk⟩ := x.done
 have noA : ∀ b : Addr, b ∉ (cxOf CX P w K mg base N qual scope f cd A outer s H E).ex := fun b z => absurd (show b ∈ ([] : List Addr) from z) (by simp)
 refine ⟨⟨e0.mod, S.kind, rfl, rfl, Nat.le_refl _, fun y z c h1 h2 => ?_, fun y hy => ?_, fun y c _ h => ?_, fun _ => hd, Around.frames_deeper e0.frames, .inr ⟨rfl, rfl⟩, fun b z => absurd z (noA b), e0.bs, e0.bsz, fun b _ _ => noA b, fun b z => absurd z (noA b), e0.funs, e0.frf⟩,
  rfl, e0.bare, Un.kept hk, ⟨_, x.toInCall.ns, fun i y v h1 h2 h3 => ?_⟩, fun y c h => ⟨_, x.cell y c h⟩, e0.hok.fresh (Nat.le_refl _), fun y c h => ?_, fun p hp => absurd (show p ∈ ([] : List (Addr × Obj)) from hp) (by simp), e0.hok.kept hk, ?_⟩
 ·exact name_of_addr x.apart (PySem.mem_of_lookup h1) (PySem.mem_of_lookup h2)
 ·have hy : scope.names.lookup y = some .cell \/ scope.names.lookup y = some .free := hy
  rcases hy with hy | hy
  ·exact z9g hy
  ·exact absurd rfl (S.nofree _ (PySem.mem_of_lookup hy))
 ·exact Nat.le_of_lt (x.above y c (PySem.mem_of_lookup h))
 ·have hi : i < vs.length := by
   unfold z4l at h2
   by_cases hi : i < vs.length
   ·exact hi
   ·rw [List.getElem?_append_right (by simpa using hi)] at h2
    rw [List.getElem?_replicate] at h2
    split at h2 <;> cases h2
  have ha : vs[i]? = some v := by
   unfold z4l at h2
   rw [List.getElem?_append_left (by simpa using hi), List.getElem?_map] at h2
   cases e : vs[i]? with
   | none => rw [e] at h2; cases h2
   | some a => rw [e] at h2; cases h2; rfl
  obtain ⟨u, hu, rv⟩ := r.get ha
  have hp : ps[i]? = some y := by
   rw [<- S.pre, List.getElem?_take_of_lt (by omega)]; exact h1
  have ndP : ps.Nodup := by rw [<- S.pre]; exact S.nd.sublist (List.take_sublist _ _)
  refine ⟨u, rv, ?_⟩
  rcases S.par y (List.mem_of_getElem? hp) with k | k
  ·exact .inl ⟨k, z7M ndP hp hu k⟩
  ·obtain ⟨c, e⟩ := z9g (n := s.heap.objs.size + 1) k
   refine .inr ⟨.inl k, c, e, ?_⟩
   have q := x.cell y c e
   rw [z7H ndP hp hu (by show scope.names.lookup y ≠ _; rw [k]; decide)] at q
   exact q
 ·exact e0.hok.fresh (Nat.le_of_lt (x.above y c (PySem.mem_of_lookup h)))
 ·unfold z4l
  show _ = N.length
  rw [List.length_append, List.length_map, List.length_replicate]
  omega
theorem y3x {CX : CXT} {P : Program} {w : World} {K : PySem.W.Frag} {mg : Str -> Option Value} {base : Heap} {k : Nat} {f : Addr} {name qual : Str} {params : Arguments} {body : List Stmt} {scope : Scope} {dV kV doc pm cdv ct oc : Value} {an od : Option Addr}
  {osl : Array (Option Value)} {N ps : List Str} {sp : Sp} (lk : K.lookup f = some ⟨oc, od, .func (PySem.W.fnOf name qual params body scope dV kV doc pm an cdv ct), osl⟩) (hcd : PySem.W.codeIn K cdv qual = true) (S : FnScope N ps scope)
  (len : ∀ vs H Q E, sp vs H Q E -> vs.length = ps.length)
  (hbody : ∀ (A : Around) (outer : List Env) (s : Shared) (H : Hp) (vs : List V) (Q : VK) (E : XK), Room k (A.deeper (envOfC qual scope s.heap.objs.size f cdv)) -> sp vs H Q E ->
   ∃ t, PSs (cxOf CX P w K mg base N qual scope f cdv A outer s H E) body t /\ t { nx := fun _ H' => Q .non H', rt := Q } (z4l N vs) H) :
  FnOk P w K mg base CX (k + 1) f (PySem.W.fnOf name qual params body scope dV kV doc pm an cdv ct) ps sp := by
 refine ⟨len, fun A outer s H args us vs Q E hr e0 hb r hsp => ?_⟩
 have hl := len _ _ _ _ hsp
 have KX : K.In s.heap := e0.mod.kin.keeps fun b o e => (e0.bs b o e).1
 have lim : s.heap.NoLimit := e0.mod.nolimit.keeps fun b o e => (e0.bs b o e).1
 have hkind : ∀ y ∈ ps.zip us, scope.names.lookup y.1 = some .local \/ (scope.names.lookup y.1 = some .cell /\ ((cellsFrom (s.heap.objs.size + 1) scope.names []).lookup y.1).isSome = true) := fun ⟨n, v⟩ hy => by
  rcases S.par n (List.of_mem_zip hy).1 with q | q
  ·exact .inl q
  ·exact .inr ⟨q, PySem.W.cellsFrom_some _ _ _ (.inl q)⟩
 refine codeAny_call_function hr.depth (KX _ _ lk) rfl S.co S.gen rfl (PySem.W.codeRec_of KX hcd) (hb _ _ _ _ ?_)
 refine wpAny_newFunctionEnv_cells S.kind hkind fun env he s1 x => ?_
 subst he
 refine ⟨lim.keeps x.toInCall.keep, codeAny_func ?_⟩
 obtain ⟨t, ht, hq⟩ := hbody A outer s H vs Q E (hr.deeper _) hsp
 have I : Inv (cxOf CX P w K mg base N qual scope f cdv A outer s H E) [] (z4l N vs) H s1 := y1f S hr.hd e0 hl r x
 refine wpAny_mono (ht [] s1 (z4l N vs) H _ I hq) (fun fl s' hs => ?_) fun e s' hs => hs
 have fin : ∀ {σ' : St} {H' : Hp} {v : V} {u : Value}, Inv (cxOf CX P w K mg base N qual scope f cdv A outer s H E) [] σ' H' s' -> RelV v u -> Q v H' -> CE outer P w H s Q u s' :=
  fun {σ' H' v u} J rv q => ⟨v, H', J.os, J.bare, J.base, J.hok, rv, q⟩
 cases fl with
 | ret u =>
  obtain ⟨v, σ', H', J, rv, q⟩ := hs
  exact fin J rv q
 | next =>
  obtain ⟨σ', H', J, q⟩ := hs
  exact fin (v := V.non) (u := Value.none) J rfl q
 | brk =>
  obtain ⟨_, _, _, q⟩ := hs
  exact False.elim q
 | cont =>
  obtain ⟨_, _, _, q⟩ := hs
  exact False.elim q
section
variable {X : Cx} {x : Str} {p pos : Pos} {e : Expr} {es : List Expr} {t : TA} {id T : String} {r : List V -> Hp -> VK -> Prop}
def tCB (r : List V -> Hp -> VK -> Prop) (t : TA) : TE := fun σ H Q => t σ H fun vs H1 => r vs H1 Q
theorem z08 (hc : z33 X (.builtin id) r) (hg : Gl X x) (hm : X.mg x = none) (hv : bootBuiltins x = some (.builtin id)) (ha : PA X (e :: es) t) (hn : x ≠ "__name__" := by decide) (hdb : (x == ("__debug__" : Str)) = false := by decide)
  (he : starEach (e :: es) X.env = (false, eval e X.env) :: starEach es X.env := by rfl) (hpl : (backTo pos (starEach es X.env)).any (·.1) = false := by rfl) : PE X (.Call (.Name x p) (e :: es) [] pos) (tCB r t) := by
 intro pins s σ H Q I h
 refine wpAny_Call_Name_kw (z53 I hg hm hv ?_ hn hdb)
 exact PyProof.Rows.callWith_builtin1 (thn (ha pos pins s σ H _ I h) fun us s1 ⟨vs, H1, I1, r1, q1⟩ => hc pins s1 σ H1 vs us Q I1 r1 q1) he hpl
theorem z0B (hc : z33 X (.type T) r) (hg : Gl X x) (hm : X.mg x = none) (hv : bootBuiltins x = some (.type T)) (ha : PA X (e :: es) t) (hn : x ≠ "__name__" := by decide) (hdb : (x == ("__debug__" : Str)) = false := by decide)
  (he : starEach (e :: es) X.env = (false, eval e X.env) :: starEach es X.env := by rfl) (hpl : (backTo pos (starEach es X.env)).any (·.1) = false := by rfl) : PE X (.Call (.Name x p) (e :: es) [] pos) (tCB r t) := by
 intro pins s σ H Q I h
 refine wpAny_Call_Name_kw (z53 I hg hm hv ?_ hn hdb)
 exact PyProof.Rows.callWith_type1 (thn (ha pos pins s σ H _ I h) fun us s1 ⟨vs, H1, I1, r1, q1⟩ => hc pins s1 σ H1 vs us Q I1 r1 q1) he hpl
end
end L2
namespace HT
open PySem PyProof.Rows
section
open PySem.SeqAt
open PySem.AutoSeq1 (wpAny_loadPart')
open PySem.MeetsSeq PySem.MeetsSeq2 PySem.MeetsSeq3
end
section
variable {prog : Program} {w : World} {A : Around} {E : Value -> Shared -> Prop} {s : Shared}
def sIx (n d : Nat) : Option Int -> Nat
 | none => d
 | some v => if v < 0 then (v + (n : Int)).toNat else min v.toNat n
theorem y0d (n d k : Nat) : sIx n d (some (k : Int)) = min k n := by
 show (if (k : Int) < 0 then ((k : Int) + (n : Int)).toNat else min (k : Int).toNat n) = min k n
 rw [if_neg (by omega), Int.toNat_natCast]
theorem y2M (n d : Nat) (hd : d ≤ n) (o : Option Int) : sIx n d o ≤ n := by
 cases o with
 | none => exact hd
 | some v =>
  show (if v < 0 then (v + (n : Int)).toNat else min v.toNat n) ≤ n
  by_cases hv : v < 0
  ·rw [if_pos hv]; omega
  ·rw [if_neg hv]; exact Nat.min_le_right _ _
theorem y0b (v : Int) (n d : Nat) : (if v < 0 then max (v + (n : Int)) 0 else min v (n : Int)) = ((sIx n d (some v) : Nat) : Int) := by
 show (if v < 0 then max (v + (n : Int)) 0 else min v (n : Int)) = (((if v < 0 then (v + (n : Int)).toNat else min v.toNat n) : Nat) : Int)
 by_cases hv : v < 0
 ·simp only [if_pos hv]; omega
 ·simp only [if_neg hv]; omega
theorem z9y (lo hi : Option Int) (n : Nat) : Builtin.Slice.sliceAdjust lo hi 1 (n : Int) = (((sIx n 0 lo : Nat) : Int), ((sIx n n hi : Nat) : Int)) := by
 have h1 : ¬ ((1 : Int) < 0) := by omega
 unfold Builtin.Slice.sliceAdjust
 simp only [h1, if_false]
 refine Prod.ext ?_ ?_
 ·cases lo with
  | none => rfl
  | some v => exact y0b v n 0
 ·cases hi with
  | none => rfl
  | some v => exact y0b v n n
theorem z9w (i j : Nat) : Builtin.Slice.slicePlaces (i : Int) (j : Int) 1 = j - i := by
 unfold Builtin.Slice.slicePlaces
 have h1 : (1 : Int) > 0 := by omega
 simp only [h1, if_true, Int.ediv_one]
 split <;> omega
theorem z6L {v : Value} {o : Option Int} {Q : Option Int -> Shared -> Prop} (p : IsPart v o) (h : Q o s) : wpAny (model prog w) A (Builtin.Slice.slicePartIndex v) Q E s := by
 cases p with
 | none => exact slicePart_none h
 | int i t => exact slicePart_int h
theorem z39 {sl : Addr} {vl vu : Value} {lo hi : Option Int} {n : Nat} {Q : Int × Int × Nat -> Shared -> Prop} (hs : s.heap.IsSliceOf sl vl vu .none) (pl : IsPart vl lo) (pu : IsPart vu hi)
  (h : Q (((sIx n 0 lo : Nat) : Int), 1, sIx n n hi - sIx n 0 lo) s) : wpAny (model prog w) A (Builtin.Slice.sliceApplied (.ref sl) (pure (n : Int))) Q E s := by
 obtain ⟨os, hos, hcs, hds⟩ := id hs
 unfold Builtin.Slice.sliceApplied Builtin.Slice.sliceFields
 refine wpAny_bind (wpAny_bind (wpAny_field hos hds (x := vl) rfl (wpAny_bind (wpAny_field hos hds (x := vu) rfl (wpAny_bind (wpAny_field hos hds (x := .none) rfl (wpAny_pure ?_)))))))
 refine wpAny_bind (slicePart_none ?_)
 show wpAny _ _ (if ((1 : Int) == 0) = true then _ else _) _ _ s
 rw [if_neg (by decide)]
 refine wpAny_bind (z6L pl (wpAny_bind (z6L pu (wpAny_bind (wpAny_pure ?_)))))
 show wpAny _ _ (match Builtin.Slice.sliceAdjust lo hi 1 (n : Int) with | (lo, hi) => pure (lo, (1 : Int), Builtin.Slice.slicePlaces lo hi 1)) _ _ s
 rw [z9y lo hi n]
 show wpAny _ _ (pure (((sIx n 0 lo : Nat) : Int), (1 : Int), Builtin.Slice.slicePlaces ((sIx n 0 lo : Nat) : Int) ((sIx n n hi : Nat) : Int) 1)) _ _ s
 rw [z9w]
 exact wpAny_pure h
theorem y2k (xs : Array Value) (i k : Nat) : ((List.range k).filterMap fun (m : Nat) => xs[((i : Int) + (m : Int) * 1).toNat]?).toArray = ((xs.toList.drop i).take k).toArray := by
 have e : (fun (m : Nat) => xs[((i : Int) + (m : Int) * 1).toNat]?) = fun m => xs[i + m]? := by
  funext m
  have : ((i : Int) + (m : Int) * 1).toNat = i + m := by omega
  rw [this]
 rw [e]
 have := pick_run xs i k
 rw [List.filterMap_map] at this
 have e2 : ((fun x => xs[x]?) ∘ fun x => i + x) = fun m => xs[i + m]? := rfl
 rw [e2] at this
 rw [this]
theorem z4M {t sl : Addr} {items : Array Value} {vl vu : Value} {lo hi : Option Int} {Q : Value -> Shared -> Prop} (ht : IsTup s.heap t items) (hs : s.heap.IsSliceOf sl vl vu .none) (pl : IsPart vl lo) (pu : IsPart vu hi)
  (hw : ¬ (sIx items.size 0 lo = 0 /\ sIx items.size items.size hi = items.size))
  (h : Q (.ref s.heap.objs.size) { s with heap := s.heap.push { cls := .type "tuple", data := .seq ((items.toList.drop (sIx items.size 0 lo)).take (sIx items.size items.size hi - sIx items.size 0 lo)).toArray } })
  (hsz : items.size ≤ sizeLine) : wpAny (model prog w) A (getItem (.ref t) (.ref sl)) Q E s := by
 have htake : sizeOk (.seq ((items.toList.drop (sIx items.size 0 lo)).take (sIx items.size items.size hi - sIx items.size 0 lo)).toArray) := by
  show ((items.toList.drop (sIx items.size 0 lo)).take (sIx items.size items.size hi - sIx items.size 0 lo)).toArray.size ≤ sizeLine
  rw [List.size_toArray, List.length_take, List.length_drop, Array.length_toList]
  omega
 have hj : sIx items.size items.size hi ≤ items.size := y2M _ _ (Nat.le_refl _) hi
 obtain ⟨os, hos, hcs, hds⟩ := id hs
 have hTs : s.TypeIs (.ref sl) "slice" := ⟨os, hos, hcs⟩
 unfold getItem
 try with_reducible refine wpAny_holding ?_
 first | refine wpAny_bind (wpAny_pure ?_) | skip
 refine wpAny_bind (wpAny_sequenceKey ht.typeIs (by decide) ?_)
 refine wpAny_bind (wpAny_callSpecial?_slot (name := Str.ofString "__getitem__") ht.typeIs PyProof.Rows.slot_tuple_getitem
  (wpAny_call_entry PyProof.Rows.slot_tuple_getitem ht.typeIs entry_tuple_getitem ?_ (args_tuple_getitem _ _)))
 show wpAny _ _ (Builtin.Tuple.tupleItemsOf (.ref t) >>= _) _ _ s
 refine wpAny_bind (tupleItemsOf_ ht ?_)
 refine wpAny_bind (wpAny_typeOf hTs ?_)
 rw [if_pos (by decide)]
 refine wpAny_bind (z39 hs pl pu ?_)
 have hno : ¬ ((((sIx items.size 0 lo : Nat) : Int) == 0 && (1 : Int) == 1 && (sIx items.size items.size hi - sIx items.size 0 lo) == items.size) = true) := by
  intro q
  rw [Bool.and_eq_true, Bool.and_eq_true] at q
  have q1 : ((sIx items.size 0 lo : Nat) : Int) = 0 := eq_of_beq q.1.1
  have q2 : sIx items.size items.size hi - sIx items.size 0 lo = items.size := eq_of_beq q.2
  exact hw ⟨by omega, by omega⟩
 show wpAny _ _ (if (((sIx items.size 0 lo : Nat) : Int) == 0 && (1 : Int) == 1 && (sIx items.size items.size hi - sIx items.size 0 lo) == items.size) = true then _ else _) _ _ s
 rw [if_neg hno, y2k]
 first
  | exact wpAny_bind (m := Builtin.Tuple.tupleExact _) (wpAny_newObj_type (wpAny_pure ⟨_, rfl, wpAny_pure h⟩) htake)
  | exact wpAny_bind (m := Builtin.Tuple.tupleExact _) (wpAny_newObj_type (wpAny_bind (wpAny_pure (wpAny_pure ⟨_, rfl, wpAny_pure h⟩))) htake)
  | exact wpAny_bind (wpAny_bind (m := Builtin.Tuple.tupleExact _) (wpAny_newObj_type (wpAny_pure (wpAny_pure ⟨_, rfl, wpAny_pure h⟩)) htake))
  | exact wpAny_bind (wpAny_bind (m := Builtin.Tuple.tupleExact _) (wpAny_newObj_type (wpAny_pure ⟨_, rfl, wpAny_pure h⟩) htake))
end
end HT
namespace L2
open PySem PySem.Spec PyProof.Rows
abbrev TO := St -> Hp -> (Option Int -> Hp -> Prop) -> Prop
def PO (X : Cx) (e : Option Expr) (t : TO) : Prop :=
 ∀ (pins : List (Addr × Obj)) (s : Shared) (σ : St) (H : Hp) (Q : Option Int -> Hp -> Prop), Inv X pins σ H s -> t σ H Q ->
  wpAny (model X.prog X.w) X.A (evalPart e X.env) (fun u s' => ∃ o H', Inv X pins σ H' s' /\ IsPart u o /\ Q o H') X.xe s
def y3R : TO := fun _ H Q => Q none H
def tPart (t : TE) : TO := fun σ H Q => t σ H fun x H1 => ∃ i, x = .int i /\ Q (some i) H1
theorem z9z {ns : List Int} : ∀ {us : List Value}, Vals (ns.map V.int) us -> IntsAre us ns := by
 induction ns with
 | nil => intro us r; rw [List.map_nil] at r; cases r; exact .nil
 | cons n ns ih =>
  intro us r
  rw [List.map_cons] at r
  cases r with
  | cons r1 r2 =>
   obtain ⟨t, e⟩ := r1
   subst e
   exact .cons n t (ih r2)
section
variable {X : Cx} {e : Expr} {te : TE} {lo hi : Option Expr} {tl th : TO} {pos p2 : Pos}
theorem z3m : PO X none y3R := by
 intro pins s σ H Q I h
 rw [evalPart_none]
 exact wpAny_pure ⟨none, H, I, .none, h⟩
theorem z3u (h : PE X e te) : PO X (some e) (tPart te) := by
 intro pins s σ H Q I hw
 rw [evalPart_some]
 refine thn (h pins s σ H _ I hw) fun u s1 hz => ?_
 obtain ⟨x, H1, I1, r1, q1⟩ := hz
 obtain ⟨i, rfl, q⟩ := q1
 obtain ⟨t, rfl⟩ := r1
 exact ⟨some i, H1, I1, .int i t, q⟩
def SlR (X : Cx) (r : V -> Option Int -> Option Int -> Hp -> VK -> Prop) : Prop :=
 ∀ (pins : List (Addr × Obj)) (s : Shared) (σ : St) (H : Hp) (x : V) (v vl vu : Value) (lo hi : Option Int) (sl : Addr) (Q : VK), Inv X pins σ H s -> RelV x v -> s.heap.IsSliceOf sl vl vu .none -> IsPart vl lo -> IsPart vu hi -> r x lo hi H Q ->
  ∃ T id, typeLookup (.type T) "__getitem__" = pure (some (.builtin id)) /\ s.TypeIs v T /\ wpAny (model X.prog X.w) X.A (getItem v (.ref sl)) (EP X pins σ Q) X.xe s
def tSl (r : V -> Option Int -> Option Int -> Hp -> VK -> Prop) (te : TE) (tl th : TO) : TE := fun σ H Q => te σ H fun x H1 => tl σ H1 fun l H2 => th σ H2 fun u H3 => r x l u H3 Q
theorem z2m {r : V -> Option Int -> Option Int -> Hp -> VK -> Prop} (hr : SlR X r) (he : PE X e te) (hl : PO X lo tl) (hu : PO X hi th) : PE X (.Subscript e (.Slice lo hi none p2) pos) (tSl r te tl th) := by
 intro pins s σ H Q I h
 refine Subscript_ (thn (he pins s σ H _ I h) fun v s1 hz => ?_)
 obtain ⟨x, H1, I1, r1, q1⟩ := hz
 refine wpAny_Slice (thn (hl pins s1 σ H1 _ I1 q1) fun vl s2 ⟨l, H2, I2, pl, q2⟩ => thn (hu pins s2 σ H2 _ I2 q2) fun vu s3 hz => ?_)
 obtain ⟨u, H3, I3, pu, q3⟩ := hz
 rw [evalPart_none]
 refine wpAny_pure ?_
 have I4 : Inv X pins σ H3 { s3 with heap := s3.heap.push { cls := .type "slice", data := .fields #[vl, vu, .none] } } := I3.kept (t' := s3.toks) fun b ob q => Heap.get?_push_of_some _ q
 obtain ⟨T, id, hT, ht, hg⟩ := hr pins { s3 with heap := s3.heap.push { cls := .type "slice", data := .fields #[vl, vu, .none] } } σ H3 x v vl vu l u s3.heap.objs.size Q I4 r1 (Heap.IsSliceOf.new ..) pl pu q3
 show wpAny (model X.prog X.w) X.A (subscriptTail e (.Slice lo hi none p2) v (.ref s3.heap.objs.size)) (EP X pins σ Q) X.xe { s3 with heap := s3.heap.push { cls := .type "slice", data := .fields #[vl, vu, .none] } }
 exact tail_any (ops := [.ref s3.heap.objs.size, v]) ht hT hg (by with_unfolding_all rfl)
def cutV (xs : List V) (lo hi : Option Int) : List V := (xs.drop (HT.sIx xs.length 0 lo)).take (HT.sIx xs.length xs.length hi - HT.sIx xs.length 0 lo)
theorem z64 (xs : List V) (lo hi : Option Int) : (cutV xs lo hi).length ≤ xs.length := by
 unfold cutV
 rw [List.length_take, List.length_drop]
 omega
def rSlT (K : PySem.W.Frag) : V -> Option Int -> Option Int -> Hp -> VK -> Prop := fun x lo hi H Q => ∃ a xs, x = .ref a /\ SqT K H a xs /\
 ¬ (HT.sIx xs.length 0 lo = 0 /\ HT.sIx xs.length xs.length hi = xs.length) /\ ∀ p, H p = none -> Q (.ref p) (upd H p (.tup (cutV xs lo hi)))
theorem y2V : SlR X (rSlT X.K) := by
 intro pins s σ H x v vl vu lo hi sl Q I rx hs pl pu h
 obtain ⟨a, xs, rfl, hx, hw, q⟩ := h
 cases rx
 obtain ⟨its, r, ht, hz⟩ := I.tuple hx
 have hlen : its.toArray.size = xs.length := by rw [List.size_toArray]; exact r.length.symm
 refine ⟨"tuple", _, PyProof.Rows.slot_tuple_getitem.lookup, ht.typeIs, ?_⟩
 refine HT.z4M ht hs pl pu (by rw [hlen]; exact hw) ?_ (by rw [hlen]; exact hz)
 rw [hlen]
 refine ⟨.ref s.heap.objs.size, _, I.laid (t' := s.toks) (o := .tup (cutV xs lo hi)) (fun b ob q => Heap.get?_push_of_some _ q) (Nat.le_refl _) ?_, rfl, q _ (I.hok.fresh (Nat.le_refl _))⟩
 exact ⟨Nat.le_trans (z64 xs lo hi) hz, _, (r.drop (HT.sIx xs.length 0 lo)).take (HT.sIx xs.length xs.length hi - HT.sIx xs.length 0 lo), PlT.new _ _⟩
end
def ixN (n : Nat) (i : Int) : Option Nat := if 0 ≤ i then (if i < n then some i.toNat else none) else if -(n : Int) ≤ i then some (i + n).toNat else none
def atI {α : Type} (xs : List α) (i : Int) : Option α := (ixN xs.length i).bind fun j => xs[j]?
theorem y0r {n : Nat} {i : Int} {j : Nat} (h : ixN n i = some j) : seqIndex? i n = some j /\ j < n /\ -(n : Int) ≤ i /\ i < n := by
 unfold ixN at h
 by_cases h0 : 0 ≤ i
 ·rw [if_pos h0] at h
  by_cases h1 : i < n
  ·rw [if_pos h1] at h
   have e : i.toNat = j := Option.some.inj h
   exact ⟨by rw [seqIndex_of h0 h1, e], by omega, by omega, h1⟩
  ·rw [if_neg h1] at h; cases h
 ·rw [if_neg h0] at h
  by_cases h1 : -(n : Int) ≤ i
  ·rw [if_pos h1] at h
   have e : (i + n).toNat = j := Option.some.inj h
   exact ⟨by rw [seqIndex_neg (by omega) h1, e], by omega, h1, by omega⟩
  ·rw [if_neg h1] at h; cases h
theorem z8g {α : Type} {xs : List α} {i : Int} {v : α} (h : atI xs i = some v) : ∃ j, seqIndex? i xs.length = some j /\ xs[j]? = some v /\ j < xs.length /\ -(xs.length : Int) ≤ i /\ i < xs.length := by
 unfold atI at h
 cases e : ixN xs.length i with
 | none => rw [e] at h; cases h
 | some j =>
  rw [e] at h
  obtain ⟨h1, h2, h3, h4⟩ := y0r e
  exact ⟨j, h1, h, h2, h3, h4⟩
theorem z1E {α : Type} {xs : List α} {j : Nat} {v : α} (h : xs[j]? = some v) : atI xs (j : Int) = some v := by
 have hj : j < xs.length := (List.getElem?_eq_some_iff.mp h).1
 have e : ixN xs.length (j : Int) = some j := by
  unfold ixN
  rw [if_pos (by omega), if_pos (by omega)]; simp
 unfold atI; rw [e]; exact h
theorem z97 {α : Type} (xs : List α) (v : α) : atI (xs ++ [v]) (-1) = some v := by
 have hl : (xs ++ [v]).length = xs.length + 1 := by simp
 have e : ixN (xs ++ [v]).length (-1) = some xs.length := by
  unfold ixN
  rw [hl, if_neg (by decide), if_pos (by omega)]
  congr 1
  omega
 unfold atI
 rw [e]
 show (xs ++ [v])[xs.length]? = some v
 simp
def y3d (b : Expr) : Prop := ∀ o i, subscripted b false o i = operate [o, i] (getItem o i)
def IxR (X : Cx) (r : R2) : Prop :=
 ∀ (value slice : Expr) (pins : List (Addr × Obj)) (s : Shared) (σ : St) (H : Hp) (x y : V) (v u : Value) (Q : VK), Inv X pins σ H s -> RelV x v -> RelV y u -> r x y H Q ->
  subscripted slice false v u = operate [v, u] (getItem v u) -> wpAny (model X.prog X.w) X.A (subscriptTail value slice v u) (EP X pins σ Q) X.xe s
def MtR (X : Cx) (id : String) (r : V -> List V -> Hp -> VK -> Prop) : Prop :=
 ∀ (pins : List (Addr × Obj)) (s : Shared) (σ : St) (H : Hp) (x : V) (xs : List V) (v : Value) (us : List Value) (Q : VK), Inv X pins σ H s -> RelV x v -> Vals xs us -> r x xs H Q ->
  wpAny (model X.prog X.w) X.A (call (.builtin id) (v :: us)) (EP X pins σ Q) X.xe s
section
variable {X : Cx} {a b : Expr} {ta tb : TE} {pos : Pos}
theorem IxR.or {r r' : R2} (h : IxR X r) (h' : IxR X r') : IxR X (fun x y H Q => r x y H Q \/ r' x y H Q) := by
 intro value slice pins s σ H x y v u Q I rx ry q hs
 rcases q with q | q
 ·exact h value slice pins s σ H x y v u Q I rx ry q hs
 ·exact h' value slice pins s σ H x y v u Q I rx ry q hs
theorem z14 {r : R2} (hr : IxR X r) (ha : PE X a ta) (hb : PE X b tb) (hs : y3d b) : PE X (.Subscript a b pos) (tOp r ta tb) := by
 intro pins s σ H Q I h
 exact Subscript_ (binT ha hb I h fun v u s2 x y H2 I2 rx ry q => hr a b pins s2 σ H2 x y v u Q I2 rx ry q (hs _ _))
def rIxL (K : PySem.W.Frag) : R2 := fun x y H Q => ∃ p xs i v, x = .ref p /\ y = .int i /\ SqL K H p xs /\ atI xs i = some v /\ Q v H
def rIxT (K : PySem.W.Frag) : R2 := fun x y H Q => ∃ p xs i v, x = .ref p /\ y = .int i /\ SqT K H p xs /\ atI xs i = some v /\ Q v H
def rIxS : R2 := fun x y H Q => ∃ z i c, x = .str z /\ y = .int i /\ z.length ≤ sizeLine /\ atI z.cps.toList i = some c /\ Q (.str ⟨#[c]⟩) H
theorem z0z : IxR X (rIxL X.K) := by
 intro value slice pins s σ H x y v u Q I rx ry h hs
 obtain ⟨p, xs, i, z, rfl, rfl, hq, he, q⟩ := h
 cases rx
 obtain ⟨t, rfl⟩ := ry
 obtain ⟨its, r, pl, hz⟩ := I.list hq
 obtain ⟨j, h1, h2, h3, h4, h5⟩ := z8g he
 obtain ⟨w, ew, rw'⟩ := r.get h2
 have hl := r.length
 have hn := z4q
 have fin : EP X pins σ Q w s := ⟨z, H, I, rw', q⟩
 by_cases h0 : 0 ≤ i
 ·have hj : i.toNat = j := by
   rw [seqIndex_of h0 h5] at h1
   exact Option.some.inj h1
  exact item_listR pl.isList h0 (by omega) (by rw [hj]; simpa using ew) fin hs
 ·have hj : (i + (its.toArray.size : Int)).toNat = j := by
   rw [seqIndex_neg (by omega) h4] at h1
   rw [List.size_toArray, <- hl]
   exact Option.some.inj h1
  exact subscriptTail_builtinR (x := w) pl.isList.typeIs slot_list_getitem.lookup
   (wpAny_getItem_list_neg (Q := fun r s' => r = w /\ EP X pins σ Q r s') pl.isList (by omega) (by rw [List.size_toArray] <;> omega) (by omega) (by rw [hj]; simpa using ew) ⟨rfl, fin⟩) hs
theorem z3b : IxR X (rIxT X.K) := by
 intro value slice pins s σ H x y v u Q I rx ry h hs
 obtain ⟨p, xs, i, z, rfl, rfl, hq, he, q⟩ := h
 cases rx
 obtain ⟨t, rfl⟩ := ry
 obtain ⟨its, r, pl, hz⟩ := I.tuple hq
 obtain ⟨j, h1, h2, h3, h4, h5⟩ := z8g he
 obtain ⟨w, ew, rw'⟩ := r.get h2
 have hl := r.length
 have hn := z4q
 have fin : EP X pins σ Q w s := ⟨z, H, I, rw', q⟩
 exact subscriptTail_builtinR (x := w) pl.typeIs slot_tuple_getitem.lookup
  (getItem_tuple (j := j) (Q := fun r s' => r = w /\ EP X pins σ Q r s') pl (by omega) (by omega) (by rw [List.size_toArray, <- hl]; exact h1) (by simpa using ew) ⟨rfl, fin⟩) hs
theorem y01 : IxR X rIxS := by
 intro value slice pins s σ H x y v u Q I rx ry h hs
 obtain ⟨z, i, c, rfl, rfl, hz, he, q⟩ := h
 obtain ⟨t, rfl⟩ := rx
 obtain ⟨t', rfl⟩ := ry
 obtain ⟨j, h1, h2, h3, h4, h5⟩ := z8g he
 have hl : z.cps.toList.length = z.length := by simp [Str.length]
 rw [hl] at h1 h4 h5
 have hn := z4q
 exact tail_any (typeIs_str s z t) slot_str_getitem.lookup (getItem_str (c := c) (by
  have e1 : decide (i < -(2 ^ 63 : Int)) = false := decide_eq_false (by omega)
  have e2 : decide (i ≥ 2 ^ 63) = false := decide_eq_false (by omega)
  rw [e1, e2, Bool.or_false]) (by rw [h1]; simpa using h2) ⟨.str ⟨#[c]⟩, H, I.tok _, ⟨_, rfl⟩, q⟩) hs
def rIx (K : PySem.W.Frag) : R2 := fun x y H Q => rIxL K x y H Q \/ rIxT K x y H Q \/ rIxS x y H Q
theorem y4o : IxR X (rIx X.K) := z0z.or (z3b.or y01)
theorem z9O (its : List Value) (n j : Nat) (u : Value) : Obj.mapSeq (·.setIfInBounds j u) { cls := .type "list", data := .seq its.toArray n } = { cls := .type "list", data := .seq (its.set j u).toArray n } := by
 simp [Obj.mapSeq]
theorem Inv.lst {pins : List (Addr × Obj)} {σ : St} {H : Hp} {s : Shared} {p : Addr} {xs : List V} (I : Inv X pins σ H s) (h : H p = some (.lst xs)) :
  ∃ (its : List Value) (n : Nat), Vals xs its /\ s.heap.get? p = some { cls := .type "list", data := .seq its.toArray n } /\ xs.length ≤ sizeLine := by
 obtain ⟨z, its, n, r, e⟩ := I.hok p _ h
 exact ⟨its, n, r, e, z⟩
theorem Inv.lstUpd {pins : List (Addr × Obj)} {σ : St} {H : Hp} {s : Shared} {p : Addr} {xs ys : List V} {its its' : List Value} {n n' : Nat} {f : Obj -> Obj} (I : Inv X pins σ H s) (h : H p = some (.lst xs))
  (ho : s.heap.get? p = some { cls := .type "list", data := .seq its.toArray n }) (hf : f { cls := .type "list", data := .seq its.toArray n } = { cls := .type "list", data := .seq its'.toArray n' }) (r : Vals ys its') (hz : ys.length ≤ sizeLine) (t : Nat) :
  Inv X pins σ (upd H p (.lst ys)) { s with heap := s.heap.update p f, toks := t } := by
 have e : (s.heap.update p f).get? p = some { cls := .type "list", data := .seq its'.toArray n' } := by
  rw [Heap.get?_update_self f ho (by rw [hf] <;> rfl), hf]
 refine I.write (x := p) (e := p) (by rw [h]; trivial) (.inl rfl) (fun b u hb q => (Heap.get?_update_other _ _ (Ne.symm hb)).trans q) ⟨_, e⟩ ?_
 exact ⟨hz, its', n', r, e⟩
def rSetL : V -> V -> V -> Hp -> (Hp -> Prop) -> Prop := fun o i v H Q => ∃ p xs k j, o = .ref p /\ i = .int k /\ H p = some (.lst xs) /\ ixN xs.length k = some j /\ Q (upd H p (.lst (xs.set j v)))
theorem y1P : PSet X rSetL := by
 intro pins s σ H o i v ov iv u Q I ro ri rv h
 obtain ⟨p, xs, k, j, rfl, rfl, hp, hj, q⟩ := h
 cases ro
 obtain ⟨t, rfl⟩ := ri
 obtain ⟨its, n, r, ho, hz⟩ := I.lst hp
 obtain ⟨h1, h2, h3, h4⟩ := y0r hj
 have hl := r.length
 have hn := z4q
 have I' : Inv X pins σ (upd H p (.lst (xs.set j v))) { s with heap := s.heap.update p (Obj.mapSeq (·.setIfInBounds j u)) } :=
  I.lstUpd hp ho (z9O its n j u) (r.set rv j) (by rw [List.length_set]; exact hz) s.toks
 by_cases h0 : 0 ≤ k
 ·have hk : k.toNat = j := by
   rw [seqIndex_of h0 h4] at h1
   exact Option.some.inj h1
  exact PySem.W.ki_setAt ho h0 (by omega) (by rw [List.size_toArray, <- hl]; exact h4) (by rw [hk]; exact ⟨_, I', q⟩)
 ·have hk : (k + (its.toArray.size : Int)).toNat = j := by
   rw [seqIndex_neg (by omega) h3] at h1
   rw [List.size_toArray, <- hl]
   exact Option.some.inj h1
  exact PySem.W.ki_setBack ho (by omega) (by rw [List.size_toArray, <- hl]; exact h3) (by omega) (by rw [hk]; exact ⟨_, I', q⟩)
theorem z4W (lo hi : Option Int) (n : Nat) : (sliceBounds lo hi none n).1 = ((HT.sIx n 0 lo : Nat) : Int) /\ (sliceBounds lo hi none n).2.1 = ((HT.sIx n n hi : Nat) : Int) /\ (sliceBounds lo hi none n).2.2 = 1 := by
 refine ⟨?_, ?_, rfl⟩
 ·cases lo with
  | none => simp [sliceBounds, HT.sIx]
  | some i =>
   simp only [sliceBounds, HT.sIx, Option.getD_none, show (1 : Int) > 0 by decide, if_true]
   by_cases h : i < 0
   ·simp only [h, if_true] <;> omega
   ·simp only [h, if_false] <;> omega
 ·cases hi with
  | none => simp [sliceBounds, HT.sIx]
  | some i =>
   simp only [sliceBounds, HT.sIx, Option.getD_none, show (1 : Int) > 0 by decide, if_true]
   by_cases h : i < 0
   ·simp only [h, if_true] <;> omega
   ·simp only [h, if_false] <;> omega
theorem z7j (its : List Value) (lo hi : Option Int) : slicePick its.toArray lo hi none = ((its.drop (HT.sIx its.length 0 lo)).take (HT.sIx its.length its.length hi - HT.sIx its.length 0 lo)).toArray := by
 obtain ⟨h1, h2, h3⟩ := z4W lo hi its.toArray.size
 unfold slicePick
 rw [h1, h2, h3]
 simp only [sliceRange_one, pick_run, List.size_toArray] <;> rfl
def rSlL (K : PySem.W.Frag) : V -> Option Int -> Option Int -> Hp -> VK -> Prop := fun x lo hi H Q => ∃ a xs, x = .ref a /\ SqL K H a xs /\ ∀ p, H p = none -> Q (.ref p) (upd H p (.lst (cutV xs lo hi)))
theorem z8s : SlR X (rSlL X.K) := by
 intro pins s σ H x v vl vu lo hi sl Q I rx hs pl pu h
 obtain ⟨a, xs, rfl, hx, q⟩ := h
 cases rx
 obtain ⟨its, r, ht, hz⟩ := I.list hx
 have hlen := r.length
 refine ⟨"list", _, slot_list_getitem.lookup, ht.isList.typeIs, ?_⟩
 refine wpAny_getItem_list_slice ht.isList hs pl pu .none (by simp) ?_ (by rw [List.size_toArray] <;> omega)
 rw [z7j, <- hlen]
 refine ⟨.ref s.heap.objs.size, _, I.laid (t' := s.toks) (o := .lst (cutV xs lo hi)) (fun b ob q => Heap.get?_push_of_some _ q) (Nat.le_refl _) ?_, rfl, q _ (I.hok.fresh (Nat.le_refl _))⟩
 exact ⟨Nat.le_trans (z64 xs lo hi) hz, _, 0, (r.drop (HT.sIx xs.length 0 lo)).take (HT.sIx xs.length xs.length hi - HT.sIx xs.length 0 lo), Heap.get?_push_size _ rfl⟩
def z1j : V -> Bool
 | .non => true
 | .bl _ => true
 | .int _ => true
 | .str _ => true
 | _ => false
def eqV : V -> V -> Bool
 | .non, .non => true
 | .bl a, .bl b => a == b
 | .bl a, .int b => (if a then 1 else 0) == b
 | .int a, .bl b => a == (if b then 1 else 0)
 | .int a, .int b => a == b
 | .str a, .str b => a == b
 | _, _ => false
theorem y2Z {A : Around} {s : Shared} {y x : V} {u v : Value} (ry : RelV y u) (rx : RelV x v) (fy : z1j y = true) (fx : z1j x = true) : SeqAt.EqAt A s u v (eqV y x) := by
 cases y with
 | non =>
  cases ry
  cases x with
  | non => cases rx; exact SeqAt.EqAt.same _
  | bl b => cases rx; exact SeqAt.EqAt.none_bool b
  | int b => obtain ⟨t, rfl⟩ := rx; exact SeqAt.EqAt.none_int b t
  | str b => obtain ⟨t, rfl⟩ := rx; exact SeqAt.EqAt.none_str b t
  | _ => exact absurd (show false = true from fx) Bool.false_ne_true
 | bl a =>
  cases ry
  cases x with
  | non => cases rx; exact SeqAt.EqAt.bool_none a
  | bl b => cases rx; exact SeqAt.EqAt.bool_bool a b
  | int b => obtain ⟨t, rfl⟩ := rx; exact SeqAt.EqAt.bool_int a b t
  | str b => obtain ⟨t, rfl⟩ := rx; exact SeqAt.EqAt.bool_str a b t
  | _ => exact absurd (show false = true from fx) Bool.false_ne_true
 | int a =>
  obtain ⟨t', rfl⟩ := ry
  cases x with
  | non => cases rx; exact SeqAt.EqAt.int_none a t'
  | bl b => cases rx; exact SeqAt.EqAt.int_bool a t' b
  | int b => obtain ⟨t, rfl⟩ := rx; exact SeqAt.EqAt.int_int a t' b t
  | str b => obtain ⟨t, rfl⟩ := rx; exact SeqAt.EqAt.int_str a t' b t
  | _ => exact absurd (show false = true from fx) Bool.false_ne_true
 | str a =>
  obtain ⟨t', rfl⟩ := ry
  cases x with
  | non => cases rx; exact SeqAt.EqAt.str_none a t'
  | bl b => cases rx; exact SeqAt.EqAt.str_bool a t' b
  | int b => obtain ⟨t, rfl⟩ := rx; exact SeqAt.EqAt.str_int a t' b t
  | str b => obtain ⟨t, rfl⟩ := rx; exact SeqAt.EqAt.str_str a t' b t
  | _ => exact absurd (show false = true from fx) Bool.false_ne_true
 | _ => exact absurd (show false = true from fy) Bool.false_ne_true
def eqU (x : V) (u : Value) : Bool := match u with
 | .none => eqV .non x
 | .bool b => eqV (.bl b) x
 | .int i _ => eqV (.int i) x
 | .str z _ => eqV (.str z) x
 | _ => false
theorem z7E {x y : V} {u : Value} (r : RelV y u) (f : z1j y = true) : eqU x u = eqV y x := by
 cases y with
 | non => cases r; rfl
 | bl b => cases r; rfl
 | int i => obtain ⟨t, rfl⟩ := r; rfl
 | str z => obtain ⟨t, rfl⟩ := r; rfl
 | _ => exact absurd (show false = true from f) Bool.false_ne_true
theorem z63 {x : V} : ∀ {xs : List V} {us : List Value}, Vals xs us -> xs.all z1j = true -> us.any (eqU x) = xs.any fun y => eqV y x
 | _, _, .nil, _ => rfl
 | y :: xs, u :: us, .cons r t, f => by
  rw [List.all_cons, Bool.and_eq_true] at f
  rw [List.any_cons, List.any_cons, z7E r f.1, z63 t f.2]
theorem z2O {A : Around} {s : Shared} {x : V} {v : Value} (rx : RelV x v) (fx : z1j x = true) : ∀ {xs : List V} {us : List Value}, Vals xs us -> xs.all z1j = true -> ∀ u ∈ us, SeqAt.EqAt A s u v (eqU x u)
 | _, _, .nil, _ => fun u hu => by cases hu
 | y :: xs, u :: us, .cons r t, f => fun u' hu => by
  rw [List.all_cons, Bool.and_eq_true] at f
  rcases List.mem_cons.mp hu with rfl | hu
  ·rw [z7E r f.1]; exact y2Z r rx f.1 fx
  ·exact z2O rx fx t f.2 u' hu
def inV (x : V) (xs : List V) : Bool := xs.any fun y => eqV y x
def rIn (K : PySem.W.Frag) (neg : Bool) : R2 := fun x y H Q => ∃ p xs, y = .ref p /\ (SqL K H p xs \/ SqT K H p xs) /\ z1j x = true /\ xs.all z1j = true /\ Q (.bl (if neg then !inV x xs else inV x xs)) H
theorem y0k : OpR X (compareOp .In) (rIn X.K false) := by
 intro pins s σ H x y v u Q I rx ry h
 obtain ⟨p, xs, rfl, hq, fx, fs, q⟩ := h
 cases ry
 rcases hq with hq | hq
 ·obtain ⟨its, r, pl, hz⟩ := I.list hq
  refine SeqAt.in_listAt (eqU x) pl.isList (fun w hw => z2O rx fx r fs w (by simpa using hw)) ⟨.bl _, H, I, rfl, ?_⟩
  rw [show its.toArray.any (eqU x) = its.any (eqU x) by simp, z63 r fs]
  exact q
 ·obtain ⟨its, r, pl, hz⟩ := I.tuple hq
  refine SeqAt.in_tupleAt (eqU x) pl (fun w hw => z2O rx fx r fs w (by simpa using hw)) ⟨.bl _, H, I, rfl, ?_⟩
  rw [show its.toArray.any (eqU x) = its.any (eqU x) by simp, z63 r fs]
  exact q
theorem z2n : OpR X (compareOp .NotIn) (rIn X.K true) := by
 intro pins s σ H x y v u Q I rx ry h
 obtain ⟨p, xs, rfl, hq, fx, fs, q⟩ := h
 cases ry
 rcases hq with hq | hq
 ·obtain ⟨its, r, pl, hz⟩ := I.list hq
  refine SeqAt.notIn_listAt (eqU x) pl.isList (fun w hw => z2O rx fx r fs w (by simpa using hw)) ⟨.bl _, H, I, rfl, ?_⟩
  rw [show its.toArray.any (eqU x) = its.any (eqU x) by simp, z63 r fs]
  exact q
 ·obtain ⟨its, r, pl, hz⟩ := I.tuple hq
  refine SeqAt.notIn_tupleAt (eqU x) pl (fun w hw => z2O rx fx r fs w (by simpa using hw)) ⟨.bl _, H, I, rfl, ?_⟩
  rw [show its.toArray.any (eqU x) = its.any (eqU x) by simp, z63 r fs]
  exact q
theorem z07 : z33 X (.builtin "len") (fun xs H Q => ∃ p ys, xs = [.ref p] /\ (SqL X.K H p ys \/ SqT X.K H p ys) /\ Q (.int ys.length) H) := by
 intro pins s σ H xs us Q I r h
 obtain ⟨p, ys, rfl, hq, q⟩ := h
 obtain ⟨u, rfl, rx⟩ := z5h r
 cases rx
 have hn := z4q
 rcases hq with hq | hq
 ·obtain ⟨its, r', pl, hz⟩ := I.list hq
  have hlen := r'.length
  exact Calls.call_len_list pl.isList (by simp only [List.size_toArray] <;> omega) ⟨.int ys.length, H, I.tok _, ⟨s.toks + 1, by rw [List.size_toArray, hlen]⟩, q⟩
 ·obtain ⟨its, r', pl, hz⟩ := I.tuple hq
  have hlen := r'.length
  exact len_tuple pl (by simp only [List.size_toArray] <;> omega) ⟨.int ys.length, H, I.tok _, ⟨s.toks + 1, by rw [List.size_toArray, hlen]⟩, q⟩
theorem z58 : z33 X (.builtin "len") (fun xs H Q => ∃ z, xs = [.str z] /\ z.length ≤ sizeLine /\ Q (.int z.length) H) := by
 intro pins s σ H xs us Q I r h
 obtain ⟨z, rfl, hz, q⟩ := h
 obtain ⟨u, rfl, t, rfl⟩ := z5h r
 have hn := z4q
 exact len_str (by omega) ⟨.int z.length, H, I.tok _, ⟨_, rfl⟩, q⟩
theorem z4U : z33 X (.type "list") (fun xs H Q => ∃ p ys, xs = [.ref p] /\ (SqL X.K H p ys \/ SqT X.K H p ys) /\ ∀ l, H l = none -> Q (.ref l) (upd H l (.lst ys))) := by
 intro pins s σ H xs us Q I r h
 obtain ⟨p, ys, rfl, hq, q⟩ := h
 obtain ⟨u, rfl, rx⟩ := z5h r
 cases rx
 have fin : ∀ (its : List Value), Vals ys its -> ys.length ≤ sizeLine -> ∀ (h' : Heap) (c' : Nat), (∀ b o', s.heap.get? b = some o' -> h'.get? b = some o') ->
   h'.get? s.heap.objs.size = some { cls := .type "list", dict := none, data := .seq its.toArray c', slots := #[] } -> EP X pins σ Q (.ref s.heap.objs.size) { s with heap := h' } := fun its r' hz h' c' kp e =>
  ⟨.ref s.heap.objs.size, _, I.laid (t' := s.toks) kp (Nat.le_refl _) (show z16 X.prog X.w _ h' _ (.lst ys) from ⟨hz, its, c', r', e⟩), rfl, q _ (I.hok.fresh (Nat.le_refl _))⟩
 rcases hq with hq | hq
 ·obtain ⟨its, r', pl, hz⟩ := I.list hq
  have hlen := r'.length
  obtain ⟨o, ho, hc, n, hd⟩ := pl.isList
  exact call_list_seq p (.inl rfl) ho hc hd (fun h' c' kp e => fin its r' hz h' c' kp e) (by simp only [List.size_toArray] <;> omega)
 ·obtain ⟨its, r', pl, hz⟩ := I.tuple hq
  have hlen := r'.length
  obtain ⟨o, ho, hc, n, hd⟩ := pl
  exact call_list_seq p (.inr rfl) ho hc hd (fun h' c' kp e => fin its r' hz h' c' kp e) (by simp only [List.size_toArray] <;> omega)
theorem z0A : z33 X (.type "tuple") (fun xs H Q => ∃ p ys, xs = [.ref p] /\ ((SqL X.K H p ys /\ ∀ l, H l = none -> Q (.ref l) (upd H l (.tup ys))) \/ (SqT X.K H p ys /\ Q (.ref p) H))) := by
 intro pins s σ H xs us Q I r h
 obtain ⟨p, ys, rfl, h⟩ := h
 obtain ⟨u, rfl, rx⟩ := z5h r
 cases rx
 rcases h with ⟨hq, q⟩ | ⟨hq, q⟩
 ·obtain ⟨its, r', pl, hz⟩ := I.list hq
  have hlen := r'.length
  refine call_tuple_list pl.isList (fun h' kp => ?_) (by simp only [List.size_toArray] <;> omega)
  have I1 : Inv X pins σ H { s with heap := h' } := I.kept (t' := s.toks) kp
  have I2 : Inv X pins σ (upd H h'.objs.size (.tup ys)) { s with heap := h'.push { cls := .type "tuple", data := .seq its.toArray } } :=
   I1.laid (t' := s.toks) (fun b o e => Heap.get?_push_of_some _ e) (Nat.le_refl _) (show z16 X.prog X.w _ _ _ (.tup ys) from ⟨hz, its, r', PlT.new _ _⟩)
  exact ⟨.ref h'.objs.size, _, I2, rfl, q _ (I1.hok.fresh (Nat.le_refl _))⟩
 ·obtain ⟨its, r', pl, hz⟩ := I.tuple hq
  exact call_tuple_same pl ⟨.ref p, H, I, rfl, q⟩
def tyV (K : PySem.W.Frag) (T : String) (x : V) (H : Hp) : Prop := match x with
 | .str _ => T = "str"
 | .int _ => T = "int"
 | .ref p => (T = "list" /\ ∃ xs, SqL K H p xs) \/ (T = "tuple" /\ ∃ o, K.lookup p = some o /\ o.cls = .type "tuple" /\ o.dict = none) \/
   (T = "dict" /\ ((∃ kvs, H p = some (.dK kvs)) \/ ∃ kvs, H p = some (.dT kvs))) \/ (T = "set" /\ ∃ S n, H p = some (.set S n))
 | _ => False
theorem y2B {pins : List (Addr × Obj)} {σ : St} {H : Hp} {s : Shared} {T : String} {x : V} {v : Value} (I : Inv X pins σ H s) (r : RelV x v) (ty : tyV X.K T x H) :
  s.TypeIs v T /\ ∀ a, v = .ref a -> ∃ ob, s.heap.get? a = some ob /\ ob.dict = none := by
 cases x with
 | str z =>
  obtain ⟨t, rfl⟩ := r
  cases (show T = "str" from ty)
  exact ⟨typeIs_str s z t, fun _ e => nomatch e⟩
 | int i =>
  obtain ⟨t, rfl⟩ := r
  cases (show T = "int" from ty)
  exact ⟨typeIs_int s i t, fun _ e => nomatch e⟩
 | ref p =>
  cases r
  rcases ty with ⟨rfl, xs, hq⟩ | ⟨rfl, o, hk, hc, hd⟩ | ⟨rfl, hk⟩ | ⟨rfl, S, n, hk⟩
  ·obtain ⟨its, _, pl, _⟩ := I.list hq
   refine ⟨pl.isList.typeIs, fun a e => ?_⟩
   cases e
   obtain ⟨o, n, e, c, hd, _⟩ := pl
   exact ⟨o, e, hd⟩
  ·refine ⟨⟨o, I.kIn p o hk, hc⟩, fun a e => ?_⟩
   cases e
   exact ⟨o, I.kIn _ o hk, hd⟩
  ·have z : ∃ o, s.heap.get? p = some o /\ o.ExactDict := by
    rcases hk with ⟨kvs, hk⟩ | ⟨kvs, hk⟩
    ·obtain ⟨_, _, _, _, o, _, _, e, ex, _⟩ := I.hok p _ hk
     exact ⟨o, e, ex⟩
    ·obtain ⟨_, _, _, _, o, _, _, e, ex, _⟩ := I.hok p _ hk
     exact ⟨o, e, ex⟩
   obtain ⟨o, e, ex⟩ := z
   refine ⟨⟨o, e, ex.1⟩, fun a e2 => ?_⟩
   cases e2
   exact ⟨o, e, ex.2.1⟩
  ·obtain ⟨o, _, _, _, e, ex, _⟩ := I.hok p _ hk
   refine ⟨⟨o, e, ex.1⟩, fun a e2 => ?_⟩
   cases e2
   exact ⟨o, e, ex.2.1⟩
 | _ => exact False.elim ty
def tBM0 (K : PySem.W.Frag) (T : String) (r : V -> List V -> Hp -> VK -> Prop) (to : TE) : TE := fun σ H Q => to σ H fun x H1 => tyV K T x H1 /\ r x [] H1 Q
def tBM (K : PySem.W.Frag) (T : String) (r : V -> List V -> Hp -> VK -> Prop) (to : TE) (t : TA) : TE := fun σ H Q => to σ H fun x H1 => tyV K T x H1 /\ t σ H1 fun xs H2 => r x xs H2 Q
variable {o e : Expr} {es : List Expr} {to : TE} {t : TA} {name : Str} {apos cpos : Pos} {T id : String} {r : V -> List V -> Hp -> VK -> Prop}
theorem y2R (pa : PlainAttrs T) (slot : Slot T name id) (hty : typeOf (.builtin id) = pure (.type "method_descriptor")) (hm : MtR X id r) (ho : PE X o to)
  (hbase : attributeBase o name X.env (eval o X.env) = eval o X.env := by rfl) (hline : (apos.endLine == cpos.line) = true := by rfl) : PE X (.Call (.Attribute o name apos) [] [] cpos) (tBM0 X.K T r to) := by
 intro pins s σ H Q I h
 refine wpAny_Call_method0_late hbase hline (thn (ho pins s σ H _ I h) fun v s1 hz => ?_)
 obtain ⟨x, H1, I1, r1, ty, q1⟩ := hz
 obtain ⟨h1, h2⟩ := y2B I1 r1 ty
 exact ⟨T, id, pa, slot, hty, h1, h2, Calls.callWith_builtin rfl (PySem.evalArgs_none (hm pins s1 σ H1 x [] v [] Q I1 r1 .nil q1))⟩
theorem z2l (pa : PlainAttrs T) (slot : Slot T name id) (hty : typeOf (.builtin id) = pure (.type "method_descriptor")) (hm : MtR X id r) (ho : PE X o to) (ha : PA X (e :: es) t)
  (hbase : attributeBase o name X.env (eval o X.env) = eval o X.env := by rfl)
  (hfew : ((backTo cpos (starEach (e :: es) X.env)).all (fun x => !x.1) && (backToKw cpos (keywordEach [] X.env)).all (fun x => x.1.isSome)
   && decide ((e :: es).length + ([] : List Keyword).length + (if ([] : List Keyword).isEmpty then 0 else 1) < 30)) = true := by rfl)
  (hline : (apos.endLine == cpos.line) = true := by rfl) (hs : starEach (e :: es) X.env = (false, eval e X.env) :: starEach es X.env := by rfl) (hplain : (backTo cpos (starEach es X.env)).any (·.1) = false := by rfl) :
  PE X (.Call (.Attribute o name apos) (e :: es) [] cpos) (tBM X.K T r to t) := by
 intro pins s σ H Q I h
 refine wpAny_Call_method_late hbase hfew hline rfl (thn (ho pins s σ H _ I h) fun v s1 hz => ?_)
 obtain ⟨x, H1, I1, r1, ty, q1⟩ := hz
 obtain ⟨h1, h2⟩ := y2B I1 r1 ty
 refine ⟨T, id, pa, slot, hty, h1, h2, ?_⟩
 have hA := ha cpos pins s1 σ H1 _ I1 q1
 rw [hs] at hA ⊢
 refine Calls.callWith_builtin (by show (false || (backTo cpos (starEach es X.env)).any (·.1)) = false; rw [hplain] <;> rfl) (Calls.evalArgs_plain ?_)
 exact thn hA fun us s2 ⟨vs, H2, I2, r2, q2⟩ => hm pins s2 σ H2 x vs v us Q I2 r1 r2 q2
end
def MtM (X : Cx) (id : String) (r : V -> List V -> Hp -> VK -> Prop) : Prop :=
 ∀ (pins : List (Addr × Obj)) (s : Shared) (σ : St) (H : Hp) (x : V) (xs : List V) (v : Value) (us : List Value) (Q : VK), Inv X pins σ H s -> RelV x v -> Vals xs us -> r x xs H Q ->
  wpAny (model X.prog X.w) X.A (call (.builtin id) (v :: us)) (EP X pins σ Q) X.xe s
theorem Vals.one : ∀ {x : V} {us : List Value}, Vals [x] us -> ∃ u, us = [u] /\ RelV x u
 | _, _, .cons r .nil => ⟨_, rfl, r⟩
theorem Vals.two : ∀ {x y : V} {us : List Value}, Vals [x, y] us -> ∃ u v, us = [u, v] /\ RelV x u /\ RelV y v
 | _, _, _, .cons r (.cons q .nil) => ⟨_, _, rfl, r, q⟩
theorem Vals.dropLast {xs : List V} {us : List Value} (h : Vals xs us) : Vals xs.dropLast us.dropLast := by
 induction h with
 | nil => exact .nil
 | cons r t ih =>
  cases t with
  | nil => exact .nil
  | cons q t' => exact .cons r ih
theorem Vals.rep {xs : List V} {us : List Value} (h : Vals xs us) : ∀ k : Nat, Vals (List.replicate k xs).flatten (List.replicate k us).flatten
 | 0 => .nil
 | k + 1 => by
  rw [List.replicate_succ, List.replicate_succ, List.flatten_cons, List.flatten_cons]
  exact Vals.append h (Vals.rep h k)
theorem z80 (its : List Value) : ∀ (k : Nat) (acc : List Value),
  List.foldl (fun x1 x2 => x1 ++ x2) acc.toArray (List.replicate k its.toArray) = (acc ++ (List.replicate k its).flatten).toArray
 | 0, acc => by simp
 | k + 1, acc => by
  have e : acc.toArray ++ its.toArray = (acc ++ its).toArray := by simp
  have e2 : (acc ++ its) ++ (List.replicate k its).flatten = acc ++ (List.replicate (k + 1) its).flatten := by
   rw [List.replicate_succ, List.flatten_cons, List.append_assoc]
  rw [<- e2, <- z80 its k (acc ++ its), <- e, List.replicate_succ, List.foldl_cons]
section
variable {X : Cx} {pins : List (Addr × Obj)} {σ : St} {H : Hp} {s : Shared} {l b : Addr} {xs ys zs : List V}
theorem Inv.lset {its its' : List Value} {n : Nat} {f : Array Value -> Array Value} {t' : Nat} (I : Inv X pins σ H s) (hH : H l = some (.lst xs))
  (e : s.heap.get? l = some { cls := .type "list", data := .seq its.toArray n }) (hf : f its.toArray = its'.toArray) (hv : Vals ys its') (hz : ys.length ≤ sizeLine) :
  Inv X pins σ (upd H l (.lst ys)) { s with heap := s.heap.update l (Obj.mapSeq f), toks := t' } := by
 have q := PySem.IsL.update e f
 rw [hf] at q
 refine I.write (x := l) (e := l) (by rw [hH]; exact trivial) (.inl rfl) (fun b' u hb hu => (Heap.get?_update_other s.heap (Obj.mapSeq f) (Ne.symm hb)).trans hu) ⟨_, q⟩ ?_
 exact ⟨hz, its', _, hv, q⟩
theorem Inv.lnew {its : List Value} {t' : Nat} (I : Inv X pins σ H s) (hv : Vals ys its) (hz : ys.length ≤ sizeLine) :
  Inv X pins σ (upd H s.heap.objs.size (.lst ys)) { s with heap := s.heap.push { cls := .type "list", data := .seq its.toArray }, toks := t' } :=
 I.laid (fun _ _ q => Heap.get?_push_of_some _ q) (Nat.le_refl _) ⟨hz, its, 0, hv, Heap.get?_push_size _ rfl⟩
theorem Inv.fresh (I : Inv X pins σ H s) : H s.heap.objs.size = none := I.hok.fresh (Nat.le_refl _)
theorem Inv.lstM (I : Inv X pins σ H s) (hH : H l = some (.lst xs)) : xs.length ≤ sizeLine /\ ∃ (its : List Value) (n : Nat), Vals xs its /\ xs.length = its.length /\ s.heap.get? l = some { cls := .type "list", data := .seq its.toArray n } := by
 obtain ⟨z, its, n, r, e⟩ := I.hok l _ hH
 exact ⟨z, its, n, r, r.length, e⟩
theorem z8W {n : Nat} (h : n ≤ sizeLine) : Builtin.List.listTooLong n = false := by
 unfold Builtin.List.listTooLong
 exact decide_eq_false (by omega)
end
section
variable {X : Cx}
def y3B : V -> List V -> Hp -> VK -> Prop := fun x vs H Q => ∃ l xs y, x = .ref l /\ vs = [y] /\ H l = some (.lst xs) /\ xs.length < sizeLine /\ Q .non (upd H l (.lst (xs ++ [y])))
theorem z0I : MtM X "list.append" y3B := by
 intro pins s σ H x vs v us Q I rx rv h
 obtain ⟨l, xs, y, rfl, rfl, hH, hz, q⟩ := h
 cases rx
 obtain ⟨u, rfl, ru⟩ := rv.one
 obtain ⟨z, its, n, r, hl, e⟩ := I.lstM hH
 refine call_meets F.slot_list_append ⟨_, e, rfl⟩ F.entry_list_append (F.args_list_append_2 _ _) (PySem.list_append l its.toArray n u (by rw [List.size_toArray]; omega)) ⟨e, ?_⟩
 refine ⟨.non, _, I.lset (its' := its ++ [u]) hH e (by simp) (r.append (.cons ru .nil)) ?_, rfl, q⟩
 rw [List.length_append, List.length_singleton]
 omega
def y34 : V -> List V -> Hp -> VK -> Prop := fun x vs H Q => ∃ l b xs zs, x = .ref l /\ vs = [.ref b] /\ H l = some (.lst xs) /\ H b = some (.lst zs) /\ xs.length + zs.length ≤ sizeLine /\ Q .non (upd H l (.lst (xs ++ zs)))
theorem y4j : MtM X "list.extend" y34 := by
 intro pins s σ H x vs v us Q I rx rv h
 obtain ⟨l, b, xs, zs, rfl, rfl, hH, hB, hz, q⟩ := h
 cases rx
 obtain ⟨u, rfl, ru⟩ := rv.one
 cases ru
 obtain ⟨z, its, n, r, hl, e⟩ := I.lstM hH
 obtain ⟨z2, its2, n2, r2, hl2, e2⟩ := I.lstM hB
 have hsz : its.toArray.size + its2.toArray.size ≤ sizeLine := by rw [List.size_toArray, List.size_toArray]; omega
 have hlong : ¬ (!its.toArray.isEmpty && Builtin.List.listTooLong (its.toArray.size + its2.toArray.size)) = true := by
  rw [z8W hsz, Bool.and_false]
  exact Bool.false_ne_true
 refine call_meets F.slot_list_extend ⟨_, e, rfl⟩ F.entry_list_extend (F.args_list_extend_2 _ _)
  (AutoSeq1.list_extend_list_list_0 l its.toArray n b its2.toArray n2 hlong (by rw [List.size_toArray]; omega) (by omega)) ⟨e, e2, ?_⟩
 refine ⟨.non, _, I.lset (its' := its ++ its2) hH e (by simp) (r.append r2) ?_, rfl, q⟩
 rw [List.length_append]
 omega
def rCat : R2 := fun x y H Q => ∃ l b xs zs, x = .ref l /\ y = .ref b /\ H l = some (.lst xs) /\ H b = some (.lst zs) /\ xs.length + zs.length ≤ sizeLine /\ ∀ p, H p = none -> Q (.ref p) (upd H p (.lst (xs ++ zs)))
theorem z7P : OpR X (binaryOp .Add) rCat := by
 intro pins s σ H x y v u Q I rx ry h
 obtain ⟨l, b, xs, zs, rfl, rfl, hH, hB, hz, q⟩ := h
 cases rx
 cases ry
 obtain ⟨z, its, n, r, hl, e⟩ := I.lstM hH
 obtain ⟨z2, its2, n2, r2, hl2, e2⟩ := I.lstM hB
 refine PySem.P.add_list e e2 ?_ (by rw [List.size_toArray, List.size_toArray]; omega)
 have ea : its.toArray ++ its2.toArray = (its ++ its2).toArray := by simp
 rw [ea]
 exact ⟨.ref _, _, I.lnew (t' := s.toks) (r.append r2) (by rw [List.length_append]; omega), rfl, q _ I.fresh⟩
def rRep : R2 := fun x y H Q => ∃ l k xs, x = .ref l /\ y = .int k /\ H l = some (.lst xs) /\ -(2 ^ 63) ≤ k /\ k < 2 ^ 63 /\ xs.length * k.toNat ≤ sizeLine /\
 ∀ p, H p = none -> Q (.ref p) (upd H p (.lst (List.replicate k.toNat xs).flatten))
theorem y3e {α : Type} (xs : List α) (k : Nat) : (List.replicate k xs).flatten.length = k * xs.length := by
 induction k with
 | zero => simp
 | succ k ih => rw [List.replicate_succ, List.flatten_cons, List.length_append, ih, Nat.succ_mul, Nat.add_comm]
theorem y2F : OpR X (binaryOp .Mult) rRep := by
 intro pins s σ H x y v u Q I rx ry h
 obtain ⟨l, k, xs, rfl, rfl, hH, h1, h2, hz, q⟩ := h
 cases rx
 obtain ⟨t, rfl⟩ := ry
 obtain ⟨z, its, n, r, hl, e⟩ := I.lstM hH
 have hlen : its.toArray.size * k.toNat ≤ sizeLine := by rw [List.size_toArray, <- hl]; exact hz
 have hcap : ¬ its.toArray.size * k.toNat > (2 ^ 63 - 1) / 8 := by
  have : (sizeLine : Nat) ≤ (2 ^ 63 - 1) / 8 := by decide
  omega
 have hfit : ¬ (!Builtin.List.listFitsIndex k) = true := by
  rw [fitsIndex_both h1 h2]
  exact Bool.false_ne_true
 have hlong : ¬ Builtin.List.listTooLong (its.toArray.size * k.toNat) = true := by
  rw [z8W hlen]
  exact Bool.false_ne_true
 have hnew : List.foldl (fun x1 x2 => x1 ++ x2) #[] (List.replicate (if its.toArray.isEmpty = true then 0 else k.toNat) its.toArray) = (List.replicate k.toNat its).flatten.toArray := by
  have f0 : ∀ m : Nat, List.foldl (fun x1 x2 => x1 ++ x2) #[] (List.replicate m its.toArray) = (List.replicate m its).flatten.toArray := fun m => by
   have := z80 its m []
   rw [List.nil_append] at this
   exact this
  rw [f0]
  cases its with
  | nil => simp
  | cons a r' => rw [if_neg (by simp)]
 refine wpAny_binaryOp_repeat_ref (T := "list") (U := "int") (by decide) ⟨_, e, rfl⟩ (fun s' => typeIs_int s' k t) noFill_list_mul F.fills_int_mul F.slot_int_rmul repeat_list F.slot_int_index.lookup
  (call_meets F.slot_int_rmul (typeIs_int s k t) F.entry_int_rmul (F.args_int_rmul_2 _ _) (int___rmul___int_list k t l its.toArray n)
   ⟨e, rfl, ⟨_, e, rfl⟩, call_meets F.slot_list_mul ⟨_, e, rfl⟩ F.entry_list_mul (F.args_list_mul_2 _ _) (AutoListH.list___mul___list_int_3 l its.toArray n k t hfit hcap hlong) ⟨e, ?_⟩⟩)
 rw [hnew]
 exact ⟨.ref _, _, I.lnew (t' := s.toks) (r.rep k.toNat) (by rw [y3e, Nat.mul_comm]; exact hz), rfl, q _ I.fresh⟩
end
section
variable {prog : Program} {w : World} {A : Around} {E : Value -> Shared -> Prop} {s : Shared}
end
section
variable {X : Cx}
end
end L2
namespace Att
open PySem PySem.W PySem.Calls PyProof.Rows
theorem z65 {P : Params} {h : Heap} : ∀ (ns : List Int) (vs : List Value), WellAll P h vs (ns.map WData.int) -> IntsAre vs ns := by
 intro ns
 induction ns with
 | nil =>
  intro vs w
  rw [List.map_nil] at w
  cases w
  exact .nil
 | cons n ns ih =>
  intro vs w
  rw [List.map_cons] at w
  cases w with
  | cons a b =>
   cases a
   exact .cons _ _ (ih _ b)
theorem y1p {l : OpenLaw} {n : Nat} (hn : l.most = some n) {P : Params} {h : Heap} {args : List WData} {vals : List Value}
  (hpre : l.row.toRowW.claim.pre args = true) (hwl : WellAll P h vals args) :
  ∃ a vs ns, vals = [Value.ref a] /\ args = [WData.list (ns.map WData.int)] /\ h.get? a = some { cls := .type "list", data := .seq vs.toArray } /\ IntsAre vs ns /\ ns.length ≤ n := by
 have hsh : WShape.hasAll [] args [.list .int] = true := (pre_splitW hpre).1
 have hc : l.pre.holds [] { args := args } = true := (pre_splitW hpre).2
 obtain ⟨d, r, rfl, h1, h2⟩ := hasAllW_cons hsh
 obtain rfl := hasAllW_nil h2
 obtain ⟨xs, rfl, h3⟩ := hasW_list h1
 obtain ⟨ns, rfl⟩ := items_int h3
 have hlen : ns.length ≤ n := by
  unfold OpenLaw.pre at hc
  have h4 : (WTm.not (.lt (.lit (.int (n : Int))) (.len (.arg 0)))).holds [] { args := [.list (ns.map .int)] } = true := by
   have h4 := (holds_andW hc).1
   rw [hn] at h4
   exact h4
  have h5 := condW_of h4 (w_not (w_lt w_lit (w_len_list (w_arg rfl))))
  rw [List.length_map] at h5
  refine Nat.le_of_not_lt fun q => ?_
  have q' : (n : Int) < ((ns.length : Nat) : Int) := by omega
  first
   | (rw [decide_eq_true q'] at h5; exact absurd h5 (by decide))
   | (simp at h5; omega)
 cases hwl with
 | cons w1 w2 =>
  cases w2
  cases w1 with
  | list ho hall => exact ⟨_, _, ns, rfl, rfl, ho, z65 ns _ hall, hlen⟩
theorem y0J (l : OpenLaw) (args : List WData) : l.row.toRowW.claim.post args (.bool true) args = true :=
 postW_of (r := l.row.toRowW) (X := (true == true))
  (show WShape.has [] (.bool true) .bool = true by first | rfl | decide | simp [WShape.has, WShape.arms, WShape.armsAll])
  (show (WTm.eq .res (.lit (.bool true))).value [] { args := args, res := some (.bool true), after := args } = some (.bool (true == true)) from w_eq_bool (w_res rfl) w_lit) rfl
theorem z8G {l : OpenLaw} {n : Nat} {q : Program} {loose : List Str} {XP : (Str -> Option Value) -> Heap -> Prop} {YP : World -> Heap -> Prop} {d : DefRec}
  (hn : l.most = some n) (hdf : d.params.defaults = [])
  (call : ∀ (w : World) (s₀ s₁ : Shared) (mg mb : Str -> Option Value) (fa : Addr) (o : Obj) (pm cd doc : Value) (a : Addr) (vs : List Value) (ns : List Int),
   Ground q loose [] XP w s₀ mg mb s₁.heap -> YP w s₁.heap ->
   s₁.heap.get? fa = some o -> o.data = .func (docDef d.name d.params d.body d.scope pm cd doc) -> s₁.heap.CodeRec cd d.name -> mg d.name = some (.ref fa) ->
   s₁.heap.get? a = some { cls := .type "list", data := .seq vs.toArray } -> IntsAre vs ns -> ns.length ≤ n -> s₁.gens = #[] ->
   codeAny (model l.prog w) callerA (.call (.ref fa) ⟨[.ref a], []⟩) (fun r s' => r = .ok (.ret (.bool true)) /\ OldK s₁.heap s'.heap /\ s'.os = s₁.os /\ AllBare s'.gens) s₁) :
  WalkO q loose XP YP l.row.toRowW d [] (fun f vs => PySem.call f vs) := by
 intro w s₀ s₁ mg mb G Y fa o pm cd doc dV kV ho hd hcd hD hmg hg args vals as hpre hlay hrd hwl hlo
 obtain rfl : dV = .none := Dflts.none hD hdf
 obtain rfl : kV = .none := Dflts.noKw hD
 obtain ⟨a, vs, ns, rfl, rfl, hobj, hints, hlen⟩ := y1p hn hpre hwl
 refine enter_call (codeAny_mono (call w s₀ s₁ mg mb fa o pm cd doc a vs ns G Y ho (fd_plain hd) hcd hmg hobj hints hlen hg) fun r s' hq => ?_)
 obtain ⟨rfl, h2, h3, h4⟩ := hq
 exact ⟨.inl ⟨.bool true, .bool true, [], rfl, fun _ => rfl, .bool true, y0J l _, fun _ => ⟨List.Pairwise.nil, fun _ hm => (nomatch hm)⟩⟩, h2, h3, h4⟩
section
variable {prog : Program} {w : World} {A : Around} {E : Value -> Shared -> Prop} {s : Shared} {K : Frag}
end
end Att
namespace L2
open PySem PySem.Spec PyProof.Rows
theorem z4p : ∀ {vs : List Value} {ns : List Int}, IntsAre vs ns -> Vals (ns.map V.int) vs
 | _, _, .nil => .nil
 | _, _, .cons n t h => .cons ⟨t, rfl⟩ (z4p h)
def Only (H : Hp) : Prop := ∀ b, H b = none \/ ∃ o xs, H b = some (.frz o (.lst xs))
theorem y2w {P : Program} {w : World} {K : PySem.W.Frag} {mg mb : Str -> Option Value} {CX : CXT} {k : Nat} {fa a : Addr} {fd : FuncData} {x : Str} {sp : Sp} {s₁ : Shared} {vs : List Value} {ns : List Int}
  (KX : K.In s₁.heap) (hns : s₁.heap.Ns mainGlobals mg) (hb : s₁.heap.Ns builtinsNs mb) (hbb : ∀ x : Str, x ≠ "__name__" -> mb x = bootBuiltins x) (hlim : s₁.heap.NoLimit) (hg : s₁.gens = #[])
  (ha : s₁.heap.get? a = some { cls := .type "list", data := .seq vs.toArray }) (hi : IntsAre vs ns) (hl : ns.length ≤ sizeLine) (hr : Room k callerA)
  (F : ∀ base : Heap, K.In base -> base.Ns mainGlobals mg -> FnOk P w K mg base CX k fa fd [x] sp) (hbind : ∀ (s : Shared) (u : Value), BindsTo s fd ⟨[u], []⟩ [(x, u)])
  (hsp : ∀ H : Hp, Only H -> SqL K H a (ns.map V.int) -> sp [.ref a] H (fun v _ => v = .bl true) fun _ _ _ => False)
  (hCX : ∀ H e s', CX [] H s₁ (fun _ _ _ => False) e s' -> False) :
  codeAny (model P w) callerA (.call (.ref fa) ⟨[.ref a], []⟩) (fun r s' => r = .ok (.ret (.bool true)) /\ OldK s₁.heap s'.heap /\ s'.os = s₁.os /\ AllBare s'.gens) s₁ := by
 have rv := z4p hi
 have lenV := hi.length
 have core : ∀ H : Hp, Only H -> SqL K H a (ns.map V.int) -> HOk P w H s₁.heap -> (∀ b, H b ≠ none -> b = a) -> (H a ≠ none -> K.lookup a = none) ->
   codeAny (model P w) callerA (.call (.ref fa) ⟨[.ref a], []⟩) (fun r s' => r = .ok (.ret (.bool true)) /\ OldK s₁.heap s'.heap /\ s'.os = s₁.os /\ AllBare s'.gens) s₁ := by
  intro H hO hS hok hA hK
  have base_of : ∀ {b : Addr} {o : Obj}, s₁.heap.get? b = some o -> H b = none -> (hidT s₁.heap H).get? b = some o := fun e n => y24 e n
  have noA : ∀ {b : Addr} {o : Obj} {es : Array DictEntry} {ep : Nat}, s₁.heap.get? b = some o -> o.data = .dict es ep -> H b = none := fun {b o es ep} e d => by
   cases q : H b with
   | none => rfl
   | some u =>
    have e' : b = a := hA b (by rw [q]; simp)
    subst e'
    rw [ha] at e; cases e
    have d' : Data.seq vs.toArray _ = Data.dict es ep := d
    cases d'
  have nsK : ∀ {b : Addr} {m : Str -> Option Value}, s₁.heap.Ns b m -> (hidT s₁.heap H).Ns b m := fun {b m} ⟨o, es, ep, e, d, r⟩ => ⟨o, es, ep, base_of e (noA e d), d, r⟩
  have hKb : K.In (hidT s₁.heap H) := fun b o e => base_of (KX b o e) (by
   cases q : H b with
   | none => rfl
   | some u =>
    have e' : b = a := hA b (by rw [q]; simp)
    subst e'
    rw [hK (by rw [q]; simp)] at e; cases e)
  have hM : Mod K mg (hidT s₁.heap H) := ⟨hKb, nsK hns, ⟨mb, nsK hb, hbb⟩, let ⟨mc, h1, h2⟩ := hlim; ⟨mc, nsK h1, h2⟩⟩
  have e0 : Env0 P w K mg (hidT s₁.heap H) callerA [] s₁ H := ⟨rfl, hM, fun b o e => y3a e, Nat.le_of_eq (y06 _ _), trivial, fun b hb => absurd (show b ∈ ([] : List Addr) from hb) (by simp), hok, .of_eq hg⟩
  refine codeAny_mono ((F _ hKb (nsK hns)).run callerA [] s₁ H ⟨[.ref a], []⟩ [.ref a] [.ref a] _ _ hr e0 (hbind s₁ (.ref a)) (.cons rfl .nil) (hsp H hO hS)) fun r s' h => ?_
  cases r with
  | error e => exact (hCX H e s' h).elim
  | ok fl =>
   cases fl with
   | next => exact False.elim h
   | brk => exact False.elim h
   | cont => exact False.elim h
   | ret u =>
    obtain ⟨v, H', os, bare, un, hok', r', q⟩ := h
    have q' : v = .bl true := q
    subst q'
    obtain rfl : u = Value.bool true := r'
    refine ⟨rfl, OldK.of_keep fun b o e => ?_, os, bare⟩
    cases q : H b with
    | none => exact un.keep b o e q (by intro z; exact absurd (show b ∈ ([] : List Addr) from z) (by simp)) (by simp)
    | some u =>
     rcases hO b with z | ⟨ob, xs, z⟩
     ·rw [q] at z; cases z
     ·have z2 := un.frzs b ob _ z
      obtain ⟨e1, _⟩ := hok b _ z
      obtain ⟨e2, _⟩ := hok' b _ z2
      rw [e] at e1; cases e1
      exact e2
 cases hk : K.lookup a with
 | some o =>
  have e := KX a o hk
  rw [ha] at e
  cases e
  refine core (fun _ => none) (fun _ => .inl rfl) (.inr ⟨_, vs.toArray, _, hk, rfl, rfl, rfl, by rw [List.size_toArray, lenV]; exact hl, by simpa using rv⟩) (fun b u z => by have z' : (none : Option HO) = some u := z; cases z') (fun b z => absurd rfl z) fun z => absurd rfl z
 | none =>
  refine core (fun b => if b = a then some (.frz { cls := .type "list", data := .seq vs.toArray } (.lst (ns.map V.int))) else none) (fun b => ?_) (.inl (.inr ⟨{ cls := .type "list", data := .seq vs.toArray }, if_pos rfl⟩)) (fun b u z => ?_) (fun b z => ?_) fun _ => hk
  ·by_cases hb : b = a
   ·exact .inr ⟨_, _, if_pos hb⟩
   ·exact .inl (if_neg hb)
  ·by_cases hb : b = a
   ·have z' := (if_pos hb).symm.trans z
    cases z'
    subst hb
    exact ⟨ha, by rw [List.length_map]; exact hl, vs, _, rv, ha⟩
   ·have z' := (if_neg hb).symm.trans z
    cases z'
  ·by_cases hb : b = a
   ·exact hb
   ·exact absurd (if_neg hb) z
theorem y3z {l : PySem.W.OpenLaw} {n k : Nat} {q : Program} {loose : List Str} {XP : (Str -> Option Value) -> Heap -> Prop} {YP : World -> Heap -> Prop} {d : DefRec} {K : Params -> PySem.W.Frag} {CX : World -> CXT} {sp : World -> Sp} {x : Str}
  (hn : l.most = some n) (hn2 : n ≤ sizeLine) (hdf : d.params.defaults = []) (hr : Room k callerA)
  (hY : ∀ (w : World) (h : Heap), YP w h -> (K w.params).In h)
  (F : ∀ (w : World) (mg : Str -> Option Value) (fa : Addr) (h : Heap), (K w.params).In h -> h.Ns mainGlobals mg -> mg d.name = some (.ref fa) ->
   ∃ fd : FuncData, (∀ (s : Shared) (u : Value), BindsTo s fd ⟨[u], []⟩ [(x, u)]) /\
    ∀ base : Heap, (K w.params).In base -> base.Ns mainGlobals mg -> FnOk l.prog w (K w.params) mg base (CX w) k fa fd [x] (sp w))
  (hsp : ∀ (w : World) (H : Hp) (a : Addr) (ns : List Int), ns.length ≤ n -> Only H -> SqL (K w.params) H a (ns.map V.int) -> sp w [.ref a] H (fun v _ => v = .bl true) fun _ _ _ => False)
  (hCX : ∀ (w : World) (H : Hp) (s : Shared) (e : Value) (s' : Shared), CX w [] H s (fun _ _ _ => False) e s' -> False) :
  PySem.W.WalkO q loose XP YP l.row.toRowW d [] (fun f vs => PySem.call f vs) := by
 refine Att.z8G hn hdf fun w s₀ s₁ mg mb fa o pm cd doc a vs ns G Y ho hd hcd hmg hobj hints hlen hg => ?_
 have KX := hY w _ Y
 obtain ⟨fd, hb, hF⟩ := F w mg fa _ KX G.T.g hmg
 exact y2w KX G.T.g G.T.b G.T.builtins G.T.nolimit hg hobj hints (Nat.le_trans hlen hn2) hr hF hb (fun H hO hS => hsp w H a ns hlen hO hS) fun H e s' => hCX w H s₁ e s'
def z10 (s : Stmt) (j : Nat) : Stmt := match s with
 | .ClassDef _ _ _ body _ _ _ _ _ _ _ => body.getD j (.Pass ⟨0, 0, 0, 0⟩)
 | _ => .Pass ⟨0, 0, 0, 0⟩
def z1f (s : Stmt) : Arguments := match s with
 | .FunctionDef _ a _ _ _ _ _ _ _ _ => a
 | _ => { posonlyargs := [], args := [], vararg := none, kwonlyargs := [], kw_defaults := [], kwarg := none, defaults := [] }
def z18 (s : Stmt) : List Stmt := match s with
 | .FunctionDef _ _ b _ _ _ _ _ _ _ => b
 | _ => []
def z09 (s : Stmt) : Scope := match s with
 | .FunctionDef _ _ _ _ _ _ sc _ _ _ => sc
 | _ => { kind := .function, names := [], isGenerator := false, isCoroutine := false }
abbrev CX0 : CXT := fun _ _ _ _ _ _ => False
abbrev E0 : XK := fun _ _ _ => False
theorem y1t {X : Cx} : z55 CX0 X E0 := fun _ _ _ _ _ _ _ h => h.elim
structure Fun (K : PySem.W.Frag) (x qual : Str) (st : Stmt) (f : Addr) (fd : FuncData) : Prop where
 ex : ∃ (oc : Value) (od : Option Addr) (kV doc pm : Value) (an : Option Addr) (cdv ct : Value) (osl : Array (Option Value)),
  fd = PySem.W.fnOf x qual (z1f st) (z18 st) (z09 st) .none kV doc pm an cdv ct /\ K.lookup f = some ⟨oc, od, .func fd, osl⟩ /\ PySem.W.codeIn K cdv qual = true
 kp : PySem.W.keepIn K (.ref f) = true
section
variable {P : Program} {w : World} {K : PySem.W.Frag} {mg : Str -> Option Value} {base : Heap}
theorem Fun.ok {x qual : Str} {st : Stmt} {f : Addr} {fd : FuncData} {N ps : List Str} {k : Nat} {sp : Sp} (F : Fun K x qual st f fd) (S : FnScope N ps (z09 st)) (len : ∀ vs H Q E, sp vs H Q E -> vs.length = ps.length)
  (hbody : ∀ (cdv : Value) (A : Around) (outer : List Env) (s : Shared) (H : Hp) (vs : List V) (Q : VK) (E : XK), Room k (A.deeper (envOfC qual (z09 st) s.heap.objs.size f cdv)) -> sp vs H Q E ->
   ∃ t, PSs (cxOf CX0 P w K mg base N qual (z09 st) f cdv A outer s H E).nox (z18 st) t /\ t { nx := fun _ H' => Q .non H', rt := Q } (z4l N vs) H) : FnOk P w K mg base CX0 (k + 1) f fd ps sp := by
 obtain ⟨oc, od, kV, doc, pm, an, cdv, ct, osl, rfl, lk, hcd⟩ := F.ex
 refine y3x lk hcd S len fun A outer s H vs Q E hr hsp => ?_
 obtain ⟨t, h, q⟩ := hbody cdv A outer s H vs Q E hr hsp
 exact ⟨t, h.nox, q⟩
theorem Fun.binds {x qual : Str} {st : Stmt} {f : Addr} {fd : FuncData} {ps : List Str} (F : Fun K x qual st f fd)
  (h : ∀ (kV doc pm : Value) (an : Option Addr) (cdv ct : Value) (us : List Value), us.length = ps.length -> bindArgs (PySem.W.fnOf x qual (z1f st) (z18 st) (z09 st) .none kV doc pm an cdv ct) ⟨us, []⟩ = pure (ps.zip us)) : z1c K fd ps [] := by
 obtain ⟨oc, od, kV, doc, pm, an, cdv, ct, osl, rfl, lk, hcd⟩ := F.ex
 exact .all (h kV doc pm an cdv ct)
theorem y3W {x qual : Str} {st : Stmt} {f : Addr} {oc : Value} {od an : Option Addr} {osl : Array (Option Value)} {kV doc pm cdv ct : Value} (l : K.lookup f = some ⟨oc, od, .func (PySem.W.fnOf x qual (z1f st) (z18 st) (z09 st) .none kV doc pm an cdv ct), osl⟩)
  (c : PySem.W.codeIn K cdv qual = true) (k : PySem.W.keepIn K (.ref f) = true) : Fun K x qual st f (PySem.W.fnOf x qual (z1f st) (z18 st) (z09 st) .none kV doc pm an cdv ct) := ⟨⟨oc, od, kV, doc, pm, an, cdv, ct, osl, rfl, l, c⟩, k⟩
end
theorem y15 {A : Around} {k : Nat} (hr : Room k A) : A.units + 1 < cLine := Nat.lt_of_le_of_lt (Nat.add_le_add_left (by decide : 1 ≤ 64) _) hr.units
theorem z0k {n : Nat} (h : n ≤ 1000) : n < sizeLine := Nat.lt_of_le_of_lt h (by decide)
section
variable {X : Cx}
theorem pv (i : Nat) {x : Str} {pos : Pos} (hN : X.N[i]? = some x := by rfl) (hv : Vis X.env.scope x := by first | exact Or.inl rfl | exact Or.inr (Or.inl rfl) | exact Or.inr (Or.inr rfl)) (hd : (x == ("__debug__" : Str)) = false := by decide)
  (hcd : (x == ("__classdict__" : Str)) = false := by decide) : PE X (.Name x pos) (tVar i) := y42 hN hv hd hcd
end
theorem iteF {A B : Prop} (h : B) : if false = true then A else B := by
 rw [if_neg Bool.false_ne_true]
 exact h
theorem iteT {A B : Prop} (h : A) : if true = true then A else B := by
 rw [if_pos rfl]
 exact h
theorem ite2 {c A B : Prop} [Decidable c] (h1 : c -> A) (h2 : ¬ c -> B) : if c then A else B := by
 by_cases h : c
 ·rw [if_pos h]
  exact h1 h
 ·rw [if_neg h]
  exact h2 h
theorem y2i {c A B : Prop} [Decidable c] (hc : c) (h : B) : if (!decide c) = true then A else B := by
 rw [decide_eq_true hc]
 exact iteF h
def Same (H H' : Hp) : Prop := ∀ b o, H b = some o -> H' b = some o
theorem Same.refl (H : Hp) : Same H H := fun _ _ h => h
theorem Same.trans {H H1 H2 : Hp} (a : Same H H1) (b : Same H1 H2) : Same H H2 := fun c o h => b c o (a c o h)
theorem Same.free {H H' : Hp} (e : Same H H') {l : Addr} (h : H' l = Option.none) : H l = Option.none := by
 cases q : H l with
 | none => rfl
 | some o =>
  rw [e l o q] at h
  cases h
theorem Same.seq {K : PySem.W.Frag} {H H' : Hp} {a : Addr} {xs : List V} (e : Same H H') (h : SqL K H a xs) : SqL K H' a xs := by
 rcases h with (h | ⟨o, h⟩) | h
 ·exact .inl (.inl (e _ _ h))
 ·exact .inl (.inr ⟨o, e _ _ h⟩)
 ·exact .inr h
abbrev noE : Value -> Shared -> Prop := fun _ _ => False
theorem z8Q {prog : Program} {w : World} {A : Around} {R : Result -> Shared -> Prop} {s : Shared} {elt target iter : Expr} {ifs : List Expr} {scope : Scope} {pos : Pos} {it acc : Value} {env : Env} (I : Nat -> Shared -> Prop)
  (turn : ∀ n s, I n s -> wpAny (model prog w) A (pyNext it) (fun r s1 => match r with
   | none => R (.ok .next) s1
   | some v => wpAny (model prog w) A (letOwnedTupleGo target it v) (fun _ s0 => wpAny (model prog w) A (assign target env v) (fun _ s2 =>
     wpAny (model prog w) A (forIn ifs true fun c r => if r = true then do let ok <- isTrue c env (eval c env); pure (ForInStep.yield ok) else pure (ForInStep.yield r)) (fun ok s3 =>
      if ok = true then wpAny (model prog w) A (eval elt env) (fun x s4 =>
       wpAny (model prog w) A (call (.builtin "list.append") [acc, x]) (fun _ s5 => ∃ m, m < n /\ I m s5) noE s4) noE s3
      else ∃ m, m < n /\ I m s3) noE s2) noE s0) noE s1) noE s)
  (n : Nat) (h : I n s) : codeAny (model prog w) A (.compLoop (.ListComp elt [⟨target, iter, ifs, 0⟩] scope pos) 0 it acc env) R s := by
 refine codeAny_loop rfl I (fun n s hI => ?_) n h
 show wpAny _ A ((compTurn (.ListComp elt [⟨target, iter, ifs, 0⟩] scope pos) 0 it acc env).onRaise (fun x => do noteFrame x env; theTreesLotGoes x)) _ _ s
 refine wpAny_noted ?_
 rw [compTurn_list]
 refine wpAny_bind (wpAny_standAt (wpAny_bind (wpAny_mono (turn n s hI) (fun r s1 h1 => ?_) fun _ _ z => False.elim z)))
 cases r with
 | none => exact wpAny_pure h1
 | some v =>
  refine wpAny_bind (wpAny_mono h1 (fun _ s0 h0 => ?_) fun _ _ z => False.elim z)
  refine wpAny_bind (wpAny_mono h0 (fun _ s2 h2 => wpAny_bind (wpAny_mono h2 (fun ok s3 h3 => ?_) fun _ _ z => False.elim z)) fun _ _ z => False.elim z)
  cases ok with
  | false => exact wpAny_pure ⟨rfl, h3⟩
  | true =>
   exact wpAny_bind (wpAny_bind (wpAny_mono h3 (fun x s4 h4 => wpAny_bind (wpAny_mono h4 (fun _ s5 h5 => wpAny_pure (wpAny_pure ⟨rfl, h5⟩)) fun _ _ z => False.elim z)) fun _ _ z => False.elim z))
def z62 (cells : List (Str × Addr)) : List (Str × NameKind) -> List (Str × Addr) -> Option (List (Str × Addr))
 | [], acc => some acc
 | (n, k) :: r, acc => if k == .free then (match cells.lookup n with
   | some a => z62 cells r ((n, a) :: acc)
   | none => none) else z62 cells r acc
theorem z4B {env : Env} : ∀ (names : List (Str × NameKind)) (acc cl : List (Str × Addr)), z62 env.cells names acc = some cl ->
  (forIn names acc fun (x : Str × NameKind) (cs : List (Str × Addr)) => match x with
   | (name, kind) => if (kind == NameKind.free) = true then do let c <- cellOf env name; pure (ForInStep.yield ((name, c) :: cs)) else pure (ForInStep.yield cs) : Sem (List (Str × Addr))) = pure cl
 | [], acc, cl, h => by
  have h' : acc = cl := Option.some.inj h
  subst h'
  rfl
 | (n, k) :: r, acc, cl, h => by
  rw [List.forIn_cons]
  unfold z62 at h
  by_cases hk : (k == NameKind.free) = true
  ·rw [if_pos hk] at h
   cases e : env.cells.lookup n with
   | none => rw [e] at h; cases h
   | some a =>
    rw [e] at h
    have ih := z4B r ((n, a) :: acc) cl h
    have hc : cellOf env n = pure a := by unfold cellOf; rw [e]
    dsimp only
    rw [if_pos hk, hc]
    simpa using ih
  ·rw [if_neg hk] at h
   have ih := z4B r acc cl h
   dsimp only
   rw [if_neg hk]
   simpa using ih
theorem z59 {scope : Scope} {env : Env} {cl : List (Str × Addr)} (h : z62 env.cells scope.names [] = some cl) : closureFor scope env = pure cl := by
 have q := z4B (env := env) scope.names [] cl h
 unfold closureFor
 simpa using q
theorem z61 {cells : List (Str × Addr)} : ∀ {names : List (Str × NameKind)} {acc cl : List (Str × Addr)}, z62 cells names acc = some cl ->
  (∀ x c, acc.lookup x = some c -> cells.lookup x = some c) -> ∀ x c, cl.lookup x = some c -> cells.lookup x = some c
 | [], acc, cl, h, ha, x, c, e => by
  have h' : acc = cl := Option.some.inj h
  subst h'
  exact ha x c e
 | (n, k) :: r, acc, cl, h, ha, x, c, e => by
  unfold z62 at h
  by_cases hk : (k == NameKind.free) = true
  ·rw [if_pos hk] at h
   cases q : cells.lookup n with
   | none => rw [q] at h; cases h
   | some a =>
    rw [q] at h
    refine z61 (names := r) (acc := (n, a) :: acc) h (fun y d z => ?_) x c e
    rw [List.lookup_cons] at z
    cases hy : y == n with
    | true =>
     rw [hy] at z
     have z' : a = d := Option.some.inj z
     rw [<- z', beq_iff_eq.mp hy]
     exact q
    | false =>
     rw [hy] at z
     exact ha y d z
  ·rw [if_neg hk] at h
   exact z61 (names := r) (acc := acc) h ha x c e
theorem z4h {cells : List (Str × Addr)} : ∀ {names : List (Str × NameKind)} {acc cl : List (Str × Addr)}, z62 cells names acc = some cl ->
  ∀ x, ((∃ c, acc.lookup x = some c) \/ (x, NameKind.free) ∈ names) -> ∃ c, cl.lookup x = some c
 | [], acc, cl, h, x, hx => by
  have h' : acc = cl := Option.some.inj h
  subst h'
  rcases hx with hx | hx
  ·exact hx
  ·cases hx
 | (n, k) :: r, acc, cl, h, x, hx => by
  unfold z62 at h
  by_cases hk : (k == NameKind.free) = true
  ·rw [if_pos hk] at h
   cases q : cells.lookup n with
   | none => rw [q] at h; cases h
   | some a =>
    rw [q] at h
    refine z4h (names := r) (acc := (n, a) :: acc) h x ?_
    rcases hx with ⟨c, hx⟩ | hx
    ·left
     rw [List.lookup_cons]
     cases hy : x == n with
     | true => exact ⟨a, rfl⟩
     | false => exact ⟨c, hx⟩
    ·rcases List.mem_cons.mp hx with e | e
     ·left
      have e1 : x = n := congrArg Prod.fst e
      rw [List.lookup_cons, e1, beq_self_eq_true]
      exact ⟨a, rfl⟩
     ·exact .inr e
  ·rw [if_neg hk] at h
   refine z4h (names := r) (acc := acc) h x ?_
   rcases hx with hx | hx
   ·exact .inl hx
   ·rcases List.mem_cons.mp hx with e | e
    ·have e2 : NameKind.free = k := congrArg Prod.snd e
     exact absurd (by rw [<- e2]; rfl) hk
    ·exact .inr e
theorem z5K {α β : Type} [BEq α] [LawfulBEq α] : ∀ {l : List (α × β)} {x : α} {b : β}, l.lookup x = some b -> (x, b) ∈ l
 | [], x, b, h => by cases h
 | (a, c) :: r, x, b, h => by
  rw [List.lookup_cons] at h
  cases hx : x == a with
  | true =>
   rw [hx] at h
   have h' : c = b := Option.some.inj h
   rw [beq_iff_eq.mp hx, h']
   exact List.mem_cons_self
  | false =>
   rw [hx] at h
   exact List.mem_cons_of_mem _ (z5K h)
theorem z56 {scope : Scope} {env : Env} (hcell : ∀ y ∈ scope.names, y.2 ≠ .cell) {x : Str} (h : (relabel scope env).names.lookup x = some .cell \/ (relabel scope env).names.lookup x = some .free) : (x, NameKind.free) ∈ scope.names := by
 have go : ∀ k, (relabel scope env).names.lookup x = some k -> (k = .cell \/ k = .free) -> (x, NameKind.free) ∈ scope.names := fun k h hk => by
  have m := z5K h
  obtain ⟨⟨n, k'⟩, hm, e⟩ := List.mem_map.mp m
  dsimp only at e
  by_cases c : (k' == NameKind.free && env.scope.kind == .function && env.kindOf n == some .cell) = true
  ·rw [if_pos c] at e
   have e1 : n = x := congrArg Prod.fst e
   have c1 : (k' == NameKind.free) = true := by
    rw [Bool.and_eq_true, Bool.and_eq_true] at c
    exact c.1.1
   have c2 : k' = .free := eq_of_beq c1
   rw [<- e1, <- c2]
   exact hm
  ·rw [if_neg c] at e
   have e1 : n = x := congrArg Prod.fst e
   have e2 : k' = k := congrArg Prod.snd e
   rcases hk with z | z
   ·exact absurd (e2.trans z) (hcell _ hm)
   ·rw [<- e1, <- z, <- e2]
    exact hm
 rcases h with h | h
 ·exact go _ h (.inl rfl)
 ·exact go _ h (.inr rfl)
def z3c (X : Cx) (scope : Scope) (cl : List (Str × Addr)) (N : List Str) (C : Addr) (s3 : Shared) (H1 : Hp) (ex : List Addr) (pins : List (Addr × Obj)) : Cx :=
 { X with N := N, s₀ := s3, H₀ := H1, env := compEnvC scope cl C X.env, outer := X.stack, ex := ex, fn := fun _ => false, pn := X.pn ++ pins, xe := noE }
def z5Y (own : Nat) (ix : List Nat) (σ : St) : St := List.replicate own none ++ ix.map fun i => (σ[i]?).join
structure CompScope (X : Cx) (scope : Scope) (cl : List (Str × Addr)) (own caps : List Str) (ix : List Nat) : Prop where
 clos : z62 X.env.cells scope.names [] = some cl
 cell : ∀ y ∈ scope.names, y.2 ≠ .cell
 kind : scope.kind = .function
 names : ∀ y ∈ scope.names, y.2 = .local -> scope.names.lookup y.1 = some .local
 capn : caps.length = ix.length
 cap : ∀ (j i : Nat) (x : Str), caps[j]? = some x -> ix[j]? = some i -> X.N[i]? = some x /\ X.env.kindOf x ≠ some .local /\ Vis X.env.scope x /\ ((relabel scope X.env).names.lookup x = some .cell \/ (relabel scope X.env).names.lookup x = some .free)
theorem Inv.track {X : Cx} {pins : List (Addr × Obj)} {σ : St} {H : Hp} {s : Shared} {D : Addr} {o : HO} (I : Inv X pins σ H s) (f : FpOk X pins H D) (new : z16 X.prog X.w (upd H D o) s.heap D o) : Inv X pins σ (upd H D o) s := by
 obtain ⟨f0, f1, f2, f3, f4, f5⟩ := f
 have q := I.step (H' := upd H D o) (h' := s.heap) (g' := s.gens) (t' := s.toks) (d' := s.drawn) (ch := [D]) (fun b hb => by
   have e : b = D := by simpa using hb
   subst e
   exact ⟨f3, f1, f4, f5⟩)
  (fun _ _ _ _ _ e _ => e) (fun b ob _ _ _ e _ => ⟨ob.slots, e⟩) (fun b ob hb _ n => by
   have e : b ≠ D := fun z => hb (by simp [z])
   rw [z0b e]; exact n)
  (fun b ob _ e => ⟨ob, e⟩) (fun b xs e => by rw [z0b (z0j e f0)]; exact e) (fun b ob u e => by rw [z0b (z0j e f0)]; exact e)
  (fun b ps e => ⟨#[], by rw [z0b (z0j e f0), e]; simp⟩) (fun _ hm => hm) (fun b u e => by
   by_cases hb : b = D
   ·subst hb
    rw [z03] at e
    cases e
    exact new
   ·rw [z0b hb] at e
    exact (I.hok b u e).stay (fun _ _ _ q => q) (fun c q => by rw [z0b (z0j q f0)]; exact q) fun c xs q => by rw [z0b (z0j q f0)]; exact q) I.bare
 exact q
section
variable {X : Cx} {scope : Scope} {cl : List (Str × Addr)} {own caps : List Str} {ix : List Nat}
theorem CompScope.look (S : CompScope X scope cl own caps ix) : ∀ x c, cl.lookup x = some c -> X.env.cells.lookup x = some c :=
 z61 S.clos fun x c e => by cases e
theorem y1Q {pins : List (Addr × Obj)} {σ : St} {H1 : Hp} {s3 : Shared} {h1 : Heap} {ex : List Addr} {m : Str -> Option Value} {tk : Nat} (S : CompScope X scope cl own caps ix) (I : Inv X pins σ H1 s3)
  (hex : ∀ b ∈ ex, b < s3.heap.objs.size /\ b ≠ X.env.locals /\ b ∉ X.fs /\ (b ∈ X.ex \/ X.s₀.heap.objs.size ≤ b) /\ ∀ x c, X.env.cells.lookup x = some c -> c ≠ b)
  (hn : h1.Ns s3.heap.objs.size m) (hk : ∀ b o, s3.heap.get? b = some o -> h1.get? b = some o) :
  Inv (z3c X scope cl (own ++ caps) s3.heap.objs.size s3 H1 ex pins) [] (z5Y own.length ix σ) H1 { s3 with heap := h1, toks := tk } := by
 have stkN : ∀ b ∈ frs X.stack, b < s3.heap.objs.size := fun b hb => by
  obtain ⟨_, o, ho, _⟩ := I.stack.mem hb
  exact Heap.lt_size ho
 have lt0 : ∀ b o, X.base.get? b = some o -> b < X.s₀.heap.objs.size := fun b o e => Heap.lt_size (I.ok.bs b o e).1
 refine ⟨⟨I.ok.mod, S.kind, I.ok.glob, I.ok.blt, Nat.le_refl _, ?_, ?_, ?_, I.ok.hd, I.ok.frames, .inl rfl, ?_, I.bs, Nat.le_trans I.ok.bsz I.sz, ?_, ?_, I.stack, I.stkFree⟩, rfl, I.bare, ?_, ?_, ?_, ?_, ?_, ?_, ?_, ?_⟩
 ·intro x y c e1 e2
  exact I.ok.inj x y c (S.look x c e1) (S.look y c e2)
 ·intro x hx
  exact z4h S.clos x (.inr (z56 S.cell hx))
 ·intro x c hf
  exact absurd hf Bool.false_ne_true
 ·intro b hb
  obtain ⟨l, a1, a2, a3, a4⟩ := hex b hb
  exact ⟨Nat.ne_of_lt l, fun x c e => a4 x c (S.look x c e)⟩
 ·intro b o e hb
  obtain ⟨l, a1, a2, a3, a4⟩ := hex b hb
  rcases a3 with z | z
  ·exact I.ok.noex b o e z
  ·exact absurd (Nat.lt_of_lt_of_le (lt0 b o e) z) (Nat.lt_irrefl _)
 ·intro b hb hf
  obtain ⟨l, a1, a2, a3, a4⟩ := hex b hb
  rcases List.mem_cons.mp (I.stkSub b hf) with z | z
  ·exact a1 z
  ·exact a2 z
 ·exact Un.kept hk
 ·refine ⟨m, hn, fun i x v e1 e2 e3 => ?_⟩
  have e2' : (List.replicate own.length none ++ ix.map fun i => (σ[i]?).join : St)[i]? = some (some v) := e2
  have e1' : (own ++ caps)[i]? = some x := e1
  by_cases hi : i < own.length
  ·rw [List.getElem?_append_left (by simpa using hi), List.getElem?_replicate, if_pos hi] at e2'
   cases e2'
  ·have hi' : own.length ≤ i := Nat.le_of_not_lt hi
   rw [List.getElem?_append_right (by simpa using hi'), List.length_replicate, List.getElem?_map] at e2'
   rw [List.getElem?_append_right hi'] at e1'
   cases q : ix[i - own.length]? with
   | none => rw [q] at e2'; cases e2'
   | some k =>
    rw [q] at e2'
    have e2'' : (σ[k]?).join = some v := Option.some.inj e2'
    have e4 : σ[k]? = some (some v) := by
     cases z : σ[k]? with
     | none => rw [z] at e2''; cases e2''
     | some u => rw [z] at e2''; rw [show u = some v from e2'']
    obtain ⟨n1, n2, n3, n4⟩ := S.cap (i - own.length) k x e1' q
    obtain ⟨mX, _, hl⟩ := I.loc
    obtain ⟨u, r, l⟩ := hl k x v n1 e4 n3
    refine ⟨u, r, ?_⟩
    rcases l with ⟨kl, _⟩ | ⟨_, c, ec, ic⟩
    ·exact absurd kl n2
    ·obtain ⟨c', ec'⟩ := z4h S.clos x (.inr (z56 S.cell n4))
     have e5 := S.look x c' ec'
     rw [ec] at e5
     cases e5
     exact .inr ⟨n4, c, ec', ic.keeps hk⟩
 ·intro x c e
  obtain ⟨v, q⟩ := I.cell x c (S.look x c e)
  exact ⟨v, q.keeps hk⟩
 ·exact I.hok.fresh (Nat.le_refl _)
 ·intro x c e
  exact I.freeC x c (S.look x c e)
 ·intro p hp
  have hp' : p ∈ X.pn ++ pins := by
   have : p ∈ (X.pn ++ pins) ++ [] := hp
   rwa [List.append_nil] at this
  obtain ⟨e, n, ne, nf, d⟩ := I.pin p hp'
  refine ⟨hk _ _ e, n, Nat.ne_of_lt (Heap.lt_size e), fun z => ?_, d⟩
  rcases List.mem_cons.mp (I.stkSub p.1 z) with z | z
  ·exact ne z
  ·exact nf z
 ·exact I.hok.kept hk
 ·show (List.replicate own.length none ++ ix.map fun i => (σ[i]?).join : St).length = (own ++ caps).length
  rw [List.length_append, List.length_replicate, List.length_map, List.length_append, S.capn]
def PTs (X : Cx) (ifs : List Expr) (t : TT) : Prop :=
 ∀ (pins : List (Addr × Obj)) (s : Shared) (σ : St) (H : Hp) (Q : Bool -> Hp -> Prop), Inv X pins σ H s -> t σ H Q ->
  wpAny (model X.prog X.w) X.A (forIn ifs true fun c r => if r = true then do let ok <- isTrue c X.env (eval c X.env); pure (ForInStep.yield ok) else pure (ForInStep.yield r)) (TP X pins σ Q) X.xe s
def tYes : TT := fun _ H Q => Q true H
theorem z22 : PTs X [] tYes := fun _ _ _ H _ I h => wpAny_tests_nil ⟨H, I, h⟩
theorem z7e {c : Expr} {t : TT} (hc : PT X c t) : PTs X [c] t := fun pins s σ H Q I h => wpAny_tests_one (hc pins s σ H Q I h)
def z4o (n : Nat) (σ σ' : St) : Prop := σ'.length = σ.length /\ ∀ i, n ≤ i -> σ'[i]? = σ[i]?
def OwnG (n : Nat) (g : TG) : Prop := ∀ v σ H Q, g v σ H Q -> g v σ H fun σ' H' => Q σ' H' /\ z4o n σ σ'
def y0u (n : Nat) (g : TGs) : Prop := ∀ vs σ H Q, g vs σ H Q -> g vs σ H fun σ' H' => Q σ' H' /\ z4o n σ σ'
theorem z4o.refl (n : Nat) (σ : St) : z4o n σ σ := ⟨rfl, fun _ _ => rfl⟩
theorem z4o.trans {n : Nat} {a b c : St} (x : z4o n a b) (y : z4o n b c) : z4o n a c := ⟨y.1.trans x.1, fun i h => (y.2 i h).trans (x.2 i h)⟩
theorem z0M {n i : Nat} (h : i < n) : OwnG n (y03 i) := fun v σ H Q q => ⟨q, by simp, fun j hj => List.getElem?_set_ne (by omega)⟩
theorem z8i {n : Nat} : y0u n gNil := fun vs σ H Q q => ⟨q.1, q.2, z4o.refl n σ⟩
def z89 (g : TG) : Prop := ∀ v σ H (Q Q' : St -> Hp -> Prop), (∀ σ' H', Q σ' H' -> Q' σ' H') -> g v σ H Q -> g v σ H Q'
def z6x (g : TGs) : Prop := ∀ vs σ H (Q Q' : St -> Hp -> Prop), (∀ σ' H', Q σ' H' -> Q' σ' H') -> g vs σ H Q -> g vs σ H Q'
theorem z0q {i : Nat} : z89 (y03 i) := fun _ _ _ _ _ f q => f _ _ q
theorem z25 : z6x gNil := fun _ _ _ _ _ f q => ⟨q.1, f _ _ q.2⟩
theorem z1y {t : TG} {u : TGs} (a : z89 t) (b : z6x u) : z6x (y3N t u) := fun vs σ H Q Q' f q => by
 obtain ⟨v, r, e, q⟩ := q
 exact ⟨v, r, e, a _ _ _ _ _ (fun σ' H' z => b _ _ _ _ _ f z) q⟩
theorem y2f {K : PySem.W.Frag} {n : Nat} {t : TGs} (a : z6x t) : z89 (gTup K n t) := fun v σ H Q Q' f q => by
 obtain ⟨p, xs, e, h1, h2, q⟩ := q
 exact ⟨p, xs, e, h1, h2, a _ _ _ _ _ f q⟩
theorem z3A {n : Nat} {t : TG} {u : TGs} (a : OwnG n t) (m : z89 t) (b : y0u n u) (m' : z6x u) : y0u n (y3N t u) := fun vs σ H Q q => by
 obtain ⟨v, r, e, q⟩ := q
 refine ⟨v, r, e, m _ _ _ _ _ (fun σ' H' z => ?_) (a _ _ _ _ q)⟩
 exact m' _ _ _ _ _ (fun σ2 H2 y => ⟨y.1, z.2.trans y.2⟩) (b _ _ _ _ z.1)
theorem y3G {K : PySem.W.Frag} {n k : Nat} {t : TGs} (a : y0u n t) : OwnG n (gTup K k t) := fun v σ H Q q => by
 obtain ⟨p, xs, e, h1, h2, q⟩ := q
 exact ⟨p, xs, e, h1, h2, a _ _ _ _ q⟩
def z1H (g : TG) (tc : TT) (te : TE) (σ0 : St) (x : V) (H : Hp) (ys : List V) (N : List V -> Hp -> Prop) : Prop :=
 g x σ0 H fun σ2 H2 => tc σ2 H2 fun b H3 => if b = true then te σ2 H3 fun y H4 => N (ys ++ [y]) H4 else N ys H3
def y4e (own : Nat) (ix : List Nat) (wi : TI) (g : TG) (tc : TT) (te : TE) (σ : St) (H : Hp) (F : List V -> Hp -> Prop) : Prop :=
 wi σ H fun J H1 => ∃ W : Nat -> Nat -> List V -> Hp -> Prop, (∃ m, W 0 m [] H1) /\ ∀ i m ys H, W i m ys H ->
  (J.stop i H /\ F ys H) \/ (J.go i H /\ ys.length < sizeLine /\ ∃ N : List V -> Hp -> Prop, (∀ zs H', N zs H' -> ∃ m', m' < m /\ W (i + 1) m' zs H') /\
   ∀ x H', J.yld i H x H' -> z1H g tc te (z5Y own ix σ) x H' ys N)
theorem z6J {elt iter tg : Expr} {ifs : List Expr} {pos : Pos} {pins : List (Addr × Obj)} {σ : St} {s2 : Shared} {itv : Value} {g : TG} {tc : TT} {te : TE} {F : List V -> Hp -> Prop} {RR : Value -> Addr -> Result -> Shared -> Prop} {E : Value -> Shared -> Prop}
  (S : CompScope X scope cl own caps ix) (hc : X.calm = true)
  (hg : ∀ C s3 H1 ex pn, PG (z3c X scope cl (own ++ caps) C s3 H1 ex pn) tg g) (og : OwnG own.length g) (mg : z89 g)
  (ht : ∀ C s3 H1 ex pn, PTs (z3c X scope cl (own ++ caps) C s3 H1 ex pn) ifs tc)
  (he : ∀ C s3 H1 ex pn, PE (z3c X scope cl (own ++ caps) C s3 H1 ex pn) elt te)
  (h : PIE X pins σ tg (fun J H1 => ∃ W : Nat -> Nat -> List V -> Hp -> Prop, (∃ m, W 0 m [] H1) /\ ∀ i m ys H, W i m ys H ->
   (J.stop i H /\ F ys H) \/ (J.go i H /\ ys.length < sizeLine /\ ∃ N : List V -> Hp -> Prop, (∀ zs H', N zs H' -> ∃ m', m' < m /\ W (i + 1) m' zs H') /\
    ∀ x H', J.yld i H x H' -> z1H g tc te (z5Y own.length ix σ) x H' ys N)) itv s2)
  (hRR : ∀ D C m H' ys s', Inv X pins σ (upd H' D (.lst ys)) s' -> FpOk X pins (upd H' D (.lst ys)) C -> s'.heap.Ns C m -> H' D = none -> F ys H' -> RR (.ref D) C (.ok .next) s') :
  wpAny (model X.prog X.w) X.A (newList []) (fun acc s3 => wpAny (model X.prog X.w) X.A (newFunctionEnv scope X.env.globals cl [] X.env.qual none .none (some X.env)) (fun cenv s4 =>
   codeAny (model X.prog X.w) X.A (.compStart (.ListComp elt [⟨tg, iter, ifs, 0⟩] scope pos) 0 itv acc { cenv with scope := relabel scope X.env }) (RR acc cenv.locals) s4) E s3) E s2 := by
 obtain ⟨it, fp, tn, J, H1, e, I2, T, st2, f2, W, ⟨m0, w0⟩, turn⟩ := h
 subst e
 refine wpAny_newObj_type (wpAny_newFunctionEnv S.cell (by intro y hy; simp at hy) (fun h1 hns1 hsb1 => ?_) S.kind)
 dsimp only at hns1 hsb1 ⊢
 generalize hH2 : s2.heap.push { cls := .type "list", dict := none, data := .seq ([] : List Value).toArray } = h2 at hns1 hsb1 ⊢
 have keep2 : ∀ b o, s2.heap.get? b = some o -> h2.get? b = some o := fun b o e => hH2 ▸ Heap.get?_push_of_some _ e
 have sz2 : h2.objs.size = s2.heap.objs.size + 1 := by rw [<- hH2, Heap.size_push]
 have hDC : s2.heap.objs.size ≠ h2.objs.size := by omega
 have keep1 : ∀ b o, h2.get? b = some o -> h1.get? b = some o := fun b o e => hsb1.extBut b o (Nat.ne_of_lt (Heap.lt_size e)) (Heap.get?_push_of_some _ e)
 have getD2 : h2.get? s2.heap.objs.size = some { cls := .type "list", dict := none, data := .seq ([] : List Value).toArray } := hH2 ▸ Heap.get?_push_size _ rfl
 have I3 : Inv X pins σ H1 { s2 with heap := h2, toks := s2.toks } := I2.kept keep2
 have fD : FpOk X pins H1 s2.heap.objs.size := I2.fpOk (Nat.le_refl _) I2.fresh
 have fDs : ∀ {H' : Hp}, H' s2.heap.objs.size = none -> FpOk X pins H' s2.heap.objs.size := fun hn => ⟨hn, fD.2⟩
 have fpLt : ∀ b ∈ fp, b < s2.heap.objs.size := fun b hb => by
  obtain ⟨o, e, _⟩ := T.obj _ _ st2 b hb
  exact Heap.lt_size e
 have hDfp : s2.heap.objs.size ∉ fp := fun z => Nat.lt_irrefl _ (fpLt _ z)
 have exOk : ∀ b ∈ s2.heap.objs.size :: fp, b < h2.objs.size /\ b ≠ X.env.locals /\ b ∉ X.fs /\ (b ∈ X.ex \/ X.s₀.heap.objs.size ≤ b) /\ ∀ x c, X.env.cells.lookup x = some c -> c ≠ b := fun b hb => by
  rcases List.mem_cons.mp hb with rfl | hb
  ·exact ⟨by omega, fD.2.1, fD.2.2.1, fD.2.2.2.1, fD.2.2.2.2.1⟩
  ·have := fpLt b hb
   obtain ⟨_, a1, a2, a3, a4, _⟩ := f2 b hb
   exact ⟨by rw [sz2]; exact Nat.lt_succ_of_lt this, a1, a2, a3, a4⟩
 have I4 : Inv (z3c X scope cl (own ++ caps) h2.objs.size { s2 with heap := h2, toks := s2.toks } H1 (s2.heap.objs.size :: fp) pins) [] (z5Y own.length ix σ) H1 { s2 with heap := h1, toks := s2.toks + ([] : List (Str × Value)).length } :=
  y1Q S I3 exOk hns1 keep1
 generalize hX : z3c X scope cl (own ++ caps) h2.objs.size { s2 with heap := h2, toks := s2.toks } H1 (s2.heap.objs.size :: fp) pins = Y at I4
 have HG : PG Y tg g := by rw [<- hX]; exact hg _ _ _ _ _
 have HT : PTs Y ifs tc := by rw [<- hX]; exact ht _ _ _ _ _
 have HE : PE Y elt te := by rw [<- hX]; exact he _ _ _ _ _
 have eP : Y.prog = X.prog := by rw [<- hX]; rfl
 have eW : Y.w = X.w := by rw [<- hX]; rfl
 have eK : Y.K = X.K := by rw [<- hX]; rfl
 have eA : Y.A = X.A := by rw [<- hX]; rfl
 have eC : Y.calm = true := by rw [<- hX]; exact hc
 have eE : Y.xe = noE := by rw [<- hX]; rfl
 have eEnv : Y.env = compEnvC scope cl h2.objs.size X.env := by rw [<- hX]; rfl
 have eEx : Y.ex = s2.heap.objs.size :: fp := by rw [<- hX]; rfl
 have ePn : Y.pn = X.pn ++ pins := by rw [<- hX]; rfl
 have eFs : Y.fs = frs X.stack := by rw [<- hX]; rfl
 have eCells : ∀ x c, Y.env.cells.lookup x = some c -> X.env.cells.lookup x = some c := fun x c e => by
  rw [eEnv] at e
  exact S.look x c e
 have eLoc : Y.env.locals = h2.objs.size := by rw [eEnv]; rfl
 have fY : ∀ {pl : List (Addr × Obj)} {H' : Hp} {b : Addr}, b ∈ s2.heap.objs.size :: fp -> H' b = none -> (∀ p ∈ pl, p.1 ≠ b) -> FpOk Y pl H' b := fun {pl H' b} hb hn hpl => by
  obtain ⟨l, a1, a2, a3, a4⟩ := exOk b hb
  refine ⟨hn, by rw [eLoc]; exact Nat.ne_of_lt l, fun z => ?_, .inl (by rw [eEx]; exact hb), fun x c e => a4 x c (eCells x c e), fun p hp => ?_⟩
  ·rw [eFs] at z
   rcases List.mem_cons.mp (I3.stkSub b z) with z | z
   ·exact a1 z
   ·exact a2 z
  ·rcases List.mem_append.mp hp with z | z
   ·rw [ePn] at z
    rcases List.mem_cons.mp hb with rfl | hb
    ·exact fD.2.2.2.2.2 p z
    ·exact (f2 b hb).2.2.2.2.2 p z
   ·exact hpl p z
 let IV : Nat -> Shared -> Prop := fun n s' => ∃ i ys its c H', Inv Y [] (z5Y own.length ix σ) H' s' /\ tn i s'.heap /\ (∀ b ∈ fp, H' b = none) /\ H' s2.heap.objs.size = none /\ Vals ys its /\
  s'.heap.get? s2.heap.objs.size = some { cls := .type "list", data := .seq its.toArray c } /\ ys.length ≤ sizeLine /\ W i n ys H'
 have loop : ∀ s3 : Shared, s3 = { s2 with heap := h1, toks := s2.toks + ([] : List (Str × Value)).length } ->
   codeAny (model X.prog X.w) X.A (.compLoop (.ListComp elt [⟨tg, iter, ifs, 0⟩] scope pos) 0 (.ref it) (.ref s2.heap.objs.size) (compEnvC scope cl h2.objs.size X.env)) (RR (.ref s2.heap.objs.size) h2.objs.size) s3 := by
  rintro s3 rfl
  refine z8Q IV ?_ m0 ⟨0, [], [], _, H1, I4, T.keep _ _ _ st2 fun b _ o e => keep1 b o (keep2 b o e), fun b hb => (f2 b hb).1, I2.fresh, .nil, keep1 _ _ getD2, Nat.zero_le _, w0⟩
  rintro n s5 ⟨i, ys, its, c, H5, I5, st5, fr5, nD5, v5, gD5, z5, w5⟩
  have I5p : Inv Y [(s2.heap.objs.size, { cls := .type "list", data := .seq its.toArray c })] (z5Y own.length ix σ) H5 s5 := I5.pins_of fun p hp => by
   have e : p = (s2.heap.objs.size, { cls := .type "list", data := .seq its.toArray c }) := by simpa using hp
   subst e
   obtain ⟨_, b1, b2, _⟩ := fY (pl := []) (H' := H5) (b := s2.heap.objs.size) List.mem_cons_self nD5 (fun p hp => nomatch hp)
   exact ⟨gD5, nD5, b1, b2, fun v z => by cases z⟩
  have fps : ∀ {H' : Hp}, (∀ b ∈ fp, H' b = none) -> ∀ b ∈ fp, FpOk Y [(s2.heap.objs.size, { cls := .type "list", data := .seq its.toArray c })] H' b := fun hn b hb =>
   fY (List.mem_cons_of_mem _ hb) (hn b hb) fun p hp => by
    have e : p = (s2.heap.objs.size, { cls := .type "list", data := .seq its.toArray c }) := by simpa using hp
    subst e
    exact fun z => hDfp (by have z' : s2.heap.objs.size = b := z; rw [z']; exact hb)
  rcases turn i n ys H5 w5 with ⟨stop, fin⟩ | ⟨go, hlen, N, hN, step⟩
  ·have q := T.done Y eP eW eK eC i _ s5 _ H5 noE I5p (fps fr5) st5 stop
   rw [eA] at q
   refine thn q fun r s6 ⟨hr, I6⟩ => ?_
   subst hr
   have gD6 := (I6.pin (s2.heap.objs.size, { cls := .type "list", data := .seq its.toArray c }) (List.mem_append_right _ (by simp))).1
   have u6 : Un (frs X.stack) (s2.heap.objs.size :: fp) H1 H5 h2 s6.heap := by
    have := I6.base
    rw [eFs, eEx] at this
    rw [<- hX] at this
    exact this
   have os6 : s6.os = s2.os := by
    have := I6.os
    rw [<- hX] at this
    exact this
   have hok6 : HOk X.prog X.w H5 s6.heap := by
    have := I6.hok
    rw [eP, eW] at this
    exact this
   have J6 : Inv X pins σ H5 s6 := I3.call' (s' := s6) os6 u6 hok6 I6.bare fun b hb => by
    obtain ⟨l, a1, a2, a3, a4⟩ := exOk b hb
    refine ⟨a3, a1, a4, ?_⟩
    rcases List.mem_cons.mp hb with rfl | hb
    ·exact fD.2.2.2.2.2
    ·exact (f2 b hb).2.2.2.2.2
   have J7 : Inv X pins σ (upd H5 s2.heap.objs.size (.lst ys)) s6 := J6.track (fDs nD5) ⟨z5, its, c, v5, gD6⟩
   obtain ⟨mC, hC, _⟩ := I6.loc
   rw [eLoc] at hC
   have nC : H5 h2.objs.size = none := by
    have := I6.free
    rw [eLoc] at this
    exact this
   refine hRR _ _ mC H5 ys s6 J7 (I3.fpOk (Nat.le_refl _) ?_) hC nD5 fin
   show upd H5 s2.heap.objs.size (.lst ys) h2.objs.size = none
   rw [z0b (Ne.symm hDC)]
   exact nC
  ·have q := T.item Y eP eW eK eC i _ s5 _ H5 noE I5p (fps fr5) st5 go
   rw [eA] at q
   refine thn q fun r s6 ⟨u, hr, h6⟩ => ?_
   subst hr
   refine thn h6 fun _ s7 ⟨x, H7, I7, r7, y7, st7, fr7⟩ => ?_
   have I7p := I7.pinned (fps fr7) (T.obj _ _ st7)
   have st := og _ _ _ _ (step x H7 y7)
   have q2 := HG _ s7 _ H7 x u _ I7p r7 st
   rw [eE, eP, eW, eA, eEnv] at q2
   refine thn q2 fun _ s8 ⟨σ8, H8, I8, q8, fr8⟩ => ?_
   have q3 := HT _ s8 σ8 H8 _ I8 q8
   rw [eE, eP, eW, eA, eEnv] at q3
   refine thn q3 fun ok s9 ⟨H9, I9, q9⟩ => ?_
   have back : ∀ {H' : Hp} {s' : Shared}, Inv Y ([(s2.heap.objs.size, ({ cls := .type "list", data := .seq its.toArray c } : Obj))] ++ z7Z fp s7.heap) σ8 H' s' ->
     Inv Y [] (z5Y own.length ix σ) H' s' /\ tn (i + 1) s'.heap /\ (∀ b ∈ fp, H' b = none) /\ H' s2.heap.objs.size = none /\ s'.heap.get? s2.heap.objs.size = some { cls := .type "list", data := .seq its.toArray c } := fun {H' s'} I' => by
    have pD := I'.pin (s2.heap.objs.size, { cls := .type "list", data := .seq its.toArray c }) (List.mem_append_right _ (List.mem_append_left _ (by simp)))
    refine ⟨(I'.pins_of (pins' := []) fun p hp => nomatch hp).weak fr8.1.symm fun j v e => ?_, T.keep _ _ _ st7 fun b hb o e => (I'.pin (b, o) (List.mem_append_right _ (List.mem_append_right _ (z3x hb e)))).1, fun b hb => ?_, pD.2.1, pD.1⟩
    ·by_cases hj : j < own.length
     ·have e' : (List.replicate own.length none ++ ix.map fun i => (σ[i]?).join : St)[j]? = some (some v) := e
      rw [List.getElem?_append_left (by simpa using hj), List.getElem?_replicate, if_pos hj] at e'
      cases e'
     ·rw [fr8.2 j (Nat.le_of_not_lt hj)]
      exact e
    ·obtain ⟨o, e, d⟩ := T.obj _ _ st7 b hb
     exact (I'.pin (b, o) (List.mem_append_right _ (List.mem_append_right _ (z3x hb e)))).2.1
   cases ok with
   | false =>
    obtain ⟨m', hm, w9⟩ := hN _ _ (show N ys H9 from q9)
    obtain ⟨b1, b2, b3, b4, b5⟩ := back I9
    exact ⟨m', hm, i + 1, ys, its, c, H9, b1, b2, b3, b4, v5, b5, z5, w9⟩
   | true =>
    have q9' : te σ8 H9 fun y H4 => N (ys ++ [y]) H4 := q9
    have q4 := HE _ s9 σ8 H9 _ I9 q9'
    rw [eE, eP, eW, eA, eEnv] at q4
    refine thn q4 fun yv s10 ⟨y, H10, I10, r10, n10⟩ => ?_
    obtain ⟨b1, b2, b3, b4, b5⟩ := back I10
    obtain ⟨m', hm, w10⟩ := hN _ _ n10
    have hl := v5.length
    refine call_meets PySem.F.slot_list_append ⟨_, b5, rfl⟩ PySem.F.entry_list_append (PySem.F.args_list_append_2 _ _) (PySem.list_append s2.heap.objs.size its.toArray c yv (by rw [List.size_toArray]; omega)) ⟨b5, ?_⟩
    have q5 := PySem.IsL.update b5 (fun a => a.push yv)
    have e5 : its.toArray.push yv = (its ++ [yv]).toArray := by simp
    rw [e5] at q5
    have k5 : ∀ b o, b ≠ s2.heap.objs.size -> s10.heap.get? b = some o -> (s10.heap.update s2.heap.objs.size (Obj.mapSeq fun a => a.push yv)).get? b = some o := fun b o hb e =>
     (Heap.get?_update_other s10.heap (Obj.mapSeq fun a => a.push yv) (Ne.symm hb)).trans e
    obtain ⟨f0, f1, f2', f3, f4, f5⟩ := fY (pl := []) (H' := H10) (b := s2.heap.objs.size) List.mem_cons_self b4 (fun p hp => nomatch hp)
    have b1' := b1.turned (t' := s10.toks) k5 f0 f1 f3 f4 f5
    refine ⟨m', hm, i + 1, ys ++ [y], its ++ [yv], _, H10, b1', T.keep _ _ _ b2 fun b hb o e => k5 b o (fun z => hDfp (by rw [<- z]; exact hb)) e, b3, b4, v5.append (.cons r10 .nil), q5, ?_, w10⟩
    ·rw [List.length_append, List.length_singleton]
     omega
 exact codeAny_compStart_list (loop _ rfl) (T.self _ 0 _ _ _ (T.keep _ _ _ st2 fun b _ o e => keep1 b o (keep2 b o e)) (loop _ rfl))
def y4g (own : Nat) (ix : List Nat) (wi : TI) (g : TG) (tc : TT) (te : TE) : TE := fun σ H Q => y4e own ix wi g tc te σ H fun ys H' => ∀ D, H' D = none -> Q (.ref D) (upd H' D (.lst ys))
theorem z2y {elt iter tg : Expr} {ifs : List Expr} {pos : Pos} {wi : TI} {g : TG} {tc : TT} {te : TE} (own caps : List Str) (ix : List Nat)
  (hc : X.calm = true) (S : CompScope X scope cl own caps ix) (hi : PI X tg iter wi)
  (hg : ∀ C s3 H1 ex pn, PG (z3c X scope cl (own ++ caps) C s3 H1 ex pn) tg g) (og : OwnG own.length g) (mg : z89 g)
  (ht : ∀ C s3 H1 ex pn, PTs (z3c X scope cl (own ++ caps) C s3 H1 ex pn) ifs tc)
  (he : ∀ C s3 H1 ex pn, PE (z3c X scope cl (own ++ caps) C s3 H1 ex pn) elt te)
  (hs : ∀ x, foldedSetIterable iter X.env x = pure x := by intro _; rfl) :
  PE X (.ListComp elt [⟨tg, iter, ifs, 0⟩] scope pos) (y4g own.length ix wi g tc te) := by
 intro pins s σ H Q I h
 rw [eval_ListComp]
 refine wpAny_comprehension_free (use := none) rfl hs (z59 S.clos) S.kind S.names (thn (hi pins s σ H _ I h) fun v s1 h1 => thn h1 fun itv s2 h2 => ?_)
 refine z6J (RR := fun acc C => compPost (model X.prog X.w) X.A X.xe none (EP X pins σ Q) acc C) S hc hg og mg ht he h2 ?_
 intro D C m H' ys s' I' fC hn hD fin
 refine ⟨m, hn, fun h' sb => ?_⟩
 obtain ⟨f0, f1, f2, f3, f4, f5⟩ := fC
 have I2 := I'.turned (t' := s'.toks) (h' := h') (it := C) (fun b o hb e => (sb.2 b hb).trans e) f0 f1 f3 f4 f5
 exact ⟨.ref D, _, I2, rfl, fin D hD⟩
theorem z4J {elt iter tg : Expr} {ifs : List Expr} {pos pos' spos : Pos} {x : Str} {i : Nat} {wi : TI} {g : TG} {tc : TT} {te : TE} (own caps : List Str) (ix : List Nat)
  (hc : X.calm = true) (hN : X.N.Nodup) (hx : X.N[i]? = some x) (hl : Loc X.env.scope x) (S : CompScope X scope cl own caps ix) (hi : PI X tg iter wi)
  (hg : ∀ C s3 H1 ex pn, PG (z3c X scope cl (own ++ caps) C s3 H1 ex pn) tg g) (og : OwnG own.length g) (mg : z89 g)
  (ht : ∀ C s3 H1 ex pn, PTs (z3c X scope cl (own ++ caps) C s3 H1 ex pn) ifs tc)
  (he : ∀ C s3 H1 ex pn, PE (z3c X scope cl (own ++ caps) C s3 H1 ex pn) elt te)
  (hsw : swapsWith (.ListComp elt [⟨tg, iter, ifs, 0⟩] scope pos) (some (.Name x pos')) spos.line X.env = pure true := by rfl)
  (hf : X.fn x = true \/ X.env.scope.names.lookup x = some .local := by first | exact .inl rfl | exact .inr rfl | assumption)
  (hs : ∀ x, foldedSetIterable iter X.env x = pure x := by intro _; rfl) :
  PS X (.Assign [.Name x pos'] (.ListComp elt [⟨tg, iter, ifs, 0⟩] scope pos) spos) (tAsg (y4g own.length ix wi g tc te) (y03 i)) := by
 intro pins s σ H D I h
 rw [exec_Assign_Name_used _ _ _ _ hsw]
 refine wpAny_bind (wpAny_standAt (wpAny_bind ?_))
 show wpAny _ X.A (do let _ <- comprehension (.ListComp elt [⟨tg, iter, ifs, 0⟩] scope pos) scope X.env _ (newList []) false (eval iter X.env) (some (assign (.Name x pos') X.env))) _ _ s
 refine wpAny_bind (wpAny_mono (wpAny_comprehension_free (use := some (assign (.Name x pos') X.env)) (Q := fun _ s' => SP X pins D .next s') rfl hs (z59 S.clos) S.kind S.names
  (thn (hi pins s σ H _ I h) fun v s1 h1 => thn h1 fun itv s2 h2 => ?_)) (fun _ s' hq => wpAny_pure (wpAny_pure hq)) fun _ _ e => e)
 refine z6J (RR := fun acc C => compPost (model X.prog X.w) X.A X.xe (some (assign (.Name x pos') X.env)) (fun _ s' => SP X pins D .next s') acc C) S hc hg og mg ht he h2 ?_
 intro D' C m H' ys s' I' fC hn hD fin
 obtain ⟨f0, f1, f2, f3, f4, f5⟩ := fC
 obtain ⟨oC, es, ep, hoC, hdC, hr⟩ := id hn
 show wpAny _ X.A (assign (.Name x pos') X.env (.ref D')) _ _ _
 have Ip : Inv X (pins ++ [(C, oC)]) σ (upd H' D' (.lst ys)) s' := I'.pins_of fun p hp => (List.mem_append.mp hp).elim (fun z => I'.pin p (List.mem_append_right _ z)) fun z => by
  have e : p = (C, oC) := by simpa using z
  subst e
  exact ⟨hoC, f0, f1, f2, fun v z => by rw [hdC] at z; cases z⟩
 refine thn (z0u hN hx hl hf (pins ++ [(C, oC)]) s' σ _ (.ref D') (.ref D') _ Ip rfl (fin D' hD)) fun _ s3 ⟨σ3, H3, I3, q3⟩ => ?_
 have pC := I3.pin (C, oC) (List.mem_append_right _ (List.mem_append_right _ (by simp)))
 refine ⟨m, ⟨oC, es, ep, pC.1, hdC, hr⟩, fun h' sb => ?_⟩
 have I4 : Inv X pins σ3 H3 s3 := I3.unpinned
 exact ⟨σ3, H3, I4.turned (t' := s3.toks) (h' := h') (it := C) (fun b o hb e => (sb.2 b hb).trans e) pC.2.1 f1 f3 f4 f5, q3⟩
end
section
variable {prog : Program} {w : World} {A : Around} {R : Result -> Shared -> Prop} {I : Addr} {fp wr : List Addr} {n : Nat} {P : Nat -> Value -> Prop} {St : Nat -> Heap -> Prop}
theorem y1N (W : Walks prog w A.in1 I fp wr n P St) (bt : Nat -> Nat -> Bool) (hcmp : CmpOf prog w A.in1 .Gt P bt) (S : Addr) (hSf : S ∉ fp) (kw : List (Str × Value)) :
  ∀ (k j : Nat) (s : Shared) (vb : Value) (c : Nat), n - (j + 1) = k -> j + 1 ≤ n -> St (j + 1) s.heap -> P (argBest bt j) vb ->
  s.heap.get? S = some { cls := .type "list", dict := none, data := .seq #[vb, vb] c, slots := #[] } ->
  (∀ v h' tk, P (argBest bt (n - 1)) v -> (∀ b o, b ∉ wr -> b ≠ S -> s.heap.get? b = some o -> h'.get? b = some o) -> R (.ok (.ret v)) { s with heap := h', toks := tk }) ->
  codeAny (model prog w) A (.builtin "max.loop" ⟨[.ref I, .none, .ref S], kw⟩) R s := by
 have hSw : S ∉ wr := fun h => hSf (W.sub _ h)
 have hname : (toString "max" ++ toString ".loop" : String) = "max.loop" := by decide
 intro k
 induction k with
 | zero =>
  intro j s vb c hk hj hst hPb hS hR
  have hin : j + 1 = n := by omega
  refine codeAny_builtin PySem.F.entry_max_loop ?_
  rw [Around.under_plainId PySem.F.plain_max_loop _]
  show wpAny _ A.in1 (seqItems? (.ref S) >>= _) _ _ s
  refine wpAny_bind (wpAny_seqItems hS rfl ?_)
  show wpAny _ A.in1 (tryCatch (pyNext (.ref I)) _ >>= _) _ _ s
  refine wpAny_bind (wpAny_tryCatch (W.done s _ _ (hin ▸ hst) fun h' tk hk' => ?_))
  have hS' := hk' S _ hSw hS
  show wpAny _ A.in1 (updateSeq S (fun _ => #[]) >>= _) _ _ _
  refine wpAny_bind ?_
  refine wpAny_updateSeq hS' rfl (wpAny_bind (wpAny_letGo (wpAny_pure ?_)))
  refine hR vb _ tk (by rw [<- hin]; exact hPb) fun b o hbw hbS e => (Heap.get?_update_other _ _ (Ne.symm hbS)).trans (hk' b o hbw e)
 | succ k ih =>
  intro j s vb c hk hj hst hPb hS hR
  have hlt : j + 1 < n := by omega
  refine codeAny_builtin PySem.F.entry_max_loop ?_
  rw [Around.under_plainId PySem.F.plain_max_loop _]
  show wpAny _ A.in1 (seqItems? (.ref S) >>= _) _ _ s
  refine wpAny_bind (wpAny_seqItems hS rfl ?_)
  show wpAny _ A.in1 (tryCatch (pyNext (.ref I)) _ >>= _) _ _ s
  refine wpAny_bind (wpAny_tryCatch (W.item (j + 1) s _ _ hlt hst fun v h' tk hP hst' hk' => ?_))
  have hS' := hk' S _ hSw hS
  show wpAny _ A.in1 (tryCatch (holding [v, v] (richCompare .Gt v vb >>= _)) _ >>= _) _ _ _
  refine wpAny_bind (wpAny_tryCatch (wpAny_holding (wpAny_bind (hcmp (j + 1) (argBest bt j) v vb _ _ _ hP hPb ?_))))
  refine wpAny_bind (wpAny_holding (wpAny_truthy_bool ?_))
  refine wpAny_bind (wpAny_letGo (wpAny_pure ?_))
  cases hb : bt (j + 1) (argBest bt j) with
  | true =>
   simp only [if_true]
   refine wpAny_bind ?_
   refine wpAny_updateSeq hS' rfl (wpAny_bind (wpAny_letGo ?_))
   rw [hname]
   refine wpAny_pure ⟨plainId_quiet PySem.F.plain_max_loop _, ih (j + 1) _ v _ (by omega) hlt (W.frame _ _ _ hst' fun b hbf o e => ?_) (by simp only [argBest, hb, if_true]; exact hP) (Heap.get?_update_self _ hS' rfl)
    fun v' h'' tk'' hP' hk'' => ?_⟩
   ·exact (Heap.get?_update_other _ _ (fun h : S = b => hSf (by rw [h]; exact hbf))).trans e
   ·exact hR v' h'' tk'' hP' fun b o hbw hbS e => hk'' b o hbw hbS ((Heap.get?_update_other _ _ (Ne.symm hbS)).trans (hk' b o hbw e))
  | false =>
   simp only [Bool.false_eq_true, if_false]
   refine wpAny_bind (wpAny_letGo ?_)
   rw [hname]
   refine wpAny_pure ⟨plainId_quiet PySem.F.plain_max_loop _, ih (j + 1) _ vb c (by omega) hlt hst' (by simp only [argBest, hb, Bool.false_eq_true, if_false]; exact hPb) hS' fun v' h'' tk'' hP' hk'' => ?_⟩
   exact hR v' h'' tk'' hP' fun b o hbw hbS e => hk'' b o hbw hbS (hk' b o hbw e)
theorem y1n (W : Walks prog w A.in1 I fp wr n P St) (bt : Nat -> Nat -> Bool) (hcmp : CmpOf prog w A.in1 .Gt P bt) (S : Addr) (hSf : S ∉ fp) (kw : List (Str × Value)) (hn : 0 < n) {s : Shared} {c : Nat} (hst : St 0 s.heap)
  (hS : s.heap.get? S = some { cls := .type "list", dict := none, data := .seq #[] c, slots := #[] })
  (hR : ∀ v h' tk, P (argBest bt (n - 1)) v -> (∀ b o, b ∉ wr -> b ≠ S -> s.heap.get? b = some o -> h'.get? b = some o) -> R (.ok (.ret v)) { s with heap := h', toks := tk }) :
  codeAny (model prog w) A (.builtin "max.loop" ⟨[.ref I, .none, .ref S], kw⟩) R s := by
 have hSw : S ∉ wr := fun h => hSf (W.sub _ h)
 have hname : (toString "max" ++ toString ".loop" : String) = "max.loop" := by decide
 refine codeAny_builtin PySem.F.entry_max_loop ?_
 rw [Around.under_plainId PySem.F.plain_max_loop _]
 show wpAny _ A.in1 (seqItems? (.ref S) >>= _) _ _ s
 refine wpAny_bind (wpAny_seqItems hS rfl ?_)
 show wpAny _ A.in1 (tryCatch (pyNext (.ref I)) _ >>= _) _ _ s
 refine wpAny_bind (wpAny_tryCatch (W.item 0 s _ _ hn hst fun v h' tk hP hst' hk' => ?_))
 have hS' := hk' S _ hSw hS
 show wpAny _ A.in1 (updateSeq S (fun _ => #[v, v]) >>= _) _ _ _
 refine wpAny_bind ?_
 refine wpAny_updateSeq hS' rfl ?_
 rw [hname]
 refine wpAny_pure ⟨plainId_quiet PySem.F.plain_max_loop _, y1N W bt hcmp S hSf kw _ 0 _ v _ rfl hn (W.frame _ _ _ hst' fun b hbf o e => ?_) hP (Heap.get?_update_self _ hS' rfl) fun v' h'' tk'' hP' hk'' => ?_⟩
 ·exact (Heap.get?_update_other _ _ (fun h : S = b => hSf (by rw [h]; exact hbf))).trans e
 ·exact hR v' h'' tk'' hP' fun b o hbw hbS e => hk'' b o hbw hbS ((Heap.get?_update_other _ _ (Ne.symm hbS)).trans (hk' b o hbw e))
theorem y1S (W : Walks prog w A.in1 I fp wr n P St) (S : Addr) (hSf : S ∉ fp) (kn : Str) (d : Value) (hn : n = 0) {s : Shared} {c : Nat} (hst : St 0 s.heap)
  (hS : s.heap.get? S = some { cls := .type "list", dict := none, data := .seq #[] c, slots := #[] })
  (hR : ∀ h' tk, (∀ b o, b ∉ wr -> s.heap.get? b = some o -> h'.get? b = some o) -> R (.ok (.ret d)) { s with heap := h', toks := tk }) :
  codeAny (model prog w) A (.builtin "max.loop" ⟨[.ref I, .none, .ref S], [(kn, d)]⟩) R s := by
 refine codeAny_builtin PySem.F.entry_max_loop ?_
 rw [Around.under_plainId PySem.F.plain_max_loop _]
 show wpAny _ A.in1 (seqItems? (.ref S) >>= _) _ _ s
 refine wpAny_bind (wpAny_seqItems hS rfl ?_)
 show wpAny _ A.in1 (tryCatch (pyNext (.ref I)) _ >>= _) _ _ s
 refine wpAny_bind (wpAny_tryCatch (W.done s _ _ (hn ▸ hst) fun h' tk hk' => ?_))
 exact wpAny_bind (wpAny_rule (wpAny_pure (hR h' tk hk')))
theorem z5i (a v : Value) : argsOk "max" ⟨[a], [(Str.ofString "default", v)]⟩ := by unfold argsOk; kernel_rfl
theorem y2v {x d : Value} {s : Shared} {E : Value -> Shared -> Prop} {Q : Value -> Shared -> Prop}
  (h : wpAny (model prog w) A.in1 (pyIter x) (fun it s2 => ∃ I fp wr n P St bt, it = .ref I /\ Walks prog w A.in1 I fp wr n P St /\ St 0 s2.heap /\ (∀ b ∈ fp, b < s2.heap.objs.size) /\ CmpOf prog w A.in1 .Gt P bt /\
   (n = 0 -> ∀ h' tk, (∀ b o, b ∉ wr -> s2.heap.get? b = some o -> h'.get? b = some o) -> Q d { s2 with heap := h', toks := tk }) /\
   (0 < n -> ∀ v h' tk, P (argBest bt (n - 1)) v -> (∀ b o, b ∉ wr -> s2.heap.get? b = some o -> h'.get? b = some o) -> Q v { s2 with heap := h', toks := tk })) E s) :
  wpAny (model prog w) A (call (.builtin "max") [x] [(Str.ofString "default", d)]) Q E s := by
 have hname : (toString "max" ++ toString ".loop" : String) = "max.loop" := by decide
 refine kmk_tree PySem.F.kind_max PySem.F.plain_max PySem.F.entry_max (z5i _ _) ?_
 show wpAny _ A.in1 (Builtin.Builtins.bindParams "max" ["key", "default"] 0 ⟨[], [(Str.ofString "default", d)]⟩ >>= _) _ _ s
 refine wpAny_bind (wpAny_of_eq (show Builtin.Builtins.bindParams "max" ["key", "default"] 0 ⟨[], [(Str.ofString "default", d)]⟩ = pure [none, some d] from by kernel_rfl) ?_)
 refine wpAny_bind (wpAny_pure ?_)
 refine wpAny_bind (wpAny_mono h (fun it s2 h2 => ?_) fun _ _ e => e)
 obtain ⟨I, fp, wr, n, P, St, bt, rfl, W, hst, hfp, hcmp, hQ0, hQ⟩ := h2
 refine wpAny_bind (wpAny_newObj_type ?_)
 have hSf : s2.heap.objs.size ∉ fp := fun hm => Nat.lt_irrefl _ (hfp _ hm)
 rw [hname]
 refine wpAny_pure ⟨plainId_quiet PySem.F.plain_max_loop _, ?_⟩
 by_cases hn : n = 0
 ·exact y1S W s2.heap.objs.size hSf _ d hn (W.frame _ _ _ hst fun b _ o e => Heap.get?_push_of_some _ e) (Heap.get?_push_size _ rfl) fun h' tk hk => hQ0 hn h' tk fun b o hbw e => hk b o hbw (Heap.get?_push_of_some _ e)
 ·exact y1n W bt hcmp s2.heap.objs.size hSf _ (Nat.pos_of_ne_zero hn) (W.frame _ _ _ hst fun b _ o e => Heap.get?_push_of_some _ e) (Heap.get?_push_size _ rfl) fun v h' tk hP hk =>
   hQ (Nat.pos_of_ne_zero hn) v h' tk hP fun b o hbw e => hk b o hbw (Nat.ne_of_lt (Heap.lt_size e)) (Heap.get?_push_of_some _ e)
end
theorem z8X (f : Nat -> Int) : ∀ k, argBest (fun i j => decide (f i > f j)) k ≤ k /\ ∀ i, i ≤ k -> f i ≤ f (argBest (fun i j => decide (f i > f j)) k)
 | 0 => ⟨Nat.le_refl _, fun i hi => by rw [Nat.le_zero.mp hi]; exact Int.le_refl _⟩
 | k + 1 => by
  obtain ⟨h1, h2⟩ := z8X f k
  unfold argBest
  by_cases c : f (k + 1) > f (argBest (fun i j => decide (f i > f j)) k)
  ·rw [if_pos (decide_eq_true c)]
   refine ⟨Nat.le_refl _, fun i hi => ?_⟩
   by_cases e : i = k + 1
   ·rw [e]; exact Int.le_refl _
   ·have := h2 i (by omega)
    omega
  ·rw [if_neg (by rw [decide_eq_false c]; exact Bool.false_ne_true)]
   refine ⟨by omega, fun i hi => ?_⟩
   by_cases e : i = k + 1
   ·rw [e]; omega
   ·exact h2 i (by omega)
section
variable {X : Cx}
def SqI (K : PySem.W.Frag) (H : Hp) (p : Addr) (ns : List Int) : Prop := SqL K H p (ns.map V.int) \/ SqT K H p (ns.map V.int)
theorem z8V {ns : List Int} {its : List Value} (r : Vals (ns.map V.int) its) : ∀ (i : Nat) (v : Value), its.toArray[i]? = some v -> ∃ t, v = .int (ns.getD i 0) t := by
 intro i v e
 have e' : its[i]? = some v := by simpa using e
 have hi : i < its.length := (List.getElem?_eq_some_iff.mp e').1
 have hl := r.length
 rw [List.length_map] at hl
 obtain ⟨u, hu, ru⟩ := r.get (i := i) (x := .int (ns.getD i 0)) (by
  rw [List.getElem?_map, List.getD_eq_getElem?_getD]
  have : ns[i]? = some ns[i] := List.getElem?_eq_getElem (by omega)
  rw [this]; rfl)
 rw [e'] at hu
 cases hu
 exact ru
theorem y0z {pins : List (Addr × Obj)} {σ : St} {H : Hp} {s : Shared} {p : Addr} {ns : List Int} {A : Around} {E : Value -> Shared -> Prop} {Q : Value -> Shared -> Prop} (I : Inv X pins σ H s) (hh : A.handled = none) (hq : SqI X.K H p ns)
  (h : ∀ (it : Addr) (fp : List Addr) (St : Nat -> Heap -> Prop) (its : List Value) (s2 : Shared), Vals (ns.map V.int) its -> Walks X.prog X.w A it fp [it] its.toArray.size (fun i v => its.toArray[i]? = some v) St -> St 0 s2.heap -> (∀ b ∈ fp, b < s2.heap.objs.size) ->
   (∀ h' tk, (∀ b o, b ∉ [it] -> s2.heap.get? b = some o -> h'.get? b = some o) -> Inv X pins σ H { s2 with heap := h', toks := tk }) -> Q (.ref it) s2) :
  wpAny (model X.prog X.w) A (pyIter (.ref p)) Q E s := by
 have back : ∀ (o : Obj) (h' : Heap) (tk : Nat), (∀ b ob, b ∉ [s.heap.objs.size] -> (s.heap.push o).get? b = some ob -> h'.get? b = some ob) -> Inv X pins σ H { s with heap := h', toks := tk } := fun o h' tk k =>
  I.kept fun b ob e => k b ob (fun z => absurd (Heap.lt_size e) (by rw [List.mem_singleton.mp z]; exact Nat.lt_irrefl _)) (Heap.get?_push_of_some _ e)
 rcases hq with hq | hq
 ·obtain ⟨its, r, pl, hz⟩ := I.list hq
  have hlt : p < s.heap.objs.size := by obtain ⟨_, e, _⟩ := pl.isList; exact Heap.lt_size e
  refine wpAny_pyIter_list pl.isList ?_
  refine h s.heap.objs.size [s.heap.objs.size, p] _ its _ r (Walks.list hh s.heap.objs.size p (Nat.ne_of_lt hlt) its.toArray) ⟨⟨_, Heap.get?_push_size _ rfl, rfl, rfl⟩, pl.isList.push _⟩ (fun b hb => ?_) fun h' tk k => back _ h' tk k
  show b < (s.heap.push _).objs.size
  rw [Heap.size_push]
  rcases List.mem_cons.mp hb with rfl | hb
  ·exact Nat.lt_succ_self _
  ·rw [List.mem_singleton.mp hb]; exact Nat.lt_succ_of_lt hlt
 ·obtain ⟨its, r, pl, hz⟩ := I.tuple hq
  have hlt : p < s.heap.objs.size := by obtain ⟨_, e, _⟩ := pl; exact Heap.lt_size e
  refine wpAny_pyIter_tuple (show s.heap.IsTuple p its.toArray from pl) ?_
  refine h s.heap.objs.size [s.heap.objs.size, p] _ its _ r (Walks.tuple hh s.heap.objs.size p (Nat.ne_of_lt hlt) its.toArray) ⟨⟨_, Heap.get?_push_size _ rfl, rfl, rfl⟩, ?_⟩ (fun b hb => ?_) fun h' tk k => back _ h' tk k
  ·obtain ⟨o, e, c⟩ := (show s.heap.IsTuple p its.toArray from pl)
   exact ⟨o, Heap.get?_push_of_some _ e, c⟩
  ·show b < (s.heap.push _).objs.size
   rw [Heap.size_push]
   rcases List.mem_cons.mp hb with rfl | hb
   ·exact Nat.lt_succ_self _
   ·rw [List.mem_singleton.mp hb]; exact Nat.lt_succ_of_lt hlt
def y40 (K : PySem.W.Frag) (le : Int -> Int -> Prop) (ta td : TA) : TE := fun σ H Q => ta σ H fun xs H1 => td σ H1 fun ds H2 => ∃ p ns d, xs = [.ref p] /\ ds = [d] /\ SqI K H2 p ns /\ (ns = [] -> Q d H2) /\ ∀ m, m ∈ ns -> (∀ y ∈ ns, le y m) -> Q (.int m) H2
theorem y2b {ns : List Int} {i : Nat} (h : i < ns.length) : ns.getD i 0 ∈ ns := by
 rw [List.getD_eq_getElem?_getD, List.getElem?_eq_getElem h]
 exact List.getElem_mem h
theorem y2a {ns : List Int} {y : Int} (h : y ∈ ns) : ∃ i, i < ns.length /\ ns.getD i 0 = y := by
 obtain ⟨i, hi, e⟩ := List.mem_iff_getElem.mp h
 refine ⟨i, hi, ?_⟩
 rw [List.getD_eq_getElem?_getD, List.getElem?_eq_getElem hi]
 exact e
theorem y3A {e : Expr} {p pos kp : Pos} {dx : Expr} {ta td : TA} (hc : X.calm = true) (hg : Gl X "max") (hm : X.mg "max" = none) (ha : PA X [e] ta) (hd : PK X [⟨some (Str.ofString "default"), dx, kp⟩] td)
  (he : backTo pos (starEach [e] X.env) = (false, eval e X.env) :: backTo pos (starEach [] X.env) := by rfl)
  (hplain : (backTo pos (starEach [e] X.env)).any (·.1) = false := by rfl)
  (hall : (backToKw pos (keywordEach [⟨some (Str.ofString "default"), dx, kp⟩] X.env)).all (·.1.isSome) = true := by rfl)
  (hkw : (backToKw pos (keywordEach [⟨some (Str.ofString "default"), dx, kp⟩] X.env)).any (·.1.isNone) = false := by rfl) :
  PE X (.Call (.Name "max" p) [e] [⟨some (Str.ofString "default"), dx, kp⟩] pos) (y40 X.K (fun y m => y ≤ m) ta td) := by
 intro pins s σ H Q I h
 refine wpAny_Call_Name_kw (z53 I hg hm PyProof.Rows.boot_max ?_)
 refine PyProof.Rows.callWith_kw (thn (ha pos pins s σ H _ I h) fun us s1 ⟨vs, H1, I1, r, q⟩ => ?_) he hplain hall hkw
 refine thn (hd pos pins s1 σ H1 _ I1 q) fun ws s2 ⟨zs, H2, I2, rz, q2⟩ => ?_
 obtain ⟨a, ns, d, e1, e2, hq, q0, q1⟩ := q2
 subst e1 e2
 obtain ⟨u, rfl, ru⟩ := z5h r
 cases ru
 obtain ⟨dv, rfl, rd⟩ := z5h rz
 show wpAny _ X.A (call (.builtin "max") [.ref a] [(Str.ofString "default", dv)]) _ _ _
 refine y2v (y0z (A := X.A.in1) I2 (I2.ok.hd hc) hq fun it fp St its s3 rv W st hfp back => ?_)
 have hl := rv.length
 rw [List.length_map] at hl
 refine ⟨it, fp, [it], _, _, St, _, rfl, W, st, hfp, CmpOf.ints_gt (fun i => ns.getD i 0) (z8V rv), fun hn h' tk k => ?_, fun hn v h' tk hv k => ?_⟩
 ·rw [List.size_toArray] at hn
  exact ⟨d, H2, back h' tk k, rd, q0 (List.eq_nil_of_length_eq_zero (by omega))⟩
 ·rw [List.size_toArray] at hn hv
  obtain ⟨t, rfl⟩ := z8V rv _ _ hv
  obtain ⟨b1, b2⟩ := z8X (fun i => ns.getD i 0) (its.length - 1)
  refine ⟨.int _, H2, back h' tk k, ⟨t, rfl⟩, q1 _ (y2b (by omega)) fun y hy => ?_⟩
  obtain ⟨i, hi, rfl⟩ := y2a hy
  exact b2 i (by omega)
def rngV (i : Int) (n : Nat) : List V := (List.range n).map fun (k : Nat) => V.int (i + (k : Int))
theorem y0U : z33 X (.type "range") (fun xs H Q => ∃ i j, xs = [.int i, .int j] /\ ∀ p, H p = none -> Q (.ref p) (upd H p (.rng i j))) := by
 intro pins s σ H xs us Q I r h
 obtain ⟨i, j, rfl, q⟩ := h
 obtain ⟨u, w', rfl, ⟨t, rfl⟩, ⟨t', rfl⟩⟩ := z9P r
 refine call_range_2 ?_
 refine ⟨.ref s.heap.objs.size, _, I.laid (fun b o e => Heap.get?_push_of_some _ e) (Nat.le_refl _) (show z16 X.prog X.w _ _ _ (.rng i j) from ⟨t, t', s.toks, Heap.get?_push_size _ rfl⟩), rfl, q _ (I.hok.fresh (Nat.le_refl _))⟩
theorem z7c {prog : Program} {w : World} {A : Around} {E : Value -> Shared -> Prop} {s : Shared} {Q : List Value -> Shared -> Prop} {r : Addr} {a b c : Int} {t u v : Tok} {n : Nat} (hh : A.handled = none) (hr : IsRange s.heap r a b c t u v) (hsmall : Builtin.Range.small a b c = true)
  (hn : Builtin.Range.rangeSize a b c = n) (hlen : n ≤ 2 ^ 24)
  (hQ : ∀ h' tk acc, (∀ b o, s.heap.get? b = some o -> h'.get? b = some o) -> ItemsOf (fun i v => ∃ t, v = .int (a + i * c) t) acc n -> Q acc.toList { s with heap := h', toks := tk }) :
  wpAny (model prog w) A (collect (.ref r)) Q E s := by
 unfold collect
 refine wpAny_bind (wpAny_runValue (codeAny_builtin PySem.F.entry_proto_collect ?_))
 rw [Around.under_plainId PySem.F.plain_proto_collect _]
 show wpAny _ A.in1 (newList [] >>= fun l => again (.builtin "list.__iadd__" ⟨[l, .ref r], []⟩)) _ _ s
 refine wpAny_bind (wpAny_newObj_type ?_)
 refine wpAny_pure ⟨plainId_quiet PySem.F.plain_list_iadd _, codeAny_builtin PySem.F.entry_list_iadd ?_⟩
 rw [Around.under_plainId PySem.F.plain_list_iadd _]
 show wpAny _ A.in1 (Builtin.List.listExtendWith (.ref s.heap.objs.size) (.ref r) (.ref s.heap.objs.size)) _ _ _
 have hS : (s.heap.push { cls := .type "list", data := .seq ([] : List Value).toArray }).get? s.heap.objs.size = some { cls := .type "list", data := .seq #[] 0 } := Heap.get?_push_size _ rfl
 have fin : ∀ (r' : Result) (s' : Shared), (∃ h' tk acc c', r' = .ok (.ret (.ref s.heap.objs.size)) /\ s' = { s with heap := h', toks := tk } /\ (∀ b o, s.heap.get? b = some o -> h'.get? b = some o) /\
   h'.get? s.heap.objs.size = some { cls := .type "list", dict := none, data := .seq acc c', slots := #[] } /\ ItemsOf (fun i v => ∃ t, v = .int (a + i * c) t) acc n) ->
   match r' with
   | Except.ok (Flow.ret v) => wpAny (model prog w) A (match v with
     | Value.ref a => do
      match (<- load a).data with
       | Data.seq xs _ => pure xs.toList
       | _ => unsupported "internal:collect"
     | _ => unsupported "internal:collect") Q E s'
   | Except.ok _ => False
   | Except.error e => E e s' := by
  rintro r' s' ⟨h', tk, acc, c', rfl, rfl, hk, hS', hacc⟩
  show wpAny _ A (load s.heap.objs.size >>= _) _ _ _
  refine wpAny_bind (wpAny_load hS' ?_)
  exact wpAny_pure (hQ h' tk acc hk hacc)
 refine wpAny_mono (wpAny_extend_range (A := A) (R := fun r' s' => ∃ h' tk acc c', r' = .ok (.ret (.ref s.heap.objs.size)) /\ s' = { s with heap := h', toks := tk } /\ (∀ b o, s.heap.get? b = some o -> h'.get? b = some o) /\
   h'.get? s.heap.objs.size = some { cls := .type "list", dict := none, data := .seq acc c', slots := #[] } /\ ItemsOf (fun i v => ∃ t, v = .int (a + i * c) t) acc n)
  (s := { s with heap := s.heap.push { cls := .type "list", data := .seq ([] : List Value).toArray } }) hh (Heap.get?_push_of_some _ hr) hsmall hn hlen s.heap.objs.size _ 0 hS
  fun h' tk acc c' hk hS' hacc => ⟨h', tk, acc, c', rfl, rfl, fun b o e => hk b o (Nat.ne_of_lt (Heap.lt_size e)) (Heap.get?_push_of_some _ e), hS', hacc⟩) (fun f s' h => ?_) (fun e s' h => ?_)
 ·cases f with
  | done f => exact fin _ _ h
  | again c' => exact ⟨h.1, codeAny_mono h.2 fun r' s'' hr' => fin _ _ hr'⟩
 ·obtain ⟨_, _, _, _, e, _⟩ := h
  cases e
theorem z5w (r : Addr) (a b : Int) (t u v : Tok) (n : Nat) (hsmall : Builtin.Range.small a b 1 = true) (hn : Builtin.Range.rangeSize a b 1 = n) (hlen : n ≤ 2 ^ 24) :
  Meets (Builtin.«tuple.__new__» ⟨[.type "tuple", .ref r], []⟩)
   (fun A R s => A.handled = none /\ IsRange s.heap r a b 1 t u v /\ ∀ (h' : Heap) (tk : Nat) (acc : Array Value), (∀ b o, s.heap.get? b = some o -> h'.get? b = some o) -> ItemsOf (fun i v => ∃ t, v = .int (a + i * 1) t) acc n ->
    R (.ok (.ret (.ref h'.objs.size))) { s with heap := h'.push { cls := .type "tuple", data := .seq acc }, toks := tk }) :=
 .of_wp fun prog w A R s h => by
  obtain ⟨hp, g, d, tk0, os⟩ := s
  obtain ⟨hh, hr, h⟩ := h
  have hsub := sub_tuple_self
  have hinit := init_tuple_lookup
  have hmh := madeHere_tuple
  have hT : Shared.TypeIs ⟨hp, g, d, tk0, os⟩ (.ref r) "range" := ⟨_, hr, rfl⟩
  have hh1 : A.in1.handled = none := hh
  wp_walk using wpAny_typeOf hT, z7c hh1 hr hsmall hn hlen
  intro h' tk acc hk hacc
  show wpAny _ _ (Builtin.Tuple.tupleExact acc.toList.toArray >>= fun v => ret v) _ _ _
  unfold Builtin.Tuple.tupleExact
  refine wpAny_bind (wpAny_newObj_type ?_ (show acc.toList.toArray.size ≤ sizeLine by simp only [Array.toArray_toList]; rw [hacc.1, sizeLine_eq]; omega))
  refine wpAny_pure ⟨_, rfl, ?_⟩
  have e : acc.toList.toArray = acc := by simp
  rw [e]
  exact h h' tk acc hk hacc
theorem y1Z {a : Int} {acc : Array Value} {n : Nat} (h : ItemsOf (fun i v => ∃ t, v = Value.int (a + (i : Int) * 1) t) acc n) : Vals (rngV a n) acc.toList := by
 have go : ∀ (l : List Value) (k : Nat), (∀ (j : Nat) (v : Value), l[j]? = some v -> ∃ t, v = Value.int (a + ((k + j : Nat) : Int)) t) -> Vals ((List.range' k l.length).map fun (j : Nat) => V.int (a + (j : Int))) l := by
  intro l
  induction l with
  | nil => intro k _; exact .nil
  | cons x r ih =>
   intro k hx
   rw [List.length_cons, List.range'_succ, List.map_cons]
   refine .cons ?_ (ih (k + 1) fun j v e => ?_)
   ·obtain ⟨t, e⟩ := hx 0 x rfl
    exact ⟨t, e⟩
   ·obtain ⟨t, e'⟩ := hx (j + 1) v (by simpa using e)
    refine ⟨t, e'.trans ?_⟩
    congr 1
    omega
 have q := go acc.toList 0 fun j v e => by
  obtain ⟨t, e'⟩ := h.2 j v (by simpa using e)
  exact ⟨t, by rw [e']; congr 1; first | done | omega⟩
 unfold rngV
 rw [List.range_eq_range']
 have hn : acc.toList.length = n := by simpa using h.1
 rw [hn] at q
 exact q
theorem z6a (hc : X.calm = true) : z33 X (.type "tuple") (fun xs H Q => ∃ p i j, xs = [.ref p] /\ H p = some (.rng i j) /\ (-(2 ^ 62) ≤ i /\ i < 2 ^ 62 /\ -(2 ^ 62) ≤ j /\ j < 2 ^ 62) /\ (j - i).toNat ≤ 2 ^ 24 /\
  ∀ l, H l = none -> Q (.ref l) (upd H l (.tup (rngV i (j - i).toNat)))) := by
 intro pins s σ H xs us Q I r h
 obtain ⟨p, i, j, rfl, hp, ⟨h1, h2, h3, h4⟩, hlen, q⟩ := h
 obtain ⟨u, rfl, rx⟩ := z5h r
 cases rx
 obtain ⟨t, u', v, e⟩ := (show z16 X.prog X.w H s.heap p (.rng i j) from I.hok p _ hp)
 have hn : Builtin.Range.rangeSize i j 1 = (((j - i).toNat : Nat) : Int) := by rw [rangeSize_one]; split <;> omega
 refine callType_new PySem.F.called_tuple (by decide) (PySem.F.typeCall_tuple_1 _) (PySem.F.newCall_tuple_1 _) (fun obj => PySem.F.args_object_init_2 obj _) PySem.F.entry_tuple_new
  (z5w p i j t u' v _ (small_one h1 h2 h3 h4) hn hlen) ⟨I.ok.hd hc, e, fun h' tk acc hk hacc => ⟨⟨_, Heap.get?_push_size _ rfl, rfl⟩, ?_⟩⟩
 have I1 : Inv X pins σ H { s with heap := h', toks := tk } := I.kept hk
 have z : (rngV i (j - i).toNat).length ≤ sizeLine := by unfold rngV; rw [List.length_map, List.length_range, sizeLine_eq]; omega
 have I2 : Inv X pins σ (upd H h'.objs.size (.tup (rngV i (j - i).toNat))) { s with heap := h'.push { cls := .type "tuple", data := .seq acc }, toks := tk } :=
  I1.laid (t' := tk) (fun b o e => Heap.get?_push_of_some _ e) (Nat.le_refl _) (show z16 X.prog X.w _ _ _ (.tup _) from ⟨z, acc.toList, y1Z hacc, by simpa using PlT.new h' acc⟩)
 exact ⟨.ref h'.objs.size, _, I2, rfl, q _ (I1.hok.fresh (Nat.le_refl _))⟩
theorem Vals.ins {x : V} {u : Value} (r : RelV x u) {xs : List V} {us : List Value} (h : Vals xs us) (k : Nat) : Vals (xs.take k ++ x :: xs.drop k) (us.take k ++ u :: us.drop k) :=
 (h.take k).append (.cons r (h.drop k))
def y32 : V -> List V -> Hp -> VK -> Prop := fun x vs H Q => ∃ l xs i y, x = .ref l /\ vs = [.int i, y] /\ H l = some (.lst xs) /\ 0 ≤ i /\ i ≤ xs.length /\ xs.length < sizeLine /\ Q .non (upd H l (.lst (xs.take i.toNat ++ y :: xs.drop i.toNat)))
theorem y0F : MtM X "list.insert" y32 := by
 intro pins s σ H x vs v us Q I rx rv h
 obtain ⟨l, xs, i, y, rfl, rfl, hH, h0, h1, hz, q⟩ := h
 cases rx
 obtain ⟨u, w', rfl, ⟨t, rfl⟩, ry⟩ := rv.two
 obtain ⟨z, its, n, r, hl, e⟩ := I.lstM hH
 have hn := z4q
 have hs : sizeLine = 16777216 := sizeLine_eq
 have fit : ¬ (!Builtin.List.listFitsIndex i) = true := by
  rw [fitsIndex_both (by omega) (by omega)]
  decide
 refine call_meets PySem.F.slot_list_insert ⟨_, e, rfl⟩ PySem.F.entry_list_insert (PySem.F.args_list_insert_3 _ _ _) (AutoSeq1.list_insert_list_int_val_1 l its.toArray n i t w' fit (by rw [List.size_toArray]; omega)) ⟨e, ?_⟩
 refine ⟨.non, _, I.lset (its' := its.take i.toNat ++ w' :: its.drop i.toNat) hH e ?_ (Vals.ins ry r i.toNat) ?_, rfl, q⟩
 ·have e1 : (if i < 0 then (i + (its.toArray.size : Int)).toNat else min i.toNat its.toArray.size) = i.toNat := by
   rw [if_neg (by omega), List.size_toArray, Nat.min_eq_left (by omega)]
  show ((its.toArray.extract 0 (if i < 0 then (i + (its.toArray.size : Int)).toNat else min i.toNat its.toArray.size)).push w' ++ its.toArray.extract (if i < 0 then (i + (its.toArray.size : Int)).toNat else min i.toNat its.toArray.size)) = _
  rw [e1]
  apply Array.toList_inj.mp
  simp
  rw [List.take_of_length_le (by rw [List.length_drop]; omega)]
 ·rw [List.length_append, List.length_cons, List.length_take, List.length_drop]
  omega
theorem z8y : z33 X (.builtin "sorted") (fun xs H Q => ∃ (p : Addr) (ns : List Int), xs = [.ref p] /\ SqL X.K H p (ns.map V.int) /\ ns.length < 64 /\
  ∀ (l : Addr) (ns' : List Int), H l = none -> ns'.Perm ns -> ns'.Pairwise (· ≤ ·) -> Q (.ref l) (upd H l (.lst (ns'.map V.int)))) := by
 intro pins s σ H xs us Q I r h
 obtain ⟨p, ns, rfl, hq, h64, q⟩ := h
 obtain ⟨u, rfl, rx⟩ := z5h r
 cases rx
 obtain ⟨its, rv, pl, hz⟩ := I.list hq
 have hl := rv.length
 rw [List.length_map] at hl hz
 refine sorted_ints pl.isList (z9z rv) (by omega) fun out ns' a1 a2 a3 => ?_
 obtain ⟨e, he⟩ := sortedAll_at s.heap its out
 have hlen := a2.length_eq
 refine ⟨.ref (s.heap.objs.size + 1), _, I.laid (t' := s.toks) (fun b o e => sortedAll_old e) (Nat.le_succ _) (show z16 X.prog X.w _ _ _ (.lst (ns'.map V.int)) from ⟨?_, out.toList, e, z4p a1, ?_⟩), rfl, q _ ns' (I.hok.fresh (Nat.le_succ _)) a2 a3⟩
 ·rw [List.length_map, hlen]; exact hz
 ·simpa using he
def Itd (hi : Int) (n : Nat) : It := ⟨fun i _ => i < n, fun i H x H' => H' = H /\ x = .int (hi - i), fun i _ => n ≤ i⟩
theorem y0n {P : Program} {w : World} {K : PySem.W.Frag} {tg : Expr} (it : Addr) (hi : Int) (n : Nat) : Turn P w K tg (Itd hi n) [it] it (fun i h => IsRangeIter h it (hi + (i : Nat) * (-1)) ((n : Int) - (i : Nat)) (-1)) where
 mem := by simp
 obj := fun i h st b hb => by
  have e : b = it := by simpa using hb
  subst e
  exact ⟨_, st, fun v z => by
   have z' : Data.fields _ = Data.cell v := z
   cases z'⟩
 keep := fun i h h' st k => k it (by simp) _ st
 item := by
  intro X hP hw hK hc i pins s σ H E I hf st hg
  subst hP hw hK
  obtain ⟨f0, f1, f2, f3, f4, f5⟩ := hf it (by simp)
  have W := Walks.range (prog := X.prog) (w := X.w) (I.ok.hd hc) it hi (-1) n
  refine W.item i s _ _ hg st fun v h' tk hv st' kk => ?_
  obtain ⟨t, rfl⟩ := hv
  have I1 : Inv X pins σ H { s with heap := h', toks := tk } := I.turned (fun b o hb e => kk b o (by simpa using hb) e) f0 f1 f3 f4 f5
  refine ⟨_, rfl, y0j (s := { s with heap := h', toks := tk }) (n := "range_iterator") st' rfl rfl (by decide) ⟨.int (hi - i), H, I1, ⟨t, ?_⟩, ⟨rfl, rfl⟩, st', fun b hb => (hf b hb).1⟩⟩
  congr 1
  omega
 done := by
  intro X hP hw hK hc i pins s σ H E I hf st hg
  subst hP hw hK
  obtain ⟨f0, f1, f2, f3, f4, f5⟩ := hf it (by simp)
  exact wpAny_pyNext_range_end (I.ok.hd hc) st (by have : n ≤ i := hg; omega) fun h' eb => ⟨rfl, I.turned (t' := s.toks) (fun b o hb e => eb b o hb e) f0 f1 f3 f4 f5⟩
 self := fun _ _ _ _ _ st h => wpAny_pyIter_rangeiter st h
theorem z3O (a b : Int) : Builtin.Range.rangeSize a b (-1) = (((a - b).toNat : Nat) : Int) := by
 unfold Builtin.Range.rangeSize
 rw [if_neg (by decide)]
 by_cases h : a > b
 ·rw [if_pos h]
  have e : (a - b - 1) / (- -1) = a - b - 1 := by
   show (a - b - 1) / 1 = _
   exact Int.ediv_one _
  rw [e]
  omega
 ·rw [if_neg h]
  omega
theorem z9I {a b : Int} (ha : -(2 ^ 62) ≤ a) (ha' : a < 2 ^ 62) (hb : -(2 ^ 62) ≤ b) (hb' : b < 2 ^ 62) : Builtin.Range.small a b (-1) = true := by
 unfold Builtin.Range.small
 rw [z3O]
 simp only [Builtin.Range.rangeFitsLong, Bool.and_eq_true, Bool.or_eq_true, decide_eq_true_eq, beq_iff_eq]
 refine ⟨?_, ?_⟩ <;> first | omega | (split <;> omega) | (simp <;> omega)
end
section
variable {X : Cx} {tg : Expr}
def iRngD (ta : TA) : TI := fun σ H R => ta σ H fun vs H1 => ∃ i j : Int, vs = [.int i, .int j, .int (-1)] /\ (-(2 ^ 62) ≤ i /\ i < 2 ^ 62 /\ -(2 ^ 62) ≤ j /\ j < 2 ^ 62) /\ R (Itd i (i - j).toNat) H1
theorem y0h {a b c : Expr} {ta : TA} {p pos : Pos} (hg : Gl X "range") (hm : X.mg "range" = none) (ha : PA X [a, b, c] ta)
  (hs : starEach [a, b, c] X.env = [(false, eval a X.env), (false, eval b X.env), (false, eval c X.env)] := by rfl) (hs2 : starEach [b, c] X.env = [(false, eval b X.env), (false, eval c X.env)] := by rfl) :
  PI X tg (.Call (.Name "range" p) [a, b, c] [] pos) (iRngD ta) := by
 intro pins s σ H R I h
 refine Call_ (z53 I hg hm boot_range (PyProof.Rows.callWith_type1 (thn (ha pos pins s σ H _ I h) fun us s1 ⟨vs, H1, I1, r1, q1⟩ => ?_) (by rw [hs, hs2]) (by rw [hs2]; rfl)))
 obtain ⟨i, j, e, ⟨q1, q2, q3, q4⟩, q⟩ := q1
 subst e
 cases r1 with
 | cons r rr =>
  cases rr with
  | cons r' rr =>
   cases rr with
   | cons r'' rr =>
    cases rr
    obtain ⟨t, rfl⟩ := r
    obtain ⟨t', rfl⟩ := r'
    obtain ⟨t'', rfl⟩ := r''
    refine call_range_3 (by decide) ?_ (.inl (PyProof.noPylong_small (by decide)))
    refine wpAny_pyIter_range (IsRange.new ..) (z9I q1 q2 q3 q4) ?_
    have I2 : Inv X pins σ H1 { s1 with heap := s1.heap.push { cls := .type "range", data := .fields #[.int i t, .int j t', .int (-1) t''] }, toks := s1.toks } := I1.kept fun b o e => Heap.get?_push_of_some _ e
    refine ⟨(s1.heap.push { cls := .type "range", data := .fields #[.int i t, .int j t', .int (-1) t''] }).objs.size, [(s1.heap.push { cls := .type "range", data := .fields #[.int i t, .int j t', .int (-1) t''] }).objs.size], _, _, H1, rfl,
     I2.kept (t' := s1.toks) fun b o e => Heap.get?_push_of_some _ e, y0n _ i (i - j).toNat, ?_, fun b hb => ?_, q⟩
    ·have e1 : i + ((0 : Nat) : Int) * (-1) = i := by simp
     have e2 : (((i - j).toNat : Nat) : Int) - ((0 : Nat) : Int) = Builtin.Range.rangeSize i j (-1) := by rw [z3O]; omega
     show IsRangeIter _ _ (i + ((0 : Nat) : Int) * (-1)) ((((i - j).toNat : Nat) : Int) - ((0 : Nat) : Int)) (-1)
     rw [e1, e2]
     exact Heap.get?_push_size _ rfl
    ·have e : b = (s1.heap.push { cls := .type "range", data := .fields #[.int i t, .int j t', .int (-1) t''] }).objs.size := by simpa using hb
     subst e
     exact I2.fpOk (Nat.le_refl _) (I2.hok.fresh (Nat.le_refl _))
end
theorem y2e {hi : Int} {n : Nat} {g : TG} {tb : TS} {D : Ends} {σ : St} {H : Hp} (Pv : Nat -> St -> Hp -> Prop) (h0 : Pv 0 σ H)
  (hs : ∀ i σ H, i < n -> Pv i σ H -> g (.int (hi - i)) σ H fun σ2 H2 => tb { D with nx := Pv (i + 1), ct := Pv (i + 1), bk := D.nx } σ2 H2) (hd : ∀ σ H, Pv n σ H -> D.nx σ H) :
  ∃ W : Nat -> Nat -> St -> Hp -> Prop, (∃ m, W 0 m σ H) /\ ∀ i m σ H, W i m σ H ->
   ((Itd hi n).stop i H /\ D.nx σ H) \/ ((Itd hi n).go i H /\ ∃ N : St -> Hp -> Prop, (∀ σ' H', N σ' H' -> ∃ m', m' < m /\ W (i + 1) m' σ' H') /\ ∀ x H', (Itd hi n).yld i H x H' -> g x σ H' fun σ2 H2 => tb { D with nx := N, ct := N, bk := D.nx } σ2 H2) := by
 refine ⟨fun i m σ H => m = n - i /\ i ≤ n /\ Pv i σ H, ⟨n, by simp, Nat.zero_le _, h0⟩, ?_⟩
 rintro i m σ H ⟨rfl, hi', p⟩
 by_cases hlt : i < n
 ·refine .inr ⟨hlt, Pv (i + 1), fun σ' H' p' => ⟨n - (i + 1), by omega, rfl, hlt, p'⟩, fun x H' y => ?_⟩
  obtain ⟨e, y⟩ := y
  subst e y
  exact hs i σ _ hlt p
 ·have e : i = n := by omega
  subst e
  exact .inl ⟨Nat.le_refl _, hd σ H p⟩
abbrev z9Q (J : It) (g : TG) (tc : TT) (te : TE) (σ0 : St) (H1 : Hp) (F : List V -> Hp -> Prop) : Prop :=
 ∃ W : Nat -> Nat -> List V -> Hp -> Prop, (∃ m, W 0 m [] H1) /\ ∀ i m ys H, W i m ys H ->
  (J.stop i H /\ F ys H) \/ (J.go i H /\ ys.length < sizeLine /\ ∃ N : List V -> Hp -> Prop, (∀ zs H', N zs H' -> ∃ m', m' < m /\ W (i + 1) m' zs H') /\
   ∀ x H', J.yld i H x H' -> z1H g tc te σ0 x H' ys N)
theorem z2j {K : PySem.W.Frag} {a : Addr} {xs : List V} {g : TG} {tc : TT} {te : TE} {σ0 : St} {H1 : Hp} {F : List V -> Hp -> Prop} (Pv : Nat -> List V -> Hp -> Prop) (h0 : Pv 0 [] H1)
  (hl : ∀ i ys H, i ≤ xs.length -> Pv i ys H -> SqL K H a xs /\ ys.length < sizeLine)
  (hs : ∀ i x ys H, xs[i]? = some x -> Pv i ys H -> z1H g tc te σ0 x H ys (Pv (i + 1))) (hd : ∀ ys H, Pv xs.length ys H -> F ys H) : z9Q (Itl K a) g tc te σ0 H1 F := by
 refine ⟨fun i m ys H => m = xs.length - i /\ i ≤ xs.length /\ Pv i ys H, ⟨xs.length, by simp, Nat.zero_le _, h0⟩, ?_⟩
 rintro i m ys H ⟨rfl, hi, p⟩
 obtain ⟨q, z⟩ := hl i ys H hi p
 by_cases hlt : i < xs.length
 ·refine .inr ⟨⟨xs, xs[i], q, by simp [hlt]⟩, z, Pv (i + 1), fun zs H' p' => ⟨xs.length - (i + 1), by omega, rfl, hlt, p'⟩, fun x H' y => ?_⟩
  obtain ⟨e, y⟩ := y
  subst e
  exact hs i x ys _ (y xs q) p
 ·have e : i = xs.length := by omega
  subst e
  exact .inl ⟨⟨xs, q, Nat.le_refl _⟩, hd ys H p⟩
theorem z71 {K : PySem.W.Frag} {a : Addr} {xs : List V} {g : TG} {tc : TT} {te : TE} {σ0 : St} {H1 : Hp} {F : List V -> Hp -> Prop} (Pv : Nat -> List V -> Hp -> Prop) (h0 : Pv 0 [] H1)
  (hl : ∀ i ys H, i ≤ xs.length -> Pv i ys H -> SqT K H a xs /\ ys.length < sizeLine)
  (hs : ∀ i x ys H, xs[i]? = some x -> Pv i ys H -> z1H g tc te σ0 x H ys (Pv (i + 1))) (hd : ∀ ys H, Pv xs.length ys H -> F ys H) : z9Q (Itt K a) g tc te σ0 H1 F := by
 refine ⟨fun i m ys H => m = xs.length - i /\ i ≤ xs.length /\ Pv i ys H, ⟨xs.length, by simp, Nat.zero_le _, h0⟩, ?_⟩
 rintro i m ys H ⟨rfl, hi, p⟩
 obtain ⟨q, z⟩ := hl i ys H hi p
 by_cases hlt : i < xs.length
 ·refine .inr ⟨⟨xs, xs[i], q, by simp [hlt]⟩, z, Pv (i + 1), fun zs H' p' => ⟨xs.length - (i + 1), by omega, rfl, hlt, p'⟩, fun x H' y => ?_⟩
  obtain ⟨e, y⟩ := y
  subst e
  exact hs i x ys _ (y xs q) p
 ·have e : i = xs.length := by omega
  subst e
  exact .inl ⟨⟨xs, q, Nat.le_refl _⟩, hd ys H p⟩
theorem z6m {lo : Int} {n : Nat} {g : TG} {tc : TT} {te : TE} {σ0 : St} {H1 : Hp} {F : List V -> Hp -> Prop} (Pv : Nat -> List V -> Hp -> Prop) (h0 : Pv 0 [] H1)
  (hl : ∀ i ys H, i ≤ n -> Pv i ys H -> ys.length < sizeLine)
  (hs : ∀ i ys H, i < n -> Pv i ys H -> z1H g tc te σ0 (.int (lo + i)) H ys (Pv (i + 1))) (hd : ∀ ys H, Pv n ys H -> F ys H) : z9Q (Itr lo n) g tc te σ0 H1 F := by
 refine ⟨fun i m ys H => m = n - i /\ i ≤ n /\ Pv i ys H, ⟨n, by simp, Nat.zero_le _, h0⟩, ?_⟩
 rintro i m ys H ⟨rfl, hi, p⟩
 have z := hl i ys H hi p
 by_cases hlt : i < n
 ·refine .inr ⟨hlt, z, Pv (i + 1), fun zs H' p' => ⟨n - (i + 1), by omega, rfl, hlt, p'⟩, fun x H' y => ?_⟩
  obtain ⟨e, y⟩ := y
  subst e y
  exact hs i ys _ hlt p
 ·have e : i = n := by omega
  subst e
  exact .inl ⟨Nat.le_refl _, hd ys H p⟩
def z6h {α : Type} (p : α -> Bool) (f : α -> V) (zs : List α) : List V := (zs.filter p).map f
theorem z9U {α : Type} (p : α -> Bool) (f : α -> V) (zs : List α) (z : α) : z6h p f (zs ++ [z]) = if p z = true then z6h p f zs ++ [f z] else z6h p f zs := by
 unfold z6h
 rw [List.filter_append, List.map_append]
 cases h : p z <;> simp [h]
theorem y2m {α : Type} (p : α -> Bool) (f : α -> V) (zs : List α) : (z6h p f zs).length ≤ zs.length := by
 unfold z6h
 rw [List.length_map]
 exact List.length_filter_le _ _
theorem z0X {α : Type} {zs : List α} {i : Nat} {z : α} (h : zs[i]? = some z) : zs.take (i + 1) = zs.take i ++ [z] := by
 rw [List.take_add_one, h]
 rfl
def upI (lo : Int) (n : Nat) : List Int := (List.range n).map fun (k : Nat) => lo + (k : Int)
theorem z5n (lo : Int) (n : Nat) : upI lo (n + 1) = upI lo n ++ [lo + (n : Int)] := by
 unfold upI
 rw [List.range_succ, List.map_append]
 rfl
theorem z0P (lo : Int) (n : Nat) : (upI lo n).length = n := by unfold upI; rw [List.length_map, List.length_range]
theorem z1Z {lo : Int} {n : Nat} {x : Int} : x ∈ upI lo n ↔ lo ≤ x /\ x < lo + n := by
 unfold upI
 rw [List.mem_map]
 constructor
 ·rintro ⟨k, hk, rfl⟩
  have := List.mem_range.mp hk
  omega
 ·rintro ⟨h1, h2⟩
  exact ⟨(x - lo).toNat, List.mem_range.mpr (by omega), by omega⟩
theorem y0I {lo : Int} {n : Nat} {g : TG} {tc : TT} {te : TE} {σ0 : St} {H1 : Hp} {F : List V -> Hp -> Prop} (p : Int -> Bool) (f : Int -> V) (hz : n ≤ 1000)
  (hs : ∀ k ys N, lo ≤ k -> k < lo + n -> N (if p k = true then ys ++ [f k] else ys) H1 -> z1H g tc te σ0 (.int k) H1 ys N) (hd : F (z6h p f (upI lo n)) H1) : z9Q (Itr lo n) g tc te σ0 H1 F := by
 refine z6m (fun i ys H => H = H1 /\ ys = z6h p f (upI lo i)) ⟨rfl, rfl⟩ (fun i ys H hi hp => ?_) (fun i ys H hx hp => ?_) (fun ys H hp => ?_)
 ·obtain ⟨rfl, rfl⟩ := hp
  have h1 := y2m p f (upI lo i)
  rw [z0P] at h1
  exact z0k (by omega)
 ·obtain ⟨rfl, rfl⟩ := hp
  refine hs _ _ _ (by omega) (by omega) ⟨rfl, ?_⟩
  rw [z5n, z9U]
 ·obtain ⟨rfl, rfl⟩ := hp
  exact hd
section
variable {X : Cx}
theorem z1d : z33 X (.builtin "isinstance") (fun xs H Q => ∃ x T t b, xs = [x, .ty T] /\ TyOf X.K H x t /\ PySem.W.kitOne X.K t (.type T) = some b /\ Q (.bl b) H) := by
 intro pins s σ H xs us Q I r h
 obtain ⟨x, T, t, b, rfl, ty, e, q⟩ := h
 obtain ⟨u, w', rfl, rx, ry⟩ := z9P r
 cases (show w' = Value.type T from ry)
 exact y00 I rx ty e fun tk => ⟨.bl b, H, I.tok _, rfl, q⟩
end
def z8Y (N : List Str) (kind : Str -> Option NameKind) (rl : List (Str × NameKind)) : List Str -> List Nat -> Bool
 | x :: xs, i :: is => decide (N[i]? = some x) && (decide (kind x = some .cell) || decide (kind x = some .free)) && (decide (rl.lookup x = some .cell) || decide (rl.lookup x = some .free)) && z8Y N kind rl xs is
 | _, _ => true
theorem y2H {N : List Str} {kind : Str -> Option NameKind} {rl : List (Str × NameKind)} : ∀ {caps : List Str} {ix : List Nat}, z8Y N kind rl caps ix = true -> ∀ (j i : Nat) (x : Str), caps[j]? = some x -> ix[j]? = some i ->
  N[i]? = some x /\ (kind x = some .cell \/ kind x = some .free) /\ (rl.lookup x = some .cell \/ rl.lookup x = some .free)
 | [], _, _, j, i, x, e, _ => by simp at e
 | _ :: _, [], _, j, i, x, _, e => by simp at e
 | y :: ys, k :: ks, h, j, i, x, e1, e2 => by
  unfold z8Y at h
  rw [Bool.and_eq_true, Bool.and_eq_true, Bool.and_eq_true, Bool.or_eq_true, Bool.or_eq_true] at h
  obtain ⟨⟨⟨h1, h2⟩, h3⟩, h4⟩ := h
  cases j with
  | zero =>
   simp at e1 e2
   subst e1 e2
   exact ⟨of_decide_eq_true h1, h2.imp of_decide_eq_true of_decide_eq_true, h3.imp of_decide_eq_true of_decide_eq_true⟩
  | succ j => exact y2H h4 j i x (by simpa using e1) (by simpa using e2)
theorem z0E {X : Cx} {scope : Scope} {cl : List (Str × Addr)} {own caps : List Str} {ix : List Nat} (clos : z62 X.env.cells scope.names [] = some cl) (cell : ∀ y ∈ scope.names, y.2 ≠ .cell) (kind : scope.kind = .function)
  (names : ∀ y ∈ scope.names, y.2 = .local -> scope.names.lookup y.1 = some .local) (n : caps.length = ix.length) (cap : z8Y X.N X.env.kindOf (relabel scope X.env).names caps ix = true) : CompScope X scope cl own caps ix :=
 ⟨clos, cell, kind, names, n, fun j i x e1 e2 => by
  obtain ⟨a, b, c⟩ := y2H cap j i x e1 e2
  refine ⟨a, fun z => ?_, b.elim (fun q => .inr (.inl q)) (fun q => .inr (.inr q)), c⟩
  rcases b with b | b <;> (rw [b] at z; cases z)⟩
theorem y3p {X : Cx} {K : PySem.W.Frag} {es : List Expr} {k : Nat} {t : TGs} {n : Nat} {pos : Pos} (hK : X.K = K) (hc : X.calm = true) (h : PGs X es t)
  (hn : (assignEach es X.env).length = n := by rfl) (hst : (assignEach es X.env).findIdx? (·.1) = none := by rfl) : PG X (.Tuple es k pos) (gTup K n t) := by
 subst hK
 exact y49 hc h hn hst
structure Cal (P : Program) (w : World) (K : PySem.W.Frag) (mg : Str -> Option Value) (base : Heap) (k : Nat) (x : Str) (ps : List Str) (sp : Sp) : Prop where
 ex : ∃ (f : Addr) (fd : FuncData), FnOk P w K mg base CX0 k f fd ps sp /\ z1c K fd ps [] /\ PySem.W.keepIn K (.ref f) = true /\ mg x = some (.ref f)
theorem Cal.mk' {P : Program} {w : World} {K : PySem.W.Frag} {mg : Str -> Option Value} {base : Heap} {k : Nat} {x : Str} {ps : List Str} {sp : Sp} {f : Addr} {fd : FuncData} (a : FnOk P w K mg base CX0 k f fd ps sp) (b : z1c K fd ps []) (c : PySem.W.keepIn K (.ref f) = true) (d : mg x = some (.ref f)) :
  Cal P w K mg base k x ps sp := ⟨⟨f, fd, a, b, c, d⟩⟩
theorem z0t {X : Cx} {k : Nat} {x : Str} {ps : List Str} {sp : Sp} {e : Expr} {es : List Expr} {t : TA} {p pos : Pos} (G : Cal X.prog X.w X.K X.mg X.base k x ps sp) (hr : Room k X.A) (hg : Gl X x) (ha : PA X (e :: es) t)
  (hdb : (x == ("__debug__" : Str)) = false := by decide) (he : starEach (e :: es) X.env = (false, eval e X.env) :: starEach es X.env := by rfl) (hpl : (backTo pos (starEach es X.env)).any (·.1) = false := by rfl) :
  PE X (.Call (.Name x p) (e :: es) [] pos) (y4p sp [] E0 t) := by
 obtain ⟨f, fd, a, b, c, d⟩ := G.ex
 exact y3n a hr hg d c b .nil y1t ha hdb he hpl
def cutS (z : Str) (lo hi : Option Int) : Str := ⟨((z.cps.toList.drop (HT.sIx z.length 0 lo)).take (HT.sIx z.length z.length hi - HT.sIx z.length 0 lo)).toArray⟩
theorem z7a {x y : Str} (h : x.cps.toList = y.cps.toList) : x = y := by
 obtain ⟨a⟩ := x
 obtain ⟨b⟩ := y
 exact congrArg Str.mk (Array.toList_inj.mp h)
theorem z0L (z : Str) : z.cps.toList.length = z.length := by simp [Str.length]
theorem z8D (lo hi : Option Int) (n : Nat) : Builtin.Str.strSliceIndices lo hi 1 n = (List.range (HT.sIx n n hi - HT.sIx n 0 lo)).map (fun k => HT.sIx n 0 lo + k) := by
 obtain ⟨h1, h2, h3⟩ := z4W lo hi n
 have e : Builtin.Str.strSliceIndices lo hi 1 n = sliceRange (sliceBounds lo hi none n).1 (sliceBounds lo hi none n).2.1 1 := by
  unfold Builtin.Str.strSliceIndices sliceBounds
  cases lo <;> cases hi <;> rfl
 rw [e, h1, h2, sliceRange_one]
theorem y1C {z : Str} {t : Tok} {l u : Option (Int × Tok)} {Q : Value -> Shared -> Prop} {s : Shared} (hz : z.length ≤ sizeLine) (h : ∀ t' tk, Q (.str (cutS z (l.map (·.1)) (u.map (·.1))) t') { s with toks := tk }) : (sliceMade z t l u none).post Q s := by
 have picked : slicePicked z l u none = (List.range (HT.sIx z.length z.length (u.map (·.1)) - HT.sIx z.length 0 (l.map (·.1)))).map (fun k => HT.sIx z.length 0 (l.map (·.1)) + k) := z8D _ _ _
 have items : (slicePicked z l u none).filterMap (z.cps[·]?) = (cutS z (l.map (·.1)) (u.map (·.1))).cps.toList := by
  rw [picked, pick_run]
  rfl
 have lh := HT.y2M z.length z.length (Nat.le_refl _) (u.map (·.1))
 unfold sliceMade
 by_cases c : (((none : Option (Int × Tok)).map (·.1)).getD 1 == 1 && (slicePicked z l u none).length == z.length) = true
 ·rw [if_pos c]
  rw [Bool.and_eq_true] at c
  have c2 : (slicePicked z l u none).length = z.length := eq_of_beq c.2
  rw [picked, List.length_map, List.length_range] at c2
  have e : cutS z (l.map (·.1)) (u.map (·.1)) = z := by
   apply z7a
   show (z.cps.toList.drop _).take _ = _
   by_cases hz0 : z.length = 0
   ·have : z.cps.toList = [] := List.eq_nil_of_length_eq_zero (by rw [z0L]; exact hz0)
    rw [this]
    simp
   ·have e1 : HT.sIx z.length 0 (l.map (·.1)) = 0 := by omega
    rw [e1, List.drop_zero, List.take_of_length_le]
    rw [z0L]
    omega
  have := h t s.toks
  rw [e] at this
  exact this
 ·rw [if_neg c, items]
  refine ⟨?_, ?_⟩
  ·show (((cutS z (l.map (·.1)) (u.map (·.1))).cps.toList.toArray).size) ≤ sizeLine
   rw [List.size_toArray]
   show ((z.cps.toList.drop _).take _).length ≤ _
   rw [List.length_take, List.length_drop, z0L]
   omega
  ·have := h s.toks (s.toks + 1)
   have e : (⟨(cutS z (l.map (·.1)) (u.map (·.1))).cps.toList.toArray⟩ : Str) = cutS z (l.map (·.1)) (u.map (·.1)) := z7a (by simp)
   rw [e]
   exact this
section
variable {X : Cx}
theorem z52 {v : Value} {o : Option Int} (h : IsPart v o) : ∃ p : Option (Int × Tok), v = partValue p /\ p.map (·.1) = o := by
 cases h with
 | none => exact ⟨none, rfl, rfl⟩
 | int i t => exact ⟨some (i, t), rfl, rfl⟩
def rSlS : V -> Option Int -> Option Int -> Hp -> VK -> Prop := fun x lo hi H Q => ∃ z, x = .str z /\ z.length ≤ sizeLine /\ Q (.str (cutS z lo hi)) H
theorem y0q : SlR X rSlS := by
 intro pins s σ H x v vl vu lo hi sl Q I rx hs pl pu h
 obtain ⟨z, rfl, hz, q⟩ := h
 obtain ⟨t, rfl⟩ := rx
 obtain ⟨l, rfl, rfl⟩ := z52 pl
 obtain ⟨u, rfl, rfl⟩ := z52 pu
 refine ⟨"str", _, slot_str_getitem.lookup, typeIs_str s z t, ?_⟩
 obtain ⟨o, ho, hc, hd⟩ := hs
 refine wpAny_getItem_str_slice (l := l) (u := u) (st := none) ⟨o, ho, hc, hd⟩ rfl (y1C hz fun t' tk => ?_)
 exact ⟨.str _, H, I.tok _, ⟨_, rfl⟩, q⟩
def repS (z : Str) (n : Nat) : Str := ⟨(List.replicate n z.cps.toList).flatten.toArray⟩
theorem z9u (z : Array Nat) : ∀ (n : Nat) (acc : Array Nat), (List.foldl (fun a b => a ++ b) acc (List.replicate n z)).toList = acc.toList ++ (List.replicate n z.toList).flatten
 | 0, acc => by simp
 | n + 1, acc => by
  rw [List.replicate_succ, List.foldl_cons, z9u z n]
  simp [List.replicate_succ]
theorem z9H : OpR X (binaryOp .Mult) (fun x y H Q => ∃ z n, x = .str z /\ y = .int n /\ 1 ≤ n /\ n ≤ 1000 /\ z.length ≤ 1000 /\ Q (.str (repS z n.toNat)) H) := by
 intro pins s σ H x y v u Q I rx ry h
 obtain ⟨z, n, rfl, rfl, h1, h2, hz, q⟩ := h
 obtain ⟨t, rfl⟩ := rx
 obtain ⟨t', rfl⟩ := ry
 have hs : sizeLine = 16777216 := sizeLine_eq
 have hm : z.length * n.toNat ≤ 1000 * 1000 := Nat.mul_le_mul hz (by omega)
 have fin : ∀ t' tk, EP X pins σ Q (.str (repS z n.toNat) t') { s with toks := tk } := fun t' tk => ⟨.str _, H, I.tok _, ⟨_, rfl⟩, q⟩
 refine PySem.P.mul_str ?_ (fun _ _ => ?_) (fun _ _ => ?_) ?_
 ·rw [decide_eq_false (show ¬ n < -(2 ^ 63 : Int) by omega), decide_eq_false (show ¬ n ≥ 2 ^ 63 by omega)]
  rfl
 ·have : (1000 : Int) ≤ (2 ^ 63 - 1) / n := by
   apply Int.le_ediv_of_mul_le (by omega)
   have : 1000 * n ≤ 1000 * 1000 := Int.mul_le_mul_of_nonneg_left h2 (by decide)
   omega
  omega
 ·unfold Builtin.Str.tooLong
  exact decide_eq_false (by omega)
 ·rw [if_neg (by omega)]
  by_cases c : (n == 1 || z.length == 0) = true
  ·rw [if_pos c]
   have e : repS z n.toNat = z := by
    apply z7a
    show ((List.replicate n.toNat z.cps.toList).flatten.toArray).toList = _
    rw [Bool.or_eq_true] at c
    rcases c with c | c
    ·have : n = 1 := eq_of_beq c
     subst this
     simp
    ·have : z.length = 0 := eq_of_beq c
     have : z.cps.toList = [] := List.eq_nil_of_length_eq_zero (by rw [z0L]; exact this)
     rw [this]
     simp
   have := fin t s.toks
   rw [e] at this
   exact this
  ·rw [if_neg c]
   have e : (⟨(List.replicate n.toNat z.cps).foldl (· ++ ·) #[]⟩ : Str) = repS z n.toNat := by
    apply z7a
    show (List.foldl (fun a b => a ++ b) #[] (List.replicate n.toNat z.cps)).toList = ((List.replicate n.toNat z.cps.toList).flatten.toArray).toList
    rw [z9u]
    simp
   refine ⟨?_, ?_⟩
   ·rw [e, <- z0L]
    show ((List.replicate n.toNat z.cps.toList).flatten.toArray).toList.length ≤ sizeLine
    have : ((List.replicate n.toNat z.cps.toList).flatten.toArray).toList.length = n.toNat * z.length := by
     simp [List.length_flatten, List.map_replicate, z0L]
     rfl
    rw [this, Nat.mul_comm]
    omega
   ·rw [e]
    exact fin _ _
end
end L2
namespace L2
open PySem
inductive DV where
 | non | bl (b : Bool) | int (i : Int) | str (x : Str) | tup (l : List DV)
mutual
def Tell (H : Hp) : DV -> V -> Prop
 | .non, x => x = .non
 | .bl b, x => x = .bl b
 | .int i, x => x = .int i
 | .str s, x => x = .str s
 | .tup ds, x => ∃ a xs, x = .ref a /\ H a = some (.tup xs) /\ xs.length ≤ 1000000 /\ z0d H ds xs
def z0d (H : Hp) : List DV -> List V -> Prop
 | [], xs => xs = []
 | d :: ds, xs => ∃ x r, xs = x :: r /\ Tell H d x /\ z0d H ds r
end
mutual
theorem Tell.keep {H H' : Hp} (s : Same H H') : ∀ (d : DV) (x : V), Tell H d x -> Tell H' d x
 | .non, _, h => h
 | .bl _, _, h => h
 | .int _, _, h => h
 | .str _, _, h => h
 | .tup ds, _, h => by
  unfold Tell at h ⊢
  obtain ⟨a, xs, e, h1, h2, h3⟩ := h
  exact ⟨a, xs, e, s _ _ h1, h2, z0d.keep s ds xs h3⟩
theorem z0d.keep {H H' : Hp} (s : Same H H') : ∀ (ds : List DV) (xs : List V), z0d H ds xs -> z0d H' ds xs
 | [], _, h => h
 | d :: ds, _, h => by
  unfold z0d at h ⊢
  obtain ⟨x, r, e, h1, h2⟩ := h
  exact ⟨x, r, e, Tell.keep s d x h1, z0d.keep s ds r h2⟩
end
mutual
theorem Tell.over {H : Hp} {l : Addr} {o o' : HO} (hl : H l = some o) (hn : ∀ xs, o ≠ .tup xs) : ∀ (d : DV) (x : V), Tell H d x -> Tell (upd H l o') d x
 | .non, _, h => h
 | .bl _, _, h => h
 | .int _, _, h => h
 | .str _, _, h => h
 | .tup ds, _, h => by
  unfold Tell at h ⊢
  obtain ⟨a, xs, e, h1, h2, h3⟩ := h
  exact ⟨a, xs, e, by rw [z0b (z4A h1 hl (fun z => hn xs z.symm))]; exact h1, h2, z0d.over hl hn ds xs h3⟩
theorem z0d.over {H : Hp} {l : Addr} {o o' : HO} (hl : H l = some o) (hn : ∀ xs, o ≠ .tup xs) : ∀ (ds : List DV) (xs : List V), z0d H ds xs -> z0d (upd H l o') ds xs
 | [], _, h => h
 | d :: ds, _, h => by
  unfold z0d at h ⊢
  obtain ⟨x, r, e, h1, h2⟩ := h
  exact ⟨x, r, e, Tell.over hl hn d x h1, z0d.over hl hn ds r h2⟩
end
theorem z0d.length {H : Hp} : ∀ {ds : List DV} {xs : List V}, z0d H ds xs -> xs.length = ds.length
 | [], _, h => by unfold z0d at h; rw [h]; rfl
 | d :: ds, _, h => by
  unfold z0d at h
  obtain ⟨x, r, rfl, _, h2⟩ := h
  rw [List.length_cons, List.length_cons, z0d.length h2]
theorem z0d.get {H : Hp} : ∀ {ds : List DV} {xs : List V}, z0d H ds xs -> ∀ (i : Nat) (d : DV), ds[i]? = some d -> ∃ x, xs[i]? = some x /\ Tell H d x
 | [], _, _, i, d, e => by simp at e
 | d0 :: ds, _, h, 0, d, e => by
  unfold z0d at h
  obtain ⟨x, r, rfl, h1, _⟩ := h
  simp at e
  subst e
  exact ⟨x, rfl, h1⟩
 | d0 :: ds, _, h, i + 1, d, e => by
  unfold z0d at h
  obtain ⟨x, r, rfl, _, h2⟩ := h
  obtain ⟨y, e1, e2⟩ := z0d.get h2 i d (by simpa using e)
  exact ⟨y, by simpa using e1, e2⟩
theorem z0d.at {H : Hp} : ∀ {ds : List DV} {xs : List V}, z0d H ds xs -> ∀ (i : Nat) (x : V), xs[i]? = some x -> ∃ d, ds[i]? = some d /\ Tell H d x
 | [], _, h, i, x, e => by
  unfold z0d at h
  subst h
  simp at e
 | d0 :: ds, _, h, 0, x, e => by
  unfold z0d at h
  obtain ⟨x0, r, rfl, h1, _⟩ := h
  simp at e
  subst e
  exact ⟨d0, rfl, h1⟩
 | d0 :: ds, _, h, i + 1, x, e => by
  unfold z0d at h
  obtain ⟨x0, r, rfl, _, h2⟩ := h
  obtain ⟨y, e1, e2⟩ := z0d.at h2 i x (by simpa using e)
  exact ⟨y, by simpa using e1, e2⟩
theorem z0d.nil {H : Hp} : z0d H [] [] := by unfold z0d; rfl
theorem z0d.cons {H : Hp} {d : DV} {ds : List DV} {x : V} {xs : List V} (h : Tell H d x) (t : z0d H ds xs) : z0d H (d :: ds) (x :: xs) := by unfold z0d; exact ⟨x, xs, rfl, h, t⟩
theorem z0d.snoc {H : Hp} : ∀ {ds : List DV} {xs : List V} {d : DV} {x : V}, z0d H ds xs -> Tell H d x -> z0d H (ds ++ [d]) (xs ++ [x])
 | [], _, _, _, h, q => by
  unfold z0d at h
  subst h
  exact z0d.cons q .nil
 | d0 :: ds, _, _, _, h, q => by
  unfold z0d at h
  obtain ⟨x0, r, rfl, h1, h2⟩ := h
  exact z0d.cons h1 (z0d.snoc h2 q)
theorem z1m {H : Hp} (i : Int) : Tell H (.int i) (.int i) := by unfold Tell; rfl
theorem z0x {H : Hp} (x : Str) : Tell H (.str x) (.str x) := by unfold Tell; rfl
theorem z0v {H : Hp} {a : Addr} {xs : List V} {ds : List DV} (h : H a = some (.tup xs)) (hl : ds.length ≤ 1000000) (t : z0d H ds xs) : Tell H (.tup ds) (.ref a) := by
 unfold Tell
 exact ⟨a, xs, rfl, h, by rw [t.length]; exact hl, t⟩
theorem z3B {H : Hp} : ∀ (l : List Int), z0d H (l.map DV.int) (l.map V.int)
 | [] => .nil
 | i :: r => .cons (z1m i) (z3B r)
theorem z4I {H : Hp} : ∀ (l : List Str), z0d H (l.map DV.str) (l.map V.str)
 | [] => .nil
 | i :: r => .cons (z0x i) (z4I r)
theorem z1e {H : Hp} {ds : List DV} {x : V} (h : Tell H (.tup ds) x) : ∃ a xs, x = .ref a /\ H a = some (.tup xs) /\ xs.length ≤ 1000000 /\ z0d H ds xs := by
 unfold Tell at h
 exact h
theorem z4V {H : Hp} {i : Int} {x : V} (h : Tell H (.int i) x) : x = .int i := by unfold Tell at h; exact h
theorem z7Y {H : Hp} {i : Str} {x : V} (h : Tell H (.str i) x) : x = .str i := by unfold Tell at h; exact h
theorem z1s {H : Hp} {d : DV} {ds : List DV} {xs : List V} (h : z0d H (d :: ds) xs) : ∃ x r, xs = x :: r /\ Tell H d x /\ z0d H ds r := by
 unfold z0d at h
 exact h
theorem z7q {H : Hp} {xs : List V} (h : z0d H [] xs) : xs = [] := by unfold z0d at h; exact h
mutual
def DV.deep : DV -> Nat
 | .tup ds => DV.deeps ds + 1
 | _ => 0
def DV.deeps : List DV -> Nat
 | [] => 0
 | d :: ds => max d.deep (DV.deeps ds)
end
def z9C : V -> Bool
 | .non => true
 | .bl _ => true
 | .int _ => true
 | .str _ => true
 | _ => false
def z3H (H : Hp) : Nat -> V -> V -> Prop
 | 0, x, y => x = y /\ z9C x = true
 | n + 1, x, y => (x = y /\ z9C x = true) \/ ∃ (a b : Addr) (xs ys : List V), x = .ref a /\ y = .ref b /\ H a = some (.tup xs) /\ H b = some (.tup ys) /\ xs.length = ys.length /\ ys.length ≤ 1000000 /\
   ∀ (i : Nat) (u v : V), xs[i]? = some u -> ys[i]? = some v -> z3H H n u v
theorem z3H.keep {H H' : Hp} (s : Same H H') : ∀ {n : Nat} {x y : V}, z3H H n x y -> z3H H' n x y
 | 0, _, _, h => h
 | n + 1, x, y, h => by
  rcases h with h | ⟨a, b, xs, ys, e1, e2, h1, h2, hl, hm, h⟩
  ·exact .inl h
  ·exact .inr ⟨a, b, xs, ys, e1, e2, s _ _ h1, s _ _ h2, hl, hm, fun i u v hu hv => z3H.keep s (h i u v hu hv)⟩
theorem z3H.up {H : Hp} : ∀ {n : Nat} {x y : V}, z3H H n x y -> z3H H (n + 1) x y
 | 0, _, _, h => .inl h
 | n + 1, x, y, h => by
  rcases h with h | ⟨a, b, xs, ys, e1, e2, h1, h2, hl, hm, h⟩
  ·exact .inl h
  ·exact .inr ⟨a, b, xs, ys, e1, e2, h1, h2, hl, hm, fun i u v hu hv => z3H.up (h i u v hu hv)⟩
theorem z3H.mono {H : Hp} {x y : V} {n m : Nat} (h : z3H H n x y) (hm : n ≤ m) : z3H H m x y := by
 induction hm with
 | refl => exact h
 | step _ ih => exact ih.up
mutual
theorem z1L {H : Hp} : ∀ (d : DV) (x y : V), Tell H d x -> Tell H d y -> z3H H d.deep x y
 | .non, x, y, h1, h2 => by
  unfold Tell at h1 h2
  subst h1 h2
  exact ⟨rfl, rfl⟩
 | .bl _, x, y, h1, h2 => by
  unfold Tell at h1 h2
  subst h1 h2
  exact ⟨rfl, rfl⟩
 | .int _, x, y, h1, h2 => by
  unfold Tell at h1 h2
  subst h1 h2
  exact ⟨rfl, rfl⟩
 | .str _, x, y, h1, h2 => by
  unfold Tell at h1 h2
  subst h1 h2
  exact ⟨rfl, rfl⟩
 | .tup ds, x, y, h1, h2 => by
  unfold Tell at h1 h2
  obtain ⟨a, xs, rfl, a1, a2, a3⟩ := h1
  obtain ⟨b, ys, rfl, b1, b2, b3⟩ := h2
  unfold DV.deep
  exact .inr ⟨a, b, xs, ys, rfl, rfl, a1, b1, by rw [a3.length, b3.length], b2, z5H ds xs ys a3 b3⟩
theorem z5H {H : Hp} : ∀ (ds : List DV) (xs ys : List V), z0d H ds xs -> z0d H ds ys -> ∀ (i : Nat) (u v : V), xs[i]? = some u -> ys[i]? = some v -> z3H H (DV.deeps ds) u v
 | [], xs, ys, h1, h2, i, u, v, e1, e2 => by
  unfold z0d at h1
  subst h1
  simp at e1
 | d :: ds, xs, ys, h1, h2, 0, u, v, e1, e2 => by
  unfold z0d at h1 h2
  obtain ⟨x, r, rfl, a1, a2⟩ := h1
  obtain ⟨y, t, rfl, b1, b2⟩ := h2
  simp at e1 e2
  subst e1 e2
  unfold DV.deeps
  exact (z1L d x y a1 b1).mono (Nat.le_max_left _ _)
 | d :: ds, xs, ys, h1, h2, i + 1, u, v, e1, e2 => by
  unfold z0d at h1 h2
  obtain ⟨x, r, rfl, a1, a2⟩ := h1
  obtain ⟨y, t, rfl, b1, b2⟩ := h2
  unfold DV.deeps
  exact (z5H ds r t a2 b2 i u v (by simpa using e1) (by simpa using e2)).mono (Nat.le_max_right _ _)
end
end L2
namespace L2
open PySem PySem.Spec PyProof.Rows
section
variable {κ : Type} [DecidableEq κ]
def metL (ks : List κ) : List κ := ks.foldl (fun acc k => if k ∈ acc then acc else acc ++ [k]) []
theorem z7T (ks : List κ) (k : κ) : metL (ks ++ [k]) = if k ∈ metL ks then metL ks else metL ks ++ [k] := by
 unfold metL
 rw [List.foldl_append]
 rfl
theorem y0x {ks : List κ} {i : Nat} {k : κ} (h : ks[i]? = some k) : metL (ks.take (i + 1)) = if k ∈ metL (ks.take i) then metL (ks.take i) else metL (ks.take i) ++ [k] := by
 have e : ks.take (i + 1) = ks.take i ++ [k] := by rw [List.take_add_one, h] <;> rfl
 rw [e, z7T]
theorem z5F (k : κ) : ∀ (ks acc : List κ), k ∈ ks.foldl (fun acc k => if k ∈ acc then acc else acc ++ [k]) acc ↔ k ∈ acc \/ k ∈ ks
 | [], acc => by simp
 | x :: r, acc => by
  rw [List.foldl_cons, z5F k r]
  by_cases h : x ∈ acc
  ·rw [if_pos h, List.mem_cons]
   constructor
   ·rintro (a | a)
    ·exact .inl a
    ·exact .inr (.inr a)
   ·rintro (a | rfl | a)
    ·exact .inl a
    ·exact .inl h
    ·exact .inr a
  ·rw [if_neg h, List.mem_append, List.mem_singleton, List.mem_cons, or_assoc]
theorem z7d {k : κ} {ks : List κ} : k ∈ metL ks ↔ k ∈ ks := by unfold metL; rw [z5F]; simp
theorem z5D : ∀ (ks acc : List κ), (ks.foldl (fun acc k => if k ∈ acc then acc else acc ++ [k]) acc).length ≤ acc.length + ks.length
 | [], acc => by simp
 | x :: r, acc => by
  rw [List.foldl_cons]
  refine Nat.le_trans (z5D r _) ?_
  by_cases h : x ∈ acc
  ·rw [if_pos h, List.length_cons]; omega
  ·rw [if_neg h, List.length_append, List.length_cons, List.length_cons, List.length_nil]; omega
theorem z9m (ks : List κ) : (metL ks).length ≤ ks.length := by
 have := z5D ks []
 simpa [metL] using this
theorem z6u : ∀ (ks acc : List κ), (acc ++ ks).Nodup -> ks.foldl (fun acc k => if k ∈ acc then acc else acc ++ [k]) acc = acc ++ ks
 | [], acc, _ => by simp
 | x :: r, acc, h => by
  have hx : x ∉ acc := fun hx => by
   rw [List.nodup_append] at h
   exact h.2.2 x hx x (List.mem_cons_self) rfl
  rw [List.foldl_cons, if_neg hx, z6u r (acc ++ [x]) (by rw [List.append_assoc]; exact h), List.append_assoc]
  rfl
theorem z8k {ks : List κ} (h : ks.Nodup) : metL ks = ks := by
 have := z6u ks [] (by simpa using h)
 simpa [metL] using this
end
section
variable {prog : Program} {w : World} {A : Around} {κ : Type} [DecidableEq κ] {kd : KeyKind prog w κ} {I : Addr} {fp wr : List Addr} {G : Array GenState -> Array GenState -> Prop} {n : Nat} {P : Nat -> Value -> Prop} {St : Nat -> Shared -> Prop}
abbrev z4n (kd : KeyKind prog w κ) (h : Heap) (a : Addr) (ks : List κ) : Prop := h.SetOf kd a (fun k => decide (k ∈ ks)) (metL ks).length
theorem z4n.at {h h' : Heap} {a : Addr} {ks : List κ} (x : z4n kd h a ks) (e : ∀ o, h.get? a = some o -> h'.get? a = some o) : z4n kd h' a ks := by
 obtain ⟨o, es, ep, t, ho, r⟩ := x
 exact ⟨o, es, ep, t, e o ho, r⟩
theorem z6W {R : Result -> Shared -> Prop} (W : WalksS prog w A.in1 I fp wr G n P St) {a : Addr} (out : a ∉ fp) {ks : List κ} (lk : ks.length = n)
  (vals : ∀ i v, P i v -> ∃ k, ks[i]? = some k /\ kd.is k v = true /\ v.scannable = true) (few : n + 1 < scanBound) :
  ∀ (todo i : Nat) (s : Shared), i + todo = n -> St i s -> z4n kd s.heap a (ks.take i) ->
   (∀ s', Moved (a :: wr) G s s' -> z4n kd s'.heap a ks -> R (.ok (.ret .none)) s') -> codeAny (model prog w) A (.builtin "set.update.loop" ⟨[.ref a, .ref I], []⟩) R s
 | 0, i, s, ei, st, sx, fin => by
  have e : ks.take i = ks := List.take_of_length_le (by omega)
  rw [e] at sx
  have ei' : i = n := by omega
  subst ei'
  refine codeAny_builtin F.entry_set_update_loop ?_
  rw [Around.under_plainId F.plain_set_update_loop _]
  refine wpAny_bind (W.done s _ _ st fun s' mv => wpAny_pure (fin s' (mv.mono fun b hb => .tail _ hb) (sx.at fun o => mv.heap a o fun q => out (W.sub _ q))))
 | todo + 1, i, s, ei, st, sx, fin => by
  refine codeAny_builtin F.entry_set_update_loop ?_
  rw [Around.under_plainId F.plain_set_update_loop _]
  refine wpAny_bind (W.item i s _ _ (by omega) st fun v s1 hv st1 mv => ?_)
  obtain ⟨k, ek, iv, sc⟩ := vals i v hv
  have sx1 := sx.at (h' := s1.heap) fun o => mv.heap a o fun q => out (W.sub _ q)
  refine wpAny_bind (wpAny_holding (m := setAdd a v) ?_)
  unfold setAdd
  refine wpAny_holding (wpAny_bind (kd.pyHash iv ?_))
  have lm := z9m (ks.take i)
  rw [List.length_take] at lm
  refine wpAny_setAddHashed_of (s := { s1 with toks := s1.toks + 1 }) iv sc sx1 (by omega) fun h2 sb sx2 => ?_
  have sx3 : z4n kd h2 a (ks.take (i + 1)) := by
   have e1 : (fun k' => decide (k' ∈ ks.take i) || decide (k' = k)) = fun k' => decide (k' ∈ ks.take (i + 1)) := by
    funext k'
    rw [List.take_add_one, ek]
    simp [Bool.decide_or]
   have e2 : (if decide (k ∈ ks.take i) = true then (metL (ks.take i)).length else (metL (ks.take i)).length + 1) = (metL (ks.take (i + 1))).length := by
    rw [y0x ek]
    by_cases hk : k ∈ ks.take i
    ·rw [if_pos (decide_eq_true hk), if_pos (z7d.mpr hk)]
    ·rw [if_neg (by simpa using hk), if_neg (fun q => hk (z7d.mp q)), List.length_append]
     rfl
   rw [e1, e2] at sx2
   exact sx2
  have far : ∀ b, b ≠ a -> h2.get? b = s1.heap.get? b := fun b hb => sb.2 b hb
  refine wpAny_pure ⟨plainId_quiet F.plain_set_update_loop _, z6W W out lk vals few todo (i + 1) _ (by omega) (W.frame _ s1 _ _ st1 (Nat.le_succ _) fun b hb o q => ?_) sx3 fun s3 mv3 sx4 => ?_⟩
  ·rw [far b fun z => out (z ▸ hb)]; exact q
  ·refine fin s3 (.trans W.gtrans ((mv.mono fun b hb => .tail _ hb).then_heap (Nat.le_succ _) fun b o hb q => ?_) mv3) sx4
   rw [far b fun z => hb (z ▸ .head _)]; exact q
end
namespace Ty
theorem y0s : isSubtype (.type "tuple") (.type "set") = pure false := by rw [isSubtype_type]; kernel_rfl
theorem z5y : isSubtype (.type "tuple") (.type "frozenset") = pure false := by rw [isSubtype_type]; kernel_rfl
end Ty
abbrev set0 (led : Bool) : Obj := { cls := .type "set", dict := none, data := .set #[] 0 (.fresh 0 0 led) }
section
variable {prog : Program} {w : World} {A : Around} {E : Value -> Shared -> Prop} {s : Shared} {κ : Type} [DecidableEq κ] {kd : KeyKind prog w κ}
theorem y1H {T : String} {p : Addr} {o : Obj} {its : Array Value} {c0 : Nat} {ks : List κ} {Q : Value -> Shared -> Prop} (hh : A.handled = none) (hp : s.heap.get? p = some o) (hc : o.cls = .type T) (hd : o.data = .seq its c0) (hT : T = "list" \/ T = "tuple")
  (lk : ks.length = its.size) (vals : ∀ (i : Nat) v, its[i]? = some v -> ∃ k, ks[i]? = some k /\ kd.is k v = true /\ v.scannable = true) (few : its.size + 1 < scanBound)
  (fin : ∀ (h' : Heap) (t : Nat), z4n kd h' s.heap.objs.size ks -> (∀ b u, b < s.heap.objs.size -> s.heap.get? b = some u -> h'.get? b = some u) -> Q (.ref s.heap.objs.size) { s with heap := h', toks := t }) :
  wpAny (model prog w) A (call (.type "set") [.ref p]) Q E s := by
 obtain ⟨c, tl, hmro⟩ := F.called_set.mro
 have g1 := F.called_set.made
 have g2 := F.called_set.sub
 refine wpAny_call (codeAny_of_tree (wpAny_pure ⟨Code.quiet_builtin _ (by decide +kernel), codeAny_builtin F.entry_type_call ?_⟩))
 rw [Around.under_plain (weight_type_call_type "set" [.ref p] []) rfl]
 have g3 := F.called_set.notType
 have g4 := F.called_set.canCreate
 have g5 := F.typeCall_set_1 (.ref p)
 repeat (any_goals (first | assumption | wp_step))
 refine codeAny_mono (code_set_new_1 (.ref p) (E := E) (Q₁ := fun u s1 => ∃ led, u = .ref s.heap.objs.size /\ s1 = { s with heap := s.heap.push (set0 led) }) fun led => ⟨led, rfl, rfl⟩) fun r s1 q1 => ?_
 rcases r with e | (_ | _ | _ | u)
 all_goals try exact q1.elim
 all_goals try exact q1
 obtain ⟨led, rfl, rfl⟩ := q1
 have at1 : (s.heap.push (set0 led)).get? s.heap.objs.size = some (set0 led) := Heap.get?_push_size _ rfl
 have ty1 : Shared.TypeIs { s with heap := s.heap.push (set0 led) } (.ref s.heap.objs.size) "set" := ⟨_, at1, rfl⟩
 have g6 := F.called_set.init.lookup
 have g7 := F.called_set.init.bind (.ref s.heap.objs.size)
 repeat (any_goals (first | assumption | wp_step))
 refine codeAny_mono (codeAny_call_builtin (R := wants (fun r s2 => r = .none /\ ∃ h' t, s2 = { s with heap := h', toks := t } /\ z4n kd h' s.heap.objs.size ks /\ ∀ b u, b < s.heap.objs.size -> s.heap.get? b = some u -> h'.get? b = some u) E)
  F.called_set.init.plain F.entry_set_init (check_set_init_1 ty1 ?_)) fun r s2 q2 => ?_
 case _ =>
  have hpS : p < s.heap.objs.size := Heap.lt_size hp
  obtain ⟨oc, od, oa, os⟩ := o
  simp only at hc hd
  subst hc; subst hd
  have hp1 : (s.heap.push (set0 led)).get? p = some { cls := .type T, dict := od, data := .seq its c0, slots := os } := Heap.get?_push_of_some _ hp
  have f1 : isSubtype (.type T) (.type "set") = pure false := by rcases hT with rfl | rfl <;> first | exact F.sub_list_set | exact Ty.y0s
  have f2 : isSubtype (.type T) (.type "frozenset") = pure false := by rcases hT with rfl | rfl <;> first | exact F.sub_list_frozenset | exact Ty.z5y
  have f3 : (Value.type T == Value.type "dict") = false := by rcases hT with rfl | rfl <;> decide
  have hh3 : A.in1.in1.in1.handled = none := by simp [hh]
  have sz : (s.heap.push (set0 led)).objs.size = s.heap.objs.size + 1 := Heap.size_push _ _
  have apart : p ≠ (s.heap.push (set0 led)).objs.size := by rw [sz]; exact Nat.ne_of_lt (Nat.lt_succ_of_lt hpS)
  have out : s.heap.objs.size ∉ [(s.heap.push (set0 led)).objs.size, p] := by rw [sz, List.mem_cons, List.mem_singleton]; exact fun z => z.elim (Nat.ne_of_lt (Nat.lt_succ_self _)) (Nat.ne_of_gt hpS)
  have z4l : ∀ x : Obj, z4n kd ((s.heap.push (set0 led)).push x) s.heap.objs.size (ks.take 0) := fun x => by
   have z := (setObjOf_fresh (knd := kd) led).setOf (Heap.get?_push_of_some x at1) (by unfold scanBound; omega)
   have e : (fun k : κ => decide (k ∈ ks.take 0)) = fun _ => false := by funext k; simp
   show Heap.SetOf kd _ _ (fun k => decide (k ∈ ks.take 0)) _
   rw [e]
   exact z
  have ends : ∀ (x : Obj) (s' : Shared), Moved [s.heap.objs.size, (s.heap.push (set0 led)).objs.size] (fun a b => b = a) { s with heap := (s.heap.push (set0 led)).push x } s' -> z4n kd s'.heap s.heap.objs.size ks ->
    ∃ h' t, s' = { s with heap := h', toks := t } /\ z4n kd h' s.heap.objs.size ks /\ ∀ b u, b < s.heap.objs.size -> s.heap.get? b = some u -> h'.get? b = some u := fun x s' mv sx => by
   obtain ⟨h', g', d', t', o'⟩ := s'
   obtain rfl : g' = s.gens := mv.gens
   obtain rfl : d' = s.drawn := mv.drawn
   obtain rfl : o' = s.os := mv.os
   exact ⟨h', t', rfl, sx, fun b u hb q => mv.heap b u (by rw [sz, List.mem_cons, List.mem_singleton]; exact fun z => z.elim (Nat.ne_of_lt hb) (Nat.ne_of_lt (Nat.lt_succ_of_lt hb))) (Heap.get?_push_of_some _ (Heap.get?_push_of_some _ q))⟩
  unfold Builtin.«set.__init__» noKeywords Builtin.Frozenset.updateFrom
  generalize hPI : pyIter = PI
  wp_walk
  subst hPI
  rcases hT with rfl | rfl
  ·have hl : (s.heap.push (set0 led)).IsList p its := ⟨_, hp1, rfl, c0, rfl⟩
   refine wpAny_pyIter_list hl (wpAny_bind (wpAny_runValue ?_))
   refine z6W (kd := kd) ((Walks.list hh3 _ p apart its).toS) out lk vals few its.size 0 _ (Nat.zero_add _) ⟨⟨_, Heap.get?_push_size _ rfl, rfl, rfl⟩, hl.push _⟩ (z4l _) fun s' mv sx => ?_
   exact wpAny_pure (wpAny_pure ⟨rfl, ends _ s' mv sx⟩)
  ·have hl : (s.heap.push (set0 led)).IsTuple p its := ⟨_, hp1, rfl, c0, rfl⟩
   refine wpAny_pyIter_tuple hl (wpAny_bind (wpAny_runValue ?_))
   refine z6W (kd := kd) ((Walks.tuple hh3 _ p apart its).toS) out lk vals few its.size 0 _ (Nat.zero_add _) ⟨⟨_, Heap.get?_push_size _ rfl, rfl, rfl⟩, hl.push _⟩ (z4l _) fun s' mv sx => ?_
   exact wpAny_pure (wpAny_pure ⟨rfl, ends _ s' mv sx⟩)
 ·rcases r with e | (_ | _ | _ | u)
  all_goals try exact q2.elim
  all_goals try exact q2
  obtain ⟨rfl, h', t, rfl, sx, kp⟩ := q2
  repeat (any_goals (first | assumption | wp_step))
  exact fin _ _ sx kp
end
section
variable {X : Cx}
def SetT (P : Program) (w : World) (a : Addr) (zs : List Str) : HO := .ext fun h => z4n (strKind P w) h a zs
theorem SetT.new {P : Program} {w : World} {H : Hp} {h : Heap} {a : Addr} {zs : List Str} (x : z4n (strKind P w) h a zs) : z16 P w H h a (SetT P w a zs) := by
 refine ⟨x, ?_, fun h1 h2 y e => z4n.at y e⟩
 obtain ⟨o, _, _, _, e, _⟩ := x
 exact ⟨o, e⟩
theorem z9l : ∀ {zs : List Str} {us : List Value}, Vals (zs.map V.str) us -> ∀ (i : Nat) (v : Value), us[i]? = some v -> ∃ (k : Str) (t : Tok), zs[i]? = some k /\ v = .str k t
 | [], _, .nil, i, v, h => by simp at h
 | z :: zs, u :: us, .cons r rs, 0, v, h => by
  simp at h
  subst h
  obtain ⟨t, rfl⟩ := r
  exact ⟨z, t, rfl, rfl⟩
 | z :: zs, u :: us, .cons r rs, i + 1, v, h => by
  simp at h
  obtain ⟨k, t, a, b⟩ := z9l rs i v h
  exact ⟨k, t, by simpa using a, b⟩
theorem z2D (hc : X.calm = true) : z33 X (.type "set") (fun xs H Q => ∃ p zs, xs = [.ref p] /\ (SqL X.K H p (zs.map V.str) \/ SqT X.K H p (zs.map V.str)) /\ zs.length ≤ 1000 /\ ∀ l, H l = none -> Q (.ref l) (upd H l (SetT X.prog X.w l zs))) := by
 intro pins s σ H xs us Q I r h
 obtain ⟨p, zs, rfl, hq, hl, q⟩ := h
 obtain ⟨u, rfl, rx⟩ := z5h r
 cases rx
 have go : ∀ (T : String) (o : Obj) (its : List Value) (c0 : Nat), s.heap.get? p = some o -> o.cls = .type T -> o.data = .seq its.toArray c0 -> (T = "list" \/ T = "tuple") -> Vals (zs.map V.str) its -> wpAny (model X.prog X.w) X.A (call (.type "set") [.ref p]) (EP X pins σ Q) X.xe s :=
  fun T o its c0 ho hcl hda hT rv => by
   have ln : zs.length = its.length := by have := rv.length; rwa [List.length_map] at this
   refine y1H (kd := strKind X.prog X.w) (ks := zs) (I.ok.hd hc) ho hcl hda hT (by simpa using ln) (fun i v hv => ?_) (by simp [scanBound]; omega) fun h' t sx kp => ?_
   ·obtain ⟨k, t, a, rfl⟩ := z9l rv i v (by simpa using hv)
    exact ⟨k, a, strKind_is _ _ _ _, rfl⟩
   ·refine ⟨.ref s.heap.objs.size, _, I.laid (a := s.heap.objs.size) (o := SetT X.prog X.w s.heap.objs.size zs) (h' := h') (t' := t) (fun b u q1 => kp b u (Heap.lt_size q1) q1) (Nat.le_refl _) (SetT.new sx), rfl, q _ (I.hok.fresh (Nat.le_refl _))⟩
 rcases hq with hq | hq
 ·obtain ⟨its, rv, pl, _⟩ := I.list hq
  obtain ⟨o, ho, hcl, n, hda⟩ := pl.isList
  exact go "list" o its n ho hcl hda (.inl rfl) rv
 ·obtain ⟨its, rv, pl, _⟩ := I.tuple hq
  obtain ⟨o, ho, hcl, n, hda⟩ := pl
  exact go "tuple" o its n ho hcl hda (.inr rfl) rv
theorem z2Q : z33 X (.builtin "len") (fun xs H Q => ∃ p zs, xs = [.ref p] /\ H p = some (SetT X.prog X.w p zs) /\ zs.length ≤ 1000 /\ Q (.int (metL zs).length) H) := by
 intro pins s σ H xs us Q I r h
 obtain ⟨p, zs, rfl, hp, hl, q⟩ := h
 obtain ⟨u, rfl, rx⟩ := z5h r
 cases rx
 obtain ⟨⟨o, es, ep, t, e1, e2, e3, _, _, _, e4, e5⟩, _⟩ := (show z16 X.prog X.w H s.heap p (SetT X.prog X.w p zs) from I.hok p _ hp)
 have := z9m zs
 exact PySem.call_len_set e1 e2 e3 e4 (by omega) ⟨.int (metL zs).length, H, I.tok _, ⟨s.toks + 1, by rw [e5]⟩, q⟩
end
section
variable {κ : Type} [DecidableEq κ]
def valV (kvs : List (κ × V)) (k : κ) : Option V := (kvs.find? fun kv => decide (kv.1 = k)).map (·.2)
def putK (kvs : List (κ × V)) (k : κ) (v : V) : List (κ × V) :=
 if (kvs.any fun kv => decide (kv.1 = k)) = true then kvs.map (fun kv => if kv.1 = k then (kv.1, v) else kv) else kvs ++ [(k, v)]
theorem z5k {p : κ × V} {r : List (κ × V)} {k : κ} (e : p.1 = k) : valV (p :: r) k = some p.2 := by simp [valV, List.find?_cons, e]
theorem z5o {p : κ × V} {r : List (κ × V)} {k : κ} (e : ¬ p.1 = k) : valV (p :: r) k = valV r k := by simp [valV, List.find?_cons, e]
theorem z5l (k : κ) : ∀ kvs : List (κ × V), (kvs.any fun kv => decide (kv.1 = k)) = (valV kvs k).isSome
 | [] => rfl
 | p :: r => by
  rw [List.any_cons]
  by_cases e : p.1 = k
  ·simp only [z5k e, decide_eq_true e, Bool.true_or, Option.isSome_some]
  ·rw [z5o e, decide_eq_false e, Bool.false_or]; exact z5l k r
theorem z5O (kvs : List (κ × V)) (k : κ) (v : V) : (putK kvs k v).length ≤ kvs.length + 1 := by
 unfold putK
 split
 ·rw [List.length_map]; omega
 ·rw [List.length_append, List.length_cons, List.length_nil]; omega
theorem y1V {kvs : List (κ × V)} {k : κ} (v : V) (h : valV kvs k = none) : putK kvs k v = kvs ++ [(k, v)] := by
 unfold putK
 rw [z5l, h]
 exact if_neg (by decide)
theorem RelO.isSome_eq {o : Option V} {u : Option Value} (r : RelO o u) : o.isSome = u.isSome := by
 cases o with
 | none => cases u with
  | none => rfl
  | some _ => exact (show False from r).elim
 | some _ => cases u with
  | none => exact (show False from r).elim
  | some _ => rfl
theorem KV.val {kvs : List (κ × V)} {vs : List (κ × Value)} (r : KV kvs vs) (k : κ) : RelO (valV kvs k) (valueAt vs k) := by
 unfold KV at r
 induction r with
 | nil => exact True.intro
 | @cons p q ps qs h t ih =>
  obtain ⟨h1, h2⟩ := h
  by_cases e : p.1 = k
  ·have e' : q.1 = k := h1.symm.trans e
   have b : valueAt (q :: qs) k = some q.2 := by simp [valueAt, List.find?_cons, e']
   rw [z5k e, b]; exact h2
  ·have e' : ¬ q.1 = k := fun z => e (h1.trans z)
   have b : valueAt (q :: qs) k = valueAt qs k := by simp [valueAt, List.find?_cons, e']
   rw [z5o e, b]; exact ih
theorem KV.any {kvs : List (κ × V)} {vs : List (κ × Value)} (r : KV kvs vs) (k : κ) : (kvs.any fun kv => decide (kv.1 = k)) = vs.any fun kv => decide (kv.1 = k) := by
 unfold KV at r
 induction r with
 | nil => rfl
 | cons h t ih => rw [List.any_cons, List.any_cons, ih, h.1]
theorem KV.repl {kvs : List (κ × V)} {vs : List (κ × Value)} (r : KV kvs vs) (k : κ) {y : V} {u : Value} (ry : RelV y u) :
  KV (kvs.map fun kv => if kv.1 = k then (kv.1, y) else kv) (vs.map fun kv => if kv.1 = k then (kv.1, u) else kv) := by
 unfold KV at r ⊢
 induction r with
 | nil => exact .nil
 | @cons p q ps qs h t ih =>
  rw [List.map_cons, List.map_cons]
  refine .cons ?_ ih
  obtain ⟨h1, h2⟩ := h
  by_cases e : p.1 = k
  ·rw [if_pos e, if_pos (h1.symm.trans e)]; exact ⟨h1, ry⟩
  ·rw [if_neg e, if_neg (fun z => e (h1.trans z))]; exact ⟨h1, h2⟩
theorem KV.put {kvs : List (κ × V)} {vs : List (κ × Value)} (r : KV kvs vs) (k : κ) {y : V} {u : Value} (ry : RelV y u) : KV (putK kvs k y) (stored vs k u) := by
 unfold putK stored
 rw [r.any k]
 by_cases e : (vs.any fun kv => decide (kv.1 = k)) = true
 ·rw [if_pos e, if_pos e]; exact r.repl k ry
 ·rw [if_neg e, if_neg e]; exact Paired.snoc r ⟨rfl, ry⟩
theorem KV.keys {kvs : List (κ × V)} {vs : List (κ × Value)} (r : KV kvs vs) : kvs.map (·.1) = vs.map (·.1) := by
 unfold KV at r
 induction r with
 | nil => rfl
 | cons h t ih => rw [List.map_cons, List.map_cons, ih, h.1]
theorem KV.length {kvs : List (κ × V)} {vs : List (κ × Value)} (r : KV kvs vs) : kvs.length = vs.length := Paired.length r
end
theorem y1c {P : Program} {w : World} {k : Key} {u : Value} (r : RelV (kV k) u) : (z19 P w).is k u = true := by
 cases k with
 | inl i => obtain ⟨t, e⟩ := (show ∃ t, u = Value.int i t from r); subst e; exact z8O P w i t
 | inr x => obtain ⟨t, e⟩ := (show ∃ t, u = Value.str x t from r); subst e; exact z8j P w x t
theorem z7O {P : Program} {w : World} : ∀ {ks : List Key} {us : List Value}, Vals (ks.map kV) us -> ItemsAre (z19 P w) ks us
 | [], _, r => by rw [List.map_nil] at r; cases r; exact .nil
 | k :: ks, _, r => by
  rw [List.map_cons] at r
  cases r with
  | cons h t => exact .cons (y1c h) (z7O t)
abbrev KT (H : Hp) : List (List Key × V) -> List (List Key × Addr × Value) -> Prop := Paired fun p q => p.1 = q.1 /\ H q.2.1 = some (.tup (p.1.map kV)) /\ RelV p.2 q.2.2
theorem KT.val {H : Hp} {kvs : List (List Key × V)} {xs : List (List Key × Addr × Value)} (r : KT H kvs xs) (k : List Key) : RelO (valV kvs k) ((atKey xs k).map (·.2)) := by
 induction r with
 | nil => exact True.intro
 | @cons p q ps qs h t ih =>
  obtain ⟨h1, _, h2⟩ := h
  by_cases e : p.1 = k
  ·have e' : q.1 = k := h1.symm.trans e
   have b : atKey (q :: qs) k = some q.2 := by simp [atKey, List.find?_cons, e']
   rw [z5k e, b]; exact h2
  ·have e' : ¬ q.1 = k := fun z => e (h1.trans z)
   have b : atKey (q :: qs) k = atKey qs k := by simp [atKey, List.find?_cons, e']
   rw [z5o e, b]; exact ih
theorem KT.repl {H : Hp} {kvs : List (List Key × V)} {xs : List (List Key × Addr × Value)} (r : KT H kvs xs) (k : List Key) {y : V} {u : Value} (ry : RelV y u) :
  KT H (kvs.map fun kv => if kv.1 = k then (kv.1, y) else kv) (xs.map (putAt k u)) := by
 induction r with
 | nil => exact .nil
 | @cons p q ps qs h t ih =>
  rw [List.map_cons, List.map_cons]
  refine .cons ?_ ih
  obtain ⟨h1, h2, h3⟩ := h
  unfold putAt
  by_cases e : p.1 = k
  ·rw [if_pos e, if_pos (h1.symm.trans e)]; exact ⟨h1, h2, ry⟩
  ·rw [if_neg e, if_neg (fun z => e (h1.trans z))]; exact ⟨h1, h2, h3⟩
theorem KT.put {H : Hp} {kvs : List (List Key × V)} {xs : List (List Key × Addr × Value)} (r : KT H kvs xs) (k : List Key) {b : Addr} {y : V} {u : Value} (hb : H b = some (.tup (k.map kV))) (ry : RelV y u) :
  KT H (putK kvs k y) (storedH xs k b u) := by
 have e : (kvs.any fun kv => decide (kv.1 = k)) = (atKey xs k).isSome := by
  rw [z5l, (r.val k).isSome_eq, Option.isSome_map]
 unfold putK storedH
 rw [e]
 by_cases q : (atKey xs k).isSome = true
 ·rw [if_pos q, if_pos q]; exact r.repl k ry
 ·rw [if_neg q, if_neg q]; exact Paired.snoc r ⟨rfl, hb, ry⟩
theorem KT.keeps {H H' : Hp} {kvs : List (List Key × V)} {xs : List (List Key × Addr × Value)} (r : KT H kvs xs) (ht : ∀ b ys, H b = some (.tup ys) -> H' b = some (.tup ys)) : KT H' kvs xs :=
 Paired.mapP r fun _ _ z => ⟨z.1, ht _ _ z.2.1, z.2.2⟩
section
variable {P : Program} {w : World} {H : Hp} {h : Heap} {a : Addr}
theorem y4d {u : HO} (ok : HOk P w H h) (e : Rd H a u) : z16 P w H h a u := e.ok ok
theorem y1M {kvs : List (Key × V)} (ok : HOk P w H h) (e : Rd H a (.dK kvs)) : kvs.length ≤ sizeLine /\ (a == sysModules) = false /\ ∃ vs, KV kvs vs /\ h.DictOf (z19 P w) a vs :=
 show z16 P w H h a (.dK kvs) from y4d ok e
theorem y4n {kvs : List (Key × V)} (ok : HOk P w H h) (e : H a = some (.dK kvs)) : kvs.length ≤ sizeLine /\ (a == sysModules) = false /\ ∃ vs, KV kvs vs /\ h.DictOf (z19 P w) a vs := y1M ok (.inl e)
theorem z9s {ks : List Key} (ok : HOk P w H h) (e : H a = some (.tup (ks.map kV))) : (tupleKind (z19 P w)).is h ks a := by
 obtain ⟨_, its, r, o, h1, h2, ⟨n, h3⟩, _⟩ := (show z16 P w H h a (.tup (ks.map kV)) from ok a _ e)
 exact ⟨o, its.toArray, n, h1, h2, h3, by simpa using z7O r⟩
theorem y1T {kvs : List (List Key × V)} (ok : HOk P w H h) (e : Rd H a (.dT kvs)) : kvs.length ≤ sizeLine /\ (a == sysModules) = false /\
  ∃ xs, KT H kvs xs /\ h.DictOfH (tupleKind (z19 P w)) a xs := by
 obtain ⟨z, y, xs, r, o, es, ep, h1, h2, h3, h4, h5⟩ := (show z16 P w H h a (.dT kvs) from y4d ok e)
 refine ⟨z, y, xs, r, o, es, ep, h1, h2, h3, h4, fun x hx => ?_, h5⟩
 have all : ∀ {l : List (List Key × V)} {m : List (List Key × Addr × Value)}, KT H l m -> ∀ x ∈ m, (tupleKind (z19 P w)).is h x.1 x.2.1 := by
  intro l m q
  induction q with
  | nil => intro x hx; exact nomatch hx
  | @cons p q ps qs hq t ih =>
   intro x hx
   rcases List.mem_cons.mp hx with e | hx
   ·subst e
    exact z9s ok (by rw [<- hq.1]; exact hq.2.1)
   ·exact ih x hx
 exact all r x hx
theorem dt_of {kvs : List (List Key × V)} (ok : HOk P w H h) (e : H a = some (.dT kvs)) : kvs.length ≤ sizeLine /\ (a == sysModules) = false /\
  ∃ xs, KT H kvs xs /\ h.DictOfH (tupleKind (z19 P w)) a xs := y1T ok (.inl e)
end
def DGet (H : Hp) (a : Addr) (y : V) (r : Option V) : Prop :=
 (∃ kvs k, Rd H a (.dK kvs) /\ y = kV k /\ r = valV kvs k) \/ ∃ kvs k b, Rd H a (.dT kvs) /\ y = .ref b /\ H b = some (.tup (k.map kV)) /\ r = valV kvs k
def DPut (H : Hp) (a : Addr) (y v : V) (H' : Hp) : Prop :=
 (∃ kvs k, H a = some (.dK kvs) /\ y = kV k /\ kvs.length < sizeLine /\ H' = upd H a (.dK (putK kvs k v))) \/
 ∃ kvs k b, H a = some (.dT kvs) /\ y = .ref b /\ H b = some (.tup (k.map kV)) /\ kvs.length < sizeLine /\ H' = upd H a (.dT (putK kvs k v))
theorem DGet.k {H : Hp} {a : Addr} {kvs : List (Key × V)} {k : Key} (e : H a = some (.dK kvs)) : DGet H a (kV k) (valV kvs k) := .inl ⟨kvs, k, .inl e, rfl, rfl⟩
theorem DPut.k {H : Hp} {a : Addr} {kvs : List (Key × V)} {k : Key} {v : V} (e : H a = some (.dK kvs)) (hl : kvs.length < sizeLine) : DPut H a (kV k) v (upd H a (.dK (putK kvs k v))) := .inl ⟨kvs, k, e, rfl, hl, rfl⟩
section
variable {X : Cx} {pins : List (Addr × Obj)} {σ : St} {H : Hp} {s : Shared} {a : Addr} {y v : V} {u r : Value} {o : Option V} {A : Around} {E : Value -> Shared -> Prop}
theorem Inv.big (I : Inv X pins σ H s) : sysModules < s.heap.objs.size := by
 have h : mainGlobals < s.heap.objs.size := (I.mod.glob.keeps I.bk).lt
 exact Nat.lt_trans (by decide) h
theorem y1g {Q : Value -> Shared -> Prop} (hu : A.units + 1 < cLine) (I : Inv X pins σ H s) (g : DGet H a y (some v)) (ry : RelV y u) (h : ∀ w' s', Inv X pins σ H s' -> RelV v w' -> Q w' s') :
  wpAny (model X.prog X.w) A (getItem (.ref a) u) Q E s := by
 rcases g with ⟨kvs, k, e, ey, l⟩ | ⟨kvs, k, b, e, ey, eb, l⟩
 ·subst ey
  obtain ⟨z, hd, vs, rel, dd⟩ := y1M I.hok e
  obtain ⟨w', hw, rw'⟩ := RelO.some_of (v := v) (o := valueAt vs k) (by rw [l]; exact rel.val k)
  exact wpAny_getItem_of (y1c ry) dd.mapOf hw (h w' _ (I.tok _) rw')
 ·subst ey
  cases (show u = Value.ref b from ry)
  obtain ⟨z, hd, xs, rel, dd⟩ := y1T I.hok e
  obtain ⟨w', hw, rw'⟩ := RelO.some_of (v := v) (o := (atKey xs k).map (·.2)) (by rw [l]; exact rel.val k)
  obtain ⟨p, hp, hp2⟩ := Option.map_eq_some_iff.mp hw
  refine wpAny_getItem_heap (tupleKind_room_in1 hu) (z9s I.hok eb) dd hp ?_
  rw [hp2]
  exact h w' _ (I.tok _) rw'
theorem d_in {Q : Value -> Shared -> Prop} (hu : A.units + 1 < cLine) (I : Inv X pins σ H s) (g : DGet H a y o) (ry : RelV y u) (h : ∀ s', Inv X pins σ H s' -> Q (.bool o.isSome) s') :
  wpAny (model X.prog X.w) A (compareOp .In u (.ref a)) Q E s := by
 rcases g with ⟨kvs, k, e, ey, l⟩ | ⟨kvs, k, b, e, ey, eb, l⟩
 ·subst ey
  obtain ⟨z, hd, vs, rel, dd⟩ := y1M I.hok e
  refine wpAny_in_of (y1c ry) hd dd.mapOf ?_
  rw [<- (rel.val k).isSome_eq, <- l]
  exact h _ (I.tok _)
 ·subst ey
  cases (show u = Value.ref b from ry)
  obtain ⟨z, hd, xs, rel, dd⟩ := y1T I.hok e
  refine wpAny_in_heap (tupleKind_room_in1 hu) (z9s I.hok eb) hd dd ?_
  have q := (rel.val k).isSome_eq
  rw [Option.isSome_map] at q
  rw [<- q, <- l]
  exact h _ (I.tok _)
theorem y0m {h' : Heap} {t' : Nat} {ob : HO} (I : Inv X pins σ H s) (mu : Mut (H a)) (hs : Heap.SameBut a s.heap h') (he : ∃ q, h'.get? a = some q) (new : z16 X.prog X.w (upd H a ob) h' a ob) :
  Inv X pins σ (upd H a ob) { s with heap := h', toks := t' } :=
 I.write (x := a) (e := a) mu (.inl rfl) (fun b q hb z => (hs.2 b hb).trans z) he new
theorem y2Q {P : Program} {w : World} {H' : Hp} {h' : Heap} {kvs : List (Key × V)} {vs : List (Key × Value)} (z : kvs.length ≤ sizeLine) (hd : (a == sysModules) = false) (rel : KV kvs vs) (dd : h'.DictOf (z19 P w) a vs) :
  z16 P w H' h' a (.dK kvs) := ⟨z, hd, vs, rel, dd⟩
theorem y0Q {H' : Hp} {Q : Unit -> Shared -> Prop} (hu : A.units + 1 < cLine) (I : Inv X pins σ H s) (g : DPut H a y v H') (ry : RelV y u) (rv : RelV v r) (h : ∀ s', Inv X pins σ H' s' -> Q () s') :
  wpAny (model X.prog X.w) A (setItem (.ref a) u r) Q E s := by
 rcases g with ⟨kvs, k, e, ey, l, eH⟩ | ⟨kvs, k, b, e, ey, eb, l, eH⟩
 ·subst ey eH
  obtain ⟨z, hd, vs, rel, dd⟩ := y4n I.hok e
  have hz : vs.length ≤ sizeLine := by rw [<- rel.length]; exact z
  have hl : (putK kvs k v).length ≤ sizeLine := by have := z5O kvs k v; omega
  refine wpAny_setItem_pairs (hsz := hz) (y1c ry) dd fun h' dd' hs => h _ ?_
  have he : ∃ q, h'.get? a = some q := let ⟨q, _, _, hq, _⟩ := dd'; ⟨q, hq⟩
  exact y0m I (by rw [e]; exact True.intro) hs he (y2Q hl hd (rel.put k rv) dd')
 ·subst ey eH
  cases (show u = Value.ref b from ry)
  obtain ⟨z, hd, xs, rel, dd⟩ := dt_of I.hok e
  have hz : xs.length ≤ sizeLine := by rw [<- Paired.length rel]; exact z
  have hl : (putK kvs k v).length ≤ sizeLine := by have := z5O kvs k v; omega
  refine wpAny_setItem_heap (hsz := hz) (tupleKind_room_in1 hu) (z9s I.hok eb) dd fun h' dd' hs => h _ ?_
  obtain ⟨q, es, ep, hq, h2, h3, h4, _, h5⟩ := dd'
  refine y0m I (by rw [e]; exact True.intro) hs ⟨q, hq⟩ ⟨hl, hd, _, (rel.put k eb rv).keeps fun c ys ec => ?_, q, es, ep, hq, h2, h3, h4, h5⟩
  rw [z0b (z4A ec e (fun z => nomatch z))]
  exact ec
end
section
variable {X : Cx} {pins : List (Addr × Obj)} {σ : St} {H : Hp} {s : Shared} {a : Addr} {kvs : List (Key × V)} {k : Key} {u : Value} {A : Around} {E : Value -> Shared -> Prop}
end
def NoSl (i : Expr) : Prop := ∀ ov iv, subscripted i false ov iv = operate [ov, iv] (getItem ov iv)
theorem y3I {prog : Program} {w : World} {A : Around} {E : Value -> Shared -> Prop} {s : Shared} {env : Env} {value slice : Expr} {pos : Pos} {T id : String} {Q : Value -> Shared -> Prop}
  (hl : typeLookup (.type T) "__getitem__" = pure (some (.builtin id))) (hs : NoSl slice)
  (h : wpAny (model prog w) A (eval value env) (fun o s₁ => wpAny (model prog w) A (eval slice env) (fun i s₂ => s₂.TypeIs o T /\ wpAny (model prog w) A (getItem o i) Q E s₂) E s₁) E s) :
  wpAny (model prog w) A (eval (.Subscript value slice pos) env) Q E s := by
 refine Subscript_ (wpAny_mono h (fun o s₁ h₁ => wpAny_mono h₁ (fun i s₂ h₂ => ?_) fun _ _ x => x) fun _ _ x => x)
 obtain ⟨hT, h₂⟩ := h₂
 unfold subscriptTail
 refine wpAny_bind ?_
 rw [getitemInPython_of_ne hT.not_modules]
 refine wpAny_bind (wpAny_specialOf hT hl ?_)
 have fin : wpAny (model prog w) A (subscripted slice false o i) (fun r s₃ => wpAny (model prog w) A (letTemporaryGo value o r >>= fun _ => pure r) Q E s₃) E s₂ := by
  rw [hs o i]
  exact wpAny_operating (wpAny_mono h₂ (fun r s₃ h₃ => wpAny_bind (wpAny_letTemporaryGo (wpAny_pure h₃))) fun _ _ x => x)
 first
  | exact wpAny_pure (wpAny_bind fin)
  | exact wpAny_bind (wpAny_pure (wpAny_bind fin))
  | exact wpAny_bind fin
theorem z8B {X : Cx} {pins : List (Addr × Obj)} {σ : St} {H : Hp} {s : Shared} {a : Addr} {y : V} {o : Option V} (I : Inv X pins σ H s) (g : DGet H a y o) : s.TypeIs (.ref a) "dict" := by
 rcases g with ⟨kvs, k, e, _, _⟩ | ⟨kvs, k, b, e, _, _, _⟩
 ·obtain ⟨_, _, vs, _, dd⟩ := y1M I.hok e
  exact dd.typeIs
 ·obtain ⟨_, _, xs, _, dd⟩ := y1T I.hok e
  exact dd.typeIs
def tDGet (td ty : TE) : TE := fun σ H Q => td σ H fun x H1 => ty σ H1 fun y H2 => ∃ a v, x = .ref a /\ DGet H2 a y (some v) /\ Q v H2
def tDIn (ty td : TE) : TE := fun σ H Q => ty σ H fun y H1 => td σ H1 fun x H2 => ∃ a o, x = .ref a /\ DGet H2 a y o /\ Q (.bl o.isSome) H2
def sDPut (td ty tv : TE) : TS := fun D σ H => tv σ H fun v H1 => td σ H1 fun x H2 => ty σ H2 fun y H3 => ∃ a H4, x = .ref a /\ DPut H3 a y v H4 /\ D.nx σ H4
section
variable {X : Cx} {o i e value : Expr} {pos pos' tpos : Pos} {td ty tv : TE}
theorem y3h (hu : X.A.units + 1 < cLine) (ho : PE X o td) (hi : PE X i ty) (hs : NoSl i) : PE X (.Subscript o i pos) (tDGet td ty) := by
 intro pins s σ H Q I h
 refine y3I PySem.F.slot_dict_getitem.lookup hs (thn (ho pins s σ H _ I h) fun u s1 ⟨x, H1, I1, rx, q1⟩ => thn (hi pins s1 σ H1 _ I1 q1) fun iv s2 hz => ?_)
 obtain ⟨y, H2, I2, ry, a, v, ex, g, q2⟩ := hz
 subst ex
 obtain rfl : u = Value.ref a := rx
 exact ⟨z8B I2 g, y1g hu I2 g ry fun w' s3 I3 rw' => ⟨v, H2, I3, rw', q2⟩⟩
theorem y2W (hu : X.A.units + 1 < cLine) (hi : PE X i ty) (ho : PE X o td) : PC X .In i o (tDIn ty td) := by
 intro pins s σ H Q I h
 refine thn (hi pins s σ H _ I h) fun iv s1 ⟨y, H1, I1, ry, q1⟩ => thn (ho pins s1 σ H1 _ I1 q1) fun u s2 hz => ?_
 obtain ⟨x, H2, I2, rx, a, ov, ex, g, q2⟩ := hz
 subst ex
 obtain rfl : u = Value.ref a := rx
 exact d_in hu I2 g ry fun s3 I3 => ⟨.bl ov.isSome, H2, I3, rfl, q2⟩
theorem y35 (hu : X.A.units + 1 < cLine) (ho : PE X o td) (hi : PE X i ty) (hv : PE X value tv) (hs : swapsWith value (some (.Subscript o i pos')) pos.line X.env = pure false) :
  PS X (.Assign [.Subscript o i pos'] value pos) (sDPut td ty tv) := by
 intro pins s σ H D I h
 refine wpAny_Assign_Subscript (thn (hv pins s σ H _ I h) fun r s1 ⟨v, H1, I1, rv, q1⟩ => thn (ho pins s1 σ H1 _ I1 q1) fun u s2 ⟨x, H2, I2, rx, q2⟩ => thn (hi pins s2 σ H2 _ I2 q2) fun iv s3 hz => ?_) hs
 obtain ⟨y, H3, I3, ry, a, H4, ex, g, q3⟩ := hz
 subst ex
 obtain rfl : u = Value.ref a := rx
 exact y0Q hu I3 g ry rv fun s4 I4 => ⟨σ, H4, I4, q3⟩
end
theorem y2d {P : Program} {w : World} {H : Hp} (h : Heap) (hb : sysModules < h.objs.size) : z16 P w H (h.push { cls := .type "dict", data := .dict #[] }) h.objs.size (.dK []) :=
 ⟨Nat.zero_le _, beq_eq_false_iff_ne.mpr (Ne.symm (Nat.ne_of_lt hb)), [], .nil, Heap.DictOf.new h⟩
def y43 : TE := fun _ H Q => ∀ p, H p = none -> Q (.ref p) (upd H p (.dK []))
section
variable {X : Cx} {pos : Pos}
theorem y22 : PE X (.Dict [] [] pos) y43 := fun pins s σ H Q I h =>
 wpAny_Dict_empty ⟨.ref s.heap.objs.size, _, I.laid (a := s.heap.objs.size) (o := .dK []) (t' := s.toks) (fun _ _ q => Heap.get?_push_of_some _ q) (Nat.le_refl _) (y2d s.heap I.big), rfl, h _ (I.hok.fresh (Nat.le_refl _))⟩
end
section
variable {X : Cx} {pins : List (Addr × Obj)} {σ : St} {H : Hp} {s : Shared} {a : Addr} {y d : V} {u r : Value} {o : Option V} {A : Around} {E : Value -> Shared -> Prop}
end
section
variable {X : Cx} {o e f : Expr} {apos cpos : Pos} {td ty tx : TE}
end
section
variable {X : Cx} {pins : List (Addr × Obj)} {σ : St} {H : Hp} {s : Shared} {a : Addr} {kvs : List (Key × V)} {A : Around} {E : Value -> Shared -> Prop}
end
section
variable {X : Cx} {pins : List (Addr × Obj)} {σ : St} {H : Hp} {s : Shared} {a : Addr} {y : V} {u : Value} {A : Around} {E : Value -> Shared -> Prop}
end
structure MCal (P : Program) (w : World) (K : PySem.W.Frag) (mg : Str -> Option Value) (base : Heap) (k : Nat) (C : Addr) (m : Str) (ps : List Str) (sp : Sp) : Prop where
 cl : Cls K C
 ex : ∃ (f : Addr) (fd : FuncData), FnOk P w K mg base CX0 k f fd ps sp /\ z1c K fd ps [] /\ Meth K C m f
theorem MCal.mk' {P : Program} {w : World} {K : PySem.W.Frag} {mg : Str -> Option Value} {base : Heap} {k : Nat} {C : Addr} {m : Str} {ps : List Str} {sp : Sp} {f : Addr} {fd : FuncData} (c : Cls K C) (a : FnOk P w K mg base CX0 k f fd ps sp) (b : z1c K fd ps []) (d : Meth K C m f) :
  MCal P w K mg base k C m ps sp := ⟨c, f, fd, a, b, d⟩
section
variable {X : Cx} {k : Nat} {C : Addr} {m x : Str} {ps : List Str} {sp : Sp} {o e : Expr} {es : List Expr} {ta : TE} {t : TA} {p pos apos : Pos} {pl : Sem Bool}
theorem z1x (G : MCal X.prog X.w X.K X.mg X.base k C m ps sp) (hr : Room k X.A) (he : PE X o ta) (ha : PA X (e :: es) t)
  (hst : starEach (e :: es) X.env = (false, eval e X.env) :: starEach es X.env := by rfl) (hpl : (backTo pos (starEach es X.env)).any (·.1) = false := by rfl)
  (ht : eval (.Call (.Attribute o m apos) (e :: es) [] pos) X.env = (do
   let ov <- eval o X.env
   standAt apos.atName
   let (f, first) <- holding [ov] (getMethod ov m pl)
   callWith pos f first (backTo pos (starEach (e :: es) X.env)) (backToKw pos (keywordEach [] X.env))) := by rfl) :
  PE X (.Call (.Attribute o m apos) (e :: es) [] pos) (y0B C m sp [] E0 ta t) := by
 obtain ⟨f, fd, a, b, d⟩ := G.ex
 exact y04 he G.cl d a hr b .nil y1t ha hst hpl ht
theorem z2R (G : MCal X.prog X.w X.K X.mg X.base k C m ps sp) (hr : Room k X.A) (he : PE X o ta)
  (ht : eval (.Call (.Attribute o m apos) [] [] pos) X.env = (do
   let ov <- eval o X.env
   standAt apos.atName
   let (f, first) <- holding [ov] (getMethod ov m pl)
   callWith pos f first (backTo pos (starEach [] X.env)) (backToKw pos (keywordEach [] X.env))) := by rfl) :
  PE X (.Call (.Attribute o m apos) [] [] pos) (y0B C m sp [] E0 ta tNil) := by
 obtain ⟨f, fd, a, b, d⟩ := G.ex
 exact y2r he G.cl d a hr b .nil y1t ht
end
structure Mkr (P : Program) (w : World) (K : PySem.W.Frag) (mg : Str -> Option Value) (base : Heap) (k : Nat) (C : Addr) (x : Str) (ps : List Str) (sp : Sp) : Prop where
 ex : ∃ (f : Addr) (fd : FuncData), FnOk P w K mg base CX0 k f fd ps sp /\ z1c K fd ps [] /\ Mk K C f /\ mg x = some (.ref C)
theorem Mkr.mk' {P : Program} {w : World} {K : PySem.W.Frag} {mg : Str -> Option Value} {base : Heap} {k : Nat} {C : Addr} {x : Str} {ps : List Str} {sp : Sp} {f : Addr} {fd : FuncData} (a : FnOk P w K mg base CX0 k f fd ps sp) (b : z1c K fd ps []) (c : Mk K C f) (d : mg x = some (.ref C)) :
  Mkr P w K mg base k C x ps sp := ⟨f, fd, a, b, c, d⟩
section
variable {X : Cx} {k : Nat} {C : Addr} {m x : Str} {ps : List Str} {sp : Sp} {o e : Expr} {es : List Expr} {ta : TE} {t : TA} {p pos apos : Pos}
theorem y1d (G : Mkr X.prog X.w X.K X.mg X.base k C x ps sp) (hr : Room (k + 1) X.A) (hg : Gl X x) (ha : PA X (e :: es) t)
  (hdb : (x == ("__debug__" : Str)) = false := by decide) (he : starEach (e :: es) X.env = (false, eval e X.env) :: starEach es X.env := by rfl) (hpl : (backTo pos (starEach es X.env)).any (·.1) = false := by rfl) :
  PE X (.Call (.Name x p) (e :: es) [] pos) (y4E C sp [] E0 t) := by
 obtain ⟨f, fd, a, b, c, d⟩ := G.ex
 exact y3v c a hr hg d b .nil y1t ha hdb he hpl
theorem z0U {n : Int} (hg : Gl X x) (hm : ∃ t, X.mg x = some (.int n t)) (hd : (x == ("__debug__" : Str)) = false := by decide) : PE X (.Name x pos) (tC (.int n)) := by
 obtain ⟨t, e⟩ := hm
 exact y0H hg e ⟨t, rfl⟩ hd
end
def y2D (K : PySem.W.Frag) : List V -> Hp -> VK -> Prop := fun xs H Q => ∃ p ys, xs = [.ref p] /\ ((SqL K H p ys /\ ∀ l, H l = none -> Q (.ref l) (upd H l (.tup ys))) \/ (SqT K H p ys /\ Q (.ref p) H))
def y4v (K : PySem.W.Frag) : List V -> Hp -> VK -> Prop := fun xs H Q => ∃ p ys, xs = [.ref p] /\ (SqL K H p ys \/ SqT K H p ys) /\ ∀ l, H l = none -> Q (.ref l) (upd H l (.lst ys))
section
variable {X : Cx} {K : PySem.W.Frag}
theorem z6e (h : X.K = K) : z33 X (.type "tuple") (y2D K) := by
 subst h
 exact z0A
theorem z6S (h : X.K = K) : z33 X (.type "list") (y4v K) := by
 subst h
 exact z4U
end
section
variable {X : Cx}
end
end L2
namespace L2
open PySem
section
variable {prog : Program} {w : World} {A : Around} {E : Value -> Shared -> Prop} {s : Shared} {κ : Type} [DecidableEq κ] {kd : KeyKind prog w κ} {led : Bool}
end
end L2
namespace L2
open PySem PySem.Spec PyProof.Rows
namespace Ty
end Ty
section
variable {prog : Program} {w : World} {A : Around} {E : Value -> Shared -> Prop} {s : Shared}
end
namespace Ty
end Ty
section
variable {prog : Program} {w : World} {A : Around} {E : Value -> Shared -> Prop} {s : Shared} {κ : Type} [DecidableEq κ] {kd : KeyKind prog w κ}
end
section
variable {X : Cx}
end
theorem z1V : Slot "reversed" "__next__" "reversed.__next__" :=
 .of (owner := "reversed") (n := "__next__") (by rw [typeLookup_type, builtinLookup_eq_fast]; kernel_rfl) (by decide +kernel) (by decide +kernel) (by decide +kernel) (by first | exact .inl (by decide +kernel) | exact .inr (by decide +kernel)) (by rw [isSubtype_type]; kernel_rfl)
theorem z50 : Slot "reversed" "__iter__" "reversed.__iter__" :=
 .of (owner := "reversed") (n := "__iter__") (by rw [typeLookup_type, builtinLookup_eq_fast]; kernel_rfl) (by decide +kernel) (by decide +kernel) (by decide +kernel) (by first | exact .inl (by decide +kernel) | exact .inr (by decide +kernel)) (by rw [isSubtype_type]; kernel_rfl)
theorem z7F : Slot "reversed" "__init__" "object.__init__" :=
 .of (owner := "object") (n := "__init__") (by rw [typeLookup_type, builtinLookup_eq_fast]; kernel_rfl) (by decide +kernel) (by decide +kernel) (by decide +kernel) (by first | exact .inl (by decide +kernel) | exact .inr (by decide +kernel)) (by rw [isSubtype_type]; kernel_rfl)
theorem z4s : entryFor table "reversed.__next__" = some Builtin.«reversed.__next__» := entryFor_of_tree (by kernel_rfl)
theorem z70 : entryFor table "reversed.__iter__" = some Builtin.«dict_keyiterator.__iter__» := entryFor_alias (id' := "dict_keyiterator.__iter__") (by kernel_rfl) (by first | rfl | decide +kernel | (unfold String.splitOn; simp +decide [String.splitOnAux])) (by decide +kernel) (by kernel_rfl)
theorem z5c (a : Value) : argsOk "reversed.__next__" ⟨[a], []⟩ := by unfold argsOk; kernel_rfl
theorem z7v (a : Value) : argsOk "reversed.__iter__" ⟨[a], []⟩ := by unfold argsOk; kernel_rfl
theorem z5A : TypeCalled "reversed" "reversed.__new__" "object.__init__" :=
 ⟨by decide +kernel, by decide +kernel, ⟨_, _, PySem.F.mro_reversed⟩, PySem.F.made_reversed, by decide +kernel, PySem.F.sub_reversed_self, z7F⟩
theorem z7g : typeLookup (.type "tuple") "__reversed__" = pure none := by rw [typeLookup_type, builtinLookup_eq_fast]; kernel_rfl
theorem z9J : isSubtype (.type "tuple") (.type "dict") = pure false := by rw [isSubtype_type]; kernel_rfl
abbrev z75 (t : Addr) (i : Int) : Obj := { cls := .type "reversed", dict := none, data := .fields #[.ref t, rawInt i], slots := #[] }
section
variable {prog : Program} {w : World} {A : Around} {E : Value -> Shared -> Prop} {s : Shared}
theorem z8L {t : Addr} {items : Array Value} {Q : Value -> Shared -> Prop} (ht : IsTup s.heap t items) (hf : (items.size : Int) < 2 ^ 63) (h : ∀ tk, Q (.ref s.heap.objs.size) { s with heap := s.heap.push (z75 t ((items.size : Int) - 1)), toks := tk }) :
  codeAny (model prog w) A (.call (.builtin "reversed.__new__") ⟨[.type "reversed", .ref t], []⟩) (wants Q E) s := by
 refine codeAny_of_tree ?_
 show wpAny _ A.in1 (do checkBuiltinCall "reversed.__new__" ⟨[.type "reversed", .ref t], []⟩; again (.builtin "reversed.__new__" ⟨[.type "reversed", .ref t], []⟩)) _ _ s
 refine wpAny_bind (wpAny_of_eq (PySem.F.newCall_reversed_1 _) (wpAny_pure ⟨plainId_quiet PySem.F.plain_reversed_new _, codeAny_builtin PySem.F.entry_reversed_new ?_⟩))
 rw [Around.under_plainId PySem.F.plain_reversed_new _]
 unfold Builtin.«reversed.__new__»
 refine wpAny_bind (wpAny_of_eq (newClass_reversed _) ?_)
 try dsimp only
 refine wpAny_bind (wpAny_of_eq (a := ()) (by first | rfl | kernel_rfl) ?_)
 refine wpAny_bind (wpAny_of_eq (a := ()) (by first | rfl | kernel_rfl) ?_)
 try dsimp only
 refine wpAny_bind (wpAny_specialOf ht.typeIs z7g ?_)
 try dsimp only
 refine wpAny_bind ?_
 show wpAny _ _ (isInstance (.ref t) (.type "dict") >>= fun b => _) _ _ _
 refine wpAny_bind (wpAny_isInstance (T := "tuple") ht.typeIs z9J ?_)
 rw [if_neg (by decide)]
 refine wpAny_bind (wpAny_specialOf ht.typeIs slot_tuple_getitem.lookup ?_)
 dsimp only
 rw [if_pos (by decide +kernel)]
 refine wpAny_pure ?_
 rw [if_neg (by decide)]
 refine wpAny_bind (len_tuple ht hf ?_)
 refine wpAny_bind (wpAny_of_eq (a := some (items.size : Int)) rfl ?_)
 dsimp only
 refine wpAny_bind ?_
 show wpAny _ _ (newObj (.type "reversed") (.fields #[.ref t, rawInt ((items.size : Int) - 1)])) _ _ _
 exact wpAny_newObj_type (wpAny_pure (h _)) (by size_fits)
theorem y3Q {t : Addr} {items : Array Value} {Q : Value -> Shared -> Prop} (ht : IsTup s.heap t items) (hf : (items.size : Int) < 2 ^ 63) (h : ∀ tk, Q (.ref s.heap.objs.size) { s with heap := s.heap.push (z75 t ((items.size : Int) - 1)), toks := tk }) :
  wpAny (model prog w) A (call (.type "reversed") [.ref t]) Q E s := by
 refine callType_codes (Q₁ := fun obj s₁ => obj = .ref s.heap.objs.size /\ ∃ tk, s₁ = { s with heap := s.heap.push (z75 t ((items.size : Int) - 1)), toks := tk }) z5A (PySem.F.typeCall_reversed_1 _) F.entry_object_init (z8L ht hf fun tk => ⟨rfl, tk, rfl⟩) ?_
 rintro obj s₁ ⟨rfl, tk, rfl⟩
 have ty : Shared.TypeIs { s with heap := s.heap.push (z75 t ((items.size : Int) - 1)), toks := tk } (.ref s.heap.objs.size) "reversed" := ⟨_, Heap.get?_push_size _ rfl, rfl⟩
 exact ⟨ty, F.args_object_init_2 _ _, object_init_meets z5A.init.lookup z5A.made (by decide) _ _ _ _ _ ⟨ty, rfl, h tk⟩⟩
theorem y3M {I t : Addr} {i : Nat} {items : Array Value} {x : Value} {Q : Option Value -> Shared -> Prop} (hI : s.heap.get? I = some (z75 t (i : Int))) (ht : IsTup s.heap t items) (hx : items[i]? = some x) (hz : (items.size : Int) < 2 ^ 63)
  (hQ : ∀ h' tk, h'.get? I = some (z75 t ((i : Int) - 1)) -> Heap.SameBut I s.heap h' -> Q (some x) { s with heap := h', toks := tk }) : wpAny (model prog w) A (pyNext (.ref I)) Q E s := by
 have ty : s.TypeIs (.ref I) "reversed" := ⟨_, hI, rfl⟩
 have hi : i < items.size := (Array.getElem?_eq_some_iff.mp hx).1
 unfold pyNext
 refine wpAny_bind (wpAny_attempt (wpAny_callSpecial?_slot (name := Str.ofString "__next__") ty z1V
  (wpAny_call_entry z1V ty z4s ?_ (z5c _))))
 unfold Builtin.«reversed.__next__»
 refine wpAny_bind (wpAny_of_eq (a := (Value.ref I, [])) rfl ?_)
 try dsimp only
 refine wpAny_bind (wpAny_field hI rfl (x := .ref t) rfl ?_)
 refine wpAny_bind (wpAny_field hI rfl (x := rawInt (i : Int)) rfl ?_)
 show wpAny _ _ (if (i : Int) < 0 then _ else _) _ _ s
 rw [if_neg (by omega)]
 refine wpAny_bind (wpAny_specialOf ht.typeIs slot_tuple_getitem.lookup ?_)
 rw [if_neg (by decide)]
 refine wpAny_bind (wpAny_mkInt ?_)
 refine wpAny_bind (wpAny_attempt (getItem_tuple (j := i) (x := x) ht (by omega) (by omega) ?_ hx ?_))
 ·exact seqIndex_of (by omega) (by omega)
 dsimp only
 refine wpAny_bind (wpAny_field hI rfl (x := rawInt (i : Int)) rfl ?_)
 show wpAny _ _ (setField (.ref I) 1 (rawInt ((i : Int) - 1)) >>= _) _ _ _
 refine wpAny_bind (wpAny_setField hI rfl (by simp) ?_)
 refine wpAny_pure ⟨x, rfl, wpAny_pure (hQ _ _ ?_ (Heap.SameBut.update ..))⟩
 exact Heap.get?_update_self _ hI rfl
theorem y4t {I t : Addr} {Q : Option Value -> Shared -> Prop} (hh : A.handled = none) (hI : s.heap.get? I = some (z75 t (-1)))
  (hQ : ∀ h', Heap.ExtBut I s.heap h' -> Q none { s with heap := h' }) : wpAny (model prog w) A (pyNext (.ref I)) Q E s := by
 have ty : s.TypeIs (.ref I) "reversed" := ⟨_, hI, rfl⟩
 unfold pyNext
 refine wpAny_bind (wpAny_attempt (wpAny_callSpecial?_slot (name := Str.ofString "__next__") ty z1V
  (wpAny_call_entry z1V ty z4s ?_ (z5c _))))
 unfold Builtin.«reversed.__next__»
 refine wpAny_bind (wpAny_of_eq (a := (Value.ref I, [])) rfl ?_)
 try dsimp only
 refine wpAny_bind (wpAny_field hI rfl (x := .ref t) rfl ?_)
 refine wpAny_bind (wpAny_field hI rfl (x := rawInt (-1)) rfl ?_)
 show wpAny _ _ (if (-1 : Int) < 0 then _ else _) _ _ s
 rw [if_pos (by decide)]
 refine wpAny_bind (wpAny_rule ?_)
 refine wpAny_bind ?_
 show wpAny _ _ (setField (.ref I) 1 (rawInt (-1)) >>= fun _ => setField (.ref I) 0 .none) _ _ _
 refine wpAny_bind (wpAny_setField hI rfl (by simp) ?_)
 have g1 := Heap.get?_update_self (Obj.mapFields (·.setIfInBounds 1 (rawInt (-1)))) hI rfl
 have b1 : Heap.SameBut I s.heap (s.heap.update I (Obj.mapFields (·.setIfInBounds 1 (rawInt (-1))))) := Heap.SameBut.update ..
 refine wpAny_setField (vs := #[.ref t, rawInt (-1)]) g1 rfl (by simp) ?_
 have b2 : Heap.SameBut I (s.heap.update I (Obj.mapFields (·.setIfInBounds 1 (rawInt (-1))))) ((s.heap.update I (Obj.mapFields (·.setIfInBounds 1 (rawInt (-1))))).update I (Obj.mapFields (·.setIfInBounds 0 .none))) := Heap.SameBut.update ..
 refine wpAny_bind ?_
 unfold Builtin.SmallTypes.stopIteration
 refine wpAny_bind ?_
 simp only [newExc, newTuple]
 refine wpAny_bind (wpAny_newObj_type ?_ (by size_fits))
 refine wpAny_bind (m := firstArgMember _ _) (wpAny_of_eq (a := Value.none) (by first | rfl | (simp only [firstArgMember]; rfl)) (wpAny_newObj_type ?_ (by size_fits)))
 simp only [raiseNew]
 refine wpAny_bind (wpAny_handled ?_)
 rw [show A.in1.handled = none from hh]
 refine wpAny_bind (wpAny_pure (wpAny_throw ?_))
 refine wpAny_bind (wpAny_isInstance (T := "StopIteration") (b := true) ⟨_, Heap.get?_push_size _ rfl, rfl⟩ isSubtype_stop ?_)
 exact wpAny_pure (hQ _ fun b o hb e => Heap.get?_push_of_some _ (Heap.get?_push_of_some _ ((b2.2 b hb).trans ((b1.2 b hb).trans e))))
theorem y0Z {I t : Addr} {i : Int} {Q : Value -> Shared -> Prop} (hI : s.heap.get? I = some (z75 t i)) (h : Q (.ref I) s) : wpAny (model prog w) A (pyIter (.ref I)) Q E s := by
 have ty : s.TypeIs (.ref I) "reversed" := ⟨_, hI, rfl⟩
 refine wpAny_pyIter_slot ty z50 (wpAny_call_entry z50 ty z70 ?_ (z7v _))
 show wpAny _ _ (ret (.ref I)) _ _ s
 exact wpAny_pure ⟨_, rfl, "reversed", _, ty, z1V.lookup, h⟩
end
def Itv (K : PySem.W.Frag) (a : Addr) (n : Nat) : It :=
 ⟨fun i H => i < n /\ ∃ xs, SqT K H a xs /\ xs.length = n, fun i H x H' => H' = H /\ ∀ xs, SqT K H a xs -> xs.reverse[i]? = some x, fun i H => n ≤ i⟩
theorem y1X {P : Program} {w : World} {K : PySem.W.Frag} {tg : Expr} (a it : Addr) (n : Nat) : Turn P w K tg (Itv K a n) [it] it (fun i h => i ≤ n /\ h.get? it = some (z75 a ((n : Int) - 1 - (i : Int)))) where
 mem := by simp
 obj := fun i h st b hb => by
  have e : b = it := by simpa using hb
  subst e
  exact ⟨_, st.2, fun v z => by
   have z' : Data.fields _ = Data.cell v := z
   cases z'⟩
 keep := fun i h h' st k => ⟨st.1, k it (by simp) _ st.2⟩
 item := by
  intro X hP hw hK hc i pins s σ H E I hf st hg
  subst hP hw hK
  obtain ⟨hi, xs, hq, hn⟩ := hg
  obtain ⟨its, rv, p, hz⟩ := I.tuple hq
  have ln : xs.length = its.length := rv.length
  have hk : n - 1 - i < xs.length := by omega
  obtain ⟨u, hu, ru⟩ := rv.get (List.getElem?_eq_getElem hk)
  obtain ⟨f0, f1, f2, f3, f4, f5⟩ := hf it (by simp)
  have e1 : (n : Int) - 1 - (i : Int) = ((n - 1 - i : Nat) : Int) := by omega
  have st1 := st.2
  rw [e1] at st1
  refine y3M st1 (show IsTup s.heap a its.toArray from p) (x := u) (by simpa using hu) ?_ fun h' tk st' sb => ?_
  ·have : its.toArray.size = xs.length := by simp [ln]
   rw [this]
   have := Nat.lt_of_le_of_lt hz z4q
   omega
  have I1 : Inv X pins σ H { s with heap := h', toks := tk } := I.turned (t' := tk) (fun b o hb e => (sb.2 b hb).trans e) f0 f1 f3 f4 f5
  refine ⟨u, rfl, y0j (s := { s with heap := h', toks := tk }) st' rfl rfl (by decide) ⟨xs[n - 1 - i], H, I1, ru, ⟨rfl, fun ys hy => ?_⟩, ⟨hi, ?_⟩, fun b hb => (hf b hb).1⟩⟩
  ·rw [I.tuple_inj hy hq, List.getElem?_reverse (by omega), List.getElem?_eq_getElem (by omega)]
   congr 2
   omega
  ·have e2 : (n : Int) - 1 - ((i + 1 : Nat) : Int) = ((n - 1 - i : Nat) : Int) - 1 := by omega
   rw [e2]
   exact st'
 done := by
  intro X hP hw hK hc i pins s σ H E I hf st hg
  subst hP hw hK
  obtain ⟨f0, f1, f2, f3, f4, f5⟩ := hf it (by simp)
  have hg' : n ≤ i := hg
  have st1 := st.2
  rw [show (n : Int) - 1 - (i : Int) = -1 by have := st.1; omega] at st1
  exact y4t (I.ok.hd hc) st1 fun h' eb => ⟨rfl, I.turned (t' := s.toks) (fun b o hb e => eb b o hb e) f0 f1 f3 f4 f5⟩
 self := fun _ _ _ _ _ st h => y0Z st.2 h
section
variable {X : Cx} {tg : Expr}
def iRev (K : PySem.W.Frag) (ta : TA) : TI := fun σ H R => ta σ H fun vs H1 => ∃ a xs, vs = [.ref a] /\ SqT K H1 a xs /\ R (Itv K a xs.length) H1
theorem y4y {e : Expr} {ta : TA} {p pos : Pos} (hg : Gl X "reversed") (hm : X.mg "reversed" = none) (ha : PA X [e] ta) (hs : starEach [e] X.env = [(false, eval e X.env)] := by rfl) : PI X tg (.Call (.Name "reversed" p) [e] [] pos) (iRev X.K ta) := by
 intro pins s σ H R I h
 refine Call_ (z53 I hg hm boot_reversed (PyProof.Rows.callWith_type1 (thn (ha pos pins s σ H _ I h) fun us s1 ⟨vs, H1, I1, r1, q1⟩ => ?_) hs rfl))
 obtain ⟨a, xs, e, hq, q⟩ := q1
 subst e
 cases r1 with
 | cons r rr =>
  cases rr
  cases r
  obtain ⟨its, rv, p, hz⟩ := I1.tuple hq
  have ln : (its.toArray.size : Int) = xs.length := by simp [rv.length]
  refine y3Q (show IsTup s1.heap a its.toArray from p) ?_ fun tk => ?_
  ·rw [ln]
   have := Nat.lt_of_le_of_lt hz z4q
   omega
  refine y0Z (Heap.get?_push_size _ rfl) ?_
  refine ⟨s1.heap.objs.size, [s1.heap.objs.size], _, _, H1, rfl, I1.kept (t' := tk) fun b o e => Heap.get?_push_of_some _ e, y1X a _ xs.length, ⟨Nat.zero_le _, ?_⟩, fun b hb => ?_, q⟩
  ·rw [show (xs.length : Int) - 1 - ((0 : Nat) : Int) = (its.toArray.size : Int) - 1 by rw [ln]; simp]
   exact Heap.get?_push_size _ rfl
  ·have e : b = s1.heap.objs.size := by simpa using hb
   subst e
   exact I1.fpOk (Nat.le_refl _) (I1.hok.fresh (Nat.le_refl _))
end
theorem y2z {K : PySem.W.Frag} {a : Addr} {xs : List V} {g : TG} {tc : TT} {te : TE} {σ0 : St} {H1 : Hp} {F : List V -> Hp -> Prop} (Pv : Nat -> List V -> Hp -> Prop) (h0 : Pv 0 [] H1)
  (hl : ∀ i ys H, i ≤ xs.length -> Pv i ys H -> SqT K H a xs /\ ys.length < sizeLine)
  (hs : ∀ i x ys H, xs.reverse[i]? = some x -> Pv i ys H -> z1H g tc te σ0 x H ys (Pv (i + 1))) (hd : ∀ ys H, Pv xs.length ys H -> F ys H) : z9Q (Itv K a xs.length) g tc te σ0 H1 F := by
 refine ⟨fun i m ys H => m = xs.length - i /\ i ≤ xs.length /\ Pv i ys H, ⟨xs.length, by simp, Nat.zero_le _, h0⟩, ?_⟩
 rintro i m ys H ⟨rfl, hi, p⟩
 obtain ⟨q, z⟩ := hl i ys H hi p
 by_cases hlt : i < xs.length
 ·refine .inr ⟨⟨hlt, xs, q, rfl⟩, z, Pv (i + 1), fun zs H' p' => ⟨xs.length - (i + 1), by omega, rfl, hlt, p'⟩, fun x H' y => ?_⟩
  obtain ⟨e, y⟩ := y
  subst e
  exact hs i x ys _ (y xs q) p
 ·have e : i = xs.length := by omega
  subst e
  exact .inl ⟨Nat.le_refl _, hd ys H p⟩
theorem len0 {us : List Value} {p : List Value -> Prop} (h : us.length = 0) (k : p []) : p us := by rw [List.eq_nil_of_length_eq_zero h]; exact k
theorem len1 {us : List Value} {p : List Value -> Prop} (h : us.length = 1) (k : ∀ a, p [a]) : p us := by
 obtain ⟨a, r, rfl⟩ := List.exists_cons_of_length_eq_add_one h
 exact len0 (p := fun r => p (a :: r)) (Nat.succ.inj h) (k a)
theorem len2 {us : List Value} {p : List Value -> Prop} (h : us.length = 2) (k : ∀ a b, p [a, b]) : p us := by
 obtain ⟨a, r, rfl⟩ := List.exists_cons_of_length_eq_add_one h
 exact len1 (p := fun r => p (a :: r)) (Nat.succ.inj h) (k a)
theorem len3 {us : List Value} {p : List Value -> Prop} (h : us.length = 3) (k : ∀ a b c, p [a, b, c]) : p us := by
 obtain ⟨a, r, rfl⟩ := List.exists_cons_of_length_eq_add_one h
 exact len2 (p := fun r => p (a :: r)) (Nat.succ.inj h) (k a)
theorem len4 {us : List Value} {p : List Value -> Prop} (h : us.length = 4) (k : ∀ a b c d, p [a, b, c, d]) : p us := by
 obtain ⟨a, r, rfl⟩ := List.exists_cons_of_length_eq_add_one h
 exact len3 (p := fun r => p (a :: r)) (Nat.succ.inj h) (k a)
theorem len5 {us : List Value} {p : List Value -> Prop} (h : us.length = 5) (k : ∀ a b c d e, p [a, b, c, d, e]) : p us := by
 obtain ⟨a, r, rfl⟩ := List.exists_cons_of_length_eq_add_one h
 exact len4 (p := fun r => p (a :: r)) (Nat.succ.inj h) (k a)
theorem len6 {us : List Value} {p : List Value -> Prop} (h : us.length = 6) (k : ∀ a b c d e f, p [a, b, c, d, e, f]) : p us := by
 obtain ⟨a, r, rfl⟩ := List.exists_cons_of_length_eq_add_one h
 exact len5 (p := fun r => p (a :: r)) (Nat.succ.inj h) (k a)
theorem Cal.mono {P : Program} {w : World} {K : PySem.W.Frag} {mg : Str -> Option Value} {base : Heap} {j k : Nat} {x : Str} {ps : List Str} {sp : Sp} (G : Cal P w K mg base j x ps sp) (h : j ≤ k) : Cal P w K mg base k x ps sp := by
 obtain ⟨f, fd, a, b, c, d⟩ := G.ex
 exact ⟨f, fd, a.mono h, b, c, d⟩
theorem MCal.mono {P : Program} {w : World} {K : PySem.W.Frag} {mg : Str -> Option Value} {base : Heap} {j k : Nat} {C : Addr} {m : Str} {ps : List Str} {sp : Sp} (G : MCal P w K mg base j C m ps sp) (h : j ≤ k) : MCal P w K mg base k C m ps sp := by
 obtain ⟨f, fd, a, b, c⟩ := G.ex
 exact ⟨G.cl, f, fd, a.mono h, b, c⟩
theorem Mkr.mono {P : Program} {w : World} {K : PySem.W.Frag} {mg : Str -> Option Value} {base : Heap} {j k : Nat} {C : Addr} {x : Str} {ps : List Str} {sp : Sp} (G : Mkr P w K mg base j C x ps sp) (h : j ≤ k) : Mkr P w K mg base k C x ps sp := by
 obtain ⟨f, fd, a, b, c, d⟩ := G.ex
 exact ⟨f, fd, a.mono h, b, c, d⟩
theorem z2F {X : Cx} {x z : Str} {pos : Pos} (hg : Gl X x) (hm : ∃ t, X.mg x = some (.str z t)) (hd : (x == ("__debug__" : Str)) = false := by decide) : PE X (.Name x pos) (tC (.str z)) := by
 obtain ⟨t, e⟩ := hm
 exact y0H hg e ⟨t, rfl⟩ hd
section
variable {X : Cx}
theorem z51 {P : Program} {w : World} : ∀ {ns : List Int} {vs : List Value}, vs.length = ns.length -> (∀ (j : Nat) (v : Value), vs[j]? = some v -> ∃ k : Key, (ns.map Sum.inl)[j]? = some k /\ (z19 P w).is k v = true) -> IntsAre vs ns
 | [], [], _, _ => .nil
 | [], _ :: _, h, _ => by cases h
 | _ :: _, [], h, _ => by cases h
 | n :: ns, v :: vs, h, q => by
  obtain ⟨k, e, hk⟩ := q 0 v rfl
  cases e
  rcases z0Z (show z8e (Sum.inl n) v = true from hk) with ⟨i, t, e1, rfl⟩ | ⟨x, t, e1, _⟩
  ·cases e1
   exact .cons n t (z51 (Nat.succ.inj h) fun j u hu => q (j + 1) u hu)
  ·cases e1
theorem z7A {prog : Program} {w : World} {A : Around} {E : Value -> Shared -> Prop} {s : Shared} {R : List Value -> Shared -> Prop} {T : String} {r d : Addr} {n : Nat} {P : Nat -> Value -> Prop} {OK : Heap -> Prop} (K : PySem.W.KdlSrc prog w T r d n P OK) (hh : A.handled = none) (hok : OK s.heap) (hn : n ≤ sizeLine)
  (fin : ∀ (h' : Heap) (tk : Nat) (acc : Array Value), (∀ b o, s.heap.get? b = some o -> h'.get? b = some o) -> s.heap.objs.size < h'.objs.size -> ItemsOf P acc n -> R acc.toList { s with heap := h', toks := tk }) : wpAny (model prog w) A (collect (.ref r)) R E s := by
 have hlt := K.there _ hok
 unfold collect
 refine wpAny_bind (wpAny_runValue (codeAny_builtin entry_proto_collect' ?_))
 rw [Around.under_plainId PySem.F.plain_proto_collect _]
 refine (show wpAny _ A.in1 (newList [] >>= fun l => again (.builtin "list.__iadd__" ⟨[l, .ref r], []⟩)) _ _ s from wpAny_bind (wpAny_newObj_type (wpAny_pure ⟨plainId_quiet PySem.F.plain_list_iadd _, codeAny_builtin entry_list_iadd' ?_⟩)))
 rw [Around.under_plainId PySem.F.plain_list_iadd _]
 have g1 : (s.heap.push { cls := .type "list", data := .seq ([] : List Value).toArray }).get? s.heap.objs.size = some { cls := .type "list", data := .seq #[] } := Heap.get?_push_size _ rfl
 have ext := PySem.W.kdl_extend (A := A) (s := { s with heap := s.heap.push { cls := .type "list", data := .seq ([] : List Value).toArray } })
  (R := fun (q : Result) (s' : Shared) => ∃ (h' : Heap) (tk : Nat) (acc : Array Value) (c' : Nat), q = .ok (.ret (.ref s.heap.objs.size)) /\ s' = { s with heap := h', toks := tk } /\ (∀ b o, s.heap.get? b = some o -> h'.get? b = some o) /\
   h'.get? s.heap.objs.size = some { cls := .type "list", dict := none, data := .seq acc c', slots := #[] } /\ ItemsOf P acc n)
  K hh (K.keep _ _ hok fun b _ o e => Heap.get?_push_of_some _ e) s.heap.objs.size (Nat.ne_of_gt hlt.1) (Nat.ne_of_gt hlt.2) (.ref s.heap.objs.size) 0 g1
  (fun h' tk acc c' k hS' so => ⟨h', tk, acc, c', rfl, rfl, fun b o e => k b o (Nat.ne_of_lt (Heap.lt_size e)) (Heap.get?_push_of_some _ e), hS', so⟩) hn
 refine (show wpAny _ A.in1 (Builtin.List.listExtendWith (.ref s.heap.objs.size) (.ref r) (.ref s.heap.objs.size)) _ _ _ from wpAny_mono ext (fun f s' x => ?_) fun e s' x => ?_)
 ·cases f with
  | done f =>
   obtain ⟨h', tk, acc, c', e, rfl, k, hS', so⟩ := x
   cases e
   exact (show wpAny _ A (load s.heap.objs.size >>= _) _ _ _ from wpAny_bind (wpAny_load hS' (wpAny_pure (fin h' tk _ k (Heap.lt_size hS') so))))
  | again c1 =>
   refine ⟨x.1, codeAny_mono x.2 fun q s2 y => ?_⟩
   obtain ⟨h', tk, acc, c', rfl, rfl, k, hS', so⟩ := y
   exact (show wpAny _ A (load s.heap.objs.size >>= _) _ _ _ from wpAny_bind (wpAny_load hS' (wpAny_pure (fin h' tk _ k (Heap.lt_size hS') so))))
 ·obtain ⟨_, _, _, _, e', _⟩ := x
  cases e'
theorem z5g (hc : X.calm = true) : z33 X (.builtin "sorted") (fun xs H Q => ∃ (p : Addr) (kvs : List (Key × V)) (ns : List Int), xs = [.ref p] /\ H p = some (.dK kvs) /\ kvs.map (·.1) = ns.map Sum.inl /\ ns.length < 64 /\
  ∀ (l : Addr) (ms : List Int), H l = none -> ms.Perm ns -> ms.Pairwise (· ≤ ·) -> Q (.ref l) (upd H l (.lst (ms.map V.int)))) := by
 intro pins s σ H xs us Q I r h
 obtain ⟨p, kvs, ns, rfl, hp, hk, h64, q⟩ := h
 obtain ⟨u, rfl, rx⟩ := z5h r
 cases rx
 obtain ⟨_, lo, kv, rk, dd⟩ := y4n I.hok hp
 obtain ⟨ep, hat⟩ := dd.dictAt
 have lk : kv.length = ns.length := by
  have e1 := rk.length
  have e2 := congrArg List.length hk
  rw [List.length_map, List.length_map] at e2
  omega
 refine Calls.call_function_entry kind_sorted plain_sorted entry_sorted (args_sorted1 _) ?_
 unfold Builtin.«sorted»
 refine wpAny_bind (m := checkCount "sorted" 1 1 _) (wpAny_pure ?_)
 refine wpAny_bind (z7A (A := X.A.in1) (PySem.W.kdl_dict (knd := z19 X.prog X.w) (kvs := kv) (ep := ep) lo) (I.ok.hd hc) hat (by rw [sizeLine_eq]; omega) fun h' tk acc kp slt items => ?_)
 have hi : IntsAre acc.toList ns := z51 (P := X.prog) (w := X.w) (by rw [Array.length_toList, items.1, lk]) fun j v hv => by
  obtain ⟨k, x, e, ik⟩ := items.2 j v (by rw [<- Array.getElem?_toList]; exact hv)
  refine ⟨k, ?_, ik⟩
  rw [<- hk, rk.keys, List.getElem?_map, e]
  rfl
 have lv : acc.toList.length < 64 := by rw [IntsAre.length hi]; exact h64
 refine wpAny_bind (wpAny_newList ?_ (by rw [sizeLine_eq]; omega))
 have g1 : (h'.push (seqObj "list" acc.toList.toArray 0)).get? h'.objs.size = some (seqObj "list" acc.toList.toArray 0) := Heap.get?_push_size _ rfl
 refine wpAny_bind (wpAny_holding (wpAny_call_entry slot_list_sort ⟨_, g1, rfl⟩ entry_list_sort (list_sort_tree g1 hi lv fun out ns' a1 a2 a3 => ⟨_, rfl, ?_⟩) (args_list_sort _)))
 refine wpAny_pure ⟨_, rfl, ?_⟩
 obtain ⟨e, he⟩ := sortedHeap_at (out := out) g1
 have sle : s.heap.objs.size ≤ h'.objs.size := Nat.le_of_lt slt
 have old : ∀ b o, s.heap.get? b = some o -> (sortedHeap (h'.push (seqObj "list" acc.toList.toArray 0)) h'.objs.size acc.toList out).get? b = some o := fun b o e => by
  have hb := Heap.lt_size (kp b o e)
  rw [sortedHeap_old (Nat.ne_of_lt hb) (by rw [size_push']; exact Nat.lt_succ_of_lt hb)]
  exact Heap.get?_push_of_some _ (kp b o e)
 refine ⟨.ref h'.objs.size, _, I.laid (a := h'.objs.size) (o := .lst (ns'.map V.int)) (t' := tk) old sle (show z16 X.prog X.w _ _ _ (.lst (ns'.map V.int)) from ⟨?_, out.toList, e, z4p a1, ?_⟩), rfl, q _ ns' (I.hok.fresh sle) a2 a3⟩
 ·rw [List.length_map, a2.length_eq, sizeLine_eq]
  omega
 ·simpa using he
end
theorem z6f : typeLookup (.type "list") "keys" = pure none := am_miss_of_fast (by kernel_rfl)
theorem z5V : typeLookup (.type "tuple") "keys" = pure none := am_miss_of_fast (by kernel_rfl)
theorem z83 : typeLookup (.type "list") "__getattr__" = pure none := by rw [typeLookup_type, builtinLookup_eq_fast]; kernel_rfl
theorem z7r : typeLookup (.type "tuple") "__getattr__" = pure none := by rw [typeLookup_type, builtinLookup_eq_fast]; kernel_rfl
section
variable {prog : Program} {w : World} {A : Around} {E : Value -> Shared -> Prop} {s : Shared}
theorem z7u {a : Addr} {items : Array Value} {n : Nat} {sl : Array (Option Value)} {u : Tok} {R : Result -> Shared -> Prop} (hA : A.handled = none) (ho : s.heap.get? a = some ⟨.type "list", none, .seq items n, sl⟩) (h : ∀ h' tk e, Heap.NewAttrErr s.heap h' e (.ref a) "keys" -> R (.error (.ref e)) { s with heap := h', toks := tk }) :
  wpAny (model prog w) A.in1 (Builtin.«object.__getattribute__» ⟨[.ref a, .str "keys" u], []⟩) (fun fin s' => match fin with | .done f => R (.ok f) s' | .again c' => c'.quiet = true /\ codeAny (model prog w) A c' R s') (fun e s' => R (.error e) s') s := by
 obtain ⟨hp, g, d, tk, os⟩ := s
 have hT : (⟨hp, g, d, tk, os⟩ : Shared).TypeIs (.ref a) "list" := ⟨_, ho, rfl⟩
 have f1 := z6f
 unfold Builtin.«object.__getattribute__»
 repeat (any_goals (first | assumption | wp_step))
 exact wpAny_raiseAttrError hA h (attrMsg_fits (by decide +kernel) (by decide +kernel))
theorem z6X {a : Addr} {items : Array Value} {n : Nat} {sl : Array (Option Value)} {u : Tok} {R : Result -> Shared -> Prop} (hA : A.handled = none) (ho : s.heap.get? a = some ⟨.type "tuple", none, .seq items n, sl⟩) (h : ∀ h' tk e, Heap.NewAttrErr s.heap h' e (.ref a) "keys" -> R (.error (.ref e)) { s with heap := h', toks := tk }) :
  wpAny (model prog w) A.in1 (Builtin.«object.__getattribute__» ⟨[.ref a, .str "keys" u], []⟩) (fun fin s' => match fin with | .done f => R (.ok f) s' | .again c' => c'.quiet = true /\ codeAny (model prog w) A c' R s') (fun e s' => R (.error e) s') s := by
 obtain ⟨hp, g, d, tk, os⟩ := s
 have hT : (⟨hp, g, d, tk, os⟩ : Shared).TypeIs (.ref a) "tuple" := ⟨_, ho, rfl⟩
 have f1 := z5V
 unfold Builtin.«object.__getattribute__»
 repeat (any_goals (first | assumption | wp_step))
 exact wpAny_raiseAttrError hA h (attrMsg_fits (by decide +kernel) (by decide +kernel))
theorem z6c {a : Addr} {items : Array Value} {n : Nat} {sl : Array (Option Value)} {u : Tok} {R : Result -> Shared -> Prop} (hA : A.handled = none) (ho : s.heap.get? a = some ⟨.type "list", none, .seq items n, sl⟩) (h : ∀ h' tk e, Heap.NewAttrErr s.heap h' e (.ref a) "keys" -> R (.error (.ref e)) { s with heap := h', toks := tk }) :
  codeAny (model prog w) A (.call (.builtin "list.__getattribute__") ⟨[.ref a, .str "keys" u], []⟩) R s :=
 codeAny_call_builtin F.slot_list_getattribute.plain F.entry_list_ga (F.slot_list_getattribute.check _ _ _ _ _ _ _ _ (show s.TypeIs (.ref a) "list" from ⟨_, ho, rfl⟩) (F.args_list_getattribute_2 _ _) (z7u (R := R) hA ho h))
theorem z6d {a : Addr} {items : Array Value} {n : Nat} {sl : Array (Option Value)} {Q : Option Value -> Shared -> Prop} (hA : A.handled = none) (ho : s.heap.get? a = some ⟨.type "list", none, .seq items n, sl⟩) (h : ∀ h' tk, (∀ b o, s.heap.get? b = some o -> h'.get? b = some o) -> Q none { s with heap := h', toks := tk }) :
  wpAny (model prog w) A (getAttr? (.ref a) "keys") Q E s := by
 obtain ⟨hp, g, d, tk, os⟩ := s
 have hT : ∀ tk', (⟨hp, g, d, tk', os⟩ : Shared).TypeIs (.ref a) "list" := fun _ => ⟨_, ho, rfl⟩
 have f1 := sub_AttributeError
 have f3 := F.slot_list_getattribute.lookup
 have f4 := F.slot_list_getattribute.bind (.ref a)
 have f5 := z83
 unfold getAttr? getAttrBy? getAttrBy
 repeat (any_goals (first | assumption | exact hT _ | wp_step))
 refine z6c (s := ⟨hp, g, d, tk + 1, os⟩) hA ho fun h' tk' e hx => ?_
 obtain ⟨t', u', he⟩ := hx.there
 show wpAny _ _ (getattributeRaised _ _ _ _ _ _ _) _ _ _
 unfold getattributeRaised
 repeat (any_goals (first | assumption | wp_step))
 exact h _ _ hx.keeps
theorem z5Q {a : Addr} {items : Array Value} {n : Nat} {sl : Array (Option Value)} {u : Tok} {R : Result -> Shared -> Prop} (hA : A.handled = none) (ho : s.heap.get? a = some ⟨.type "tuple", none, .seq items n, sl⟩) (h : ∀ h' tk e, Heap.NewAttrErr s.heap h' e (.ref a) "keys" -> R (.error (.ref e)) { s with heap := h', toks := tk }) :
  codeAny (model prog w) A (.call (.builtin "tuple.__getattribute__") ⟨[.ref a, .str "keys" u], []⟩) R s :=
 codeAny_call_builtin F.slot_tuple_getattribute.plain F.entry_tuple_ga (F.slot_tuple_getattribute.check _ _ _ _ _ _ _ _ (show s.TypeIs (.ref a) "tuple" from ⟨_, ho, rfl⟩) (F.args_tuple_getattribute_2 _ _) (z6X (R := R) hA ho h))
theorem z5z {a : Addr} {items : Array Value} {n : Nat} {sl : Array (Option Value)} {Q : Option Value -> Shared -> Prop} (hA : A.handled = none) (ho : s.heap.get? a = some ⟨.type "tuple", none, .seq items n, sl⟩) (h : ∀ h' tk, (∀ b o, s.heap.get? b = some o -> h'.get? b = some o) -> Q none { s with heap := h', toks := tk }) :
  wpAny (model prog w) A (getAttr? (.ref a) "keys") Q E s := by
 obtain ⟨hp, g, d, tk, os⟩ := s
 have hT : ∀ tk', (⟨hp, g, d, tk', os⟩ : Shared).TypeIs (.ref a) "tuple" := fun _ => ⟨_, ho, rfl⟩
 have f1 := sub_AttributeError
 have f3 := F.slot_tuple_getattribute.lookup
 have f4 := F.slot_tuple_getattribute.bind (.ref a)
 have f5 := z7r
 unfold getAttr? getAttrBy? getAttrBy
 repeat (any_goals (first | assumption | exact hT _ | wp_step))
 refine z5Q (s := ⟨hp, g, d, tk + 1, os⟩) hA ho fun h' tk' e hx => ?_
 obtain ⟨t', u', he⟩ := hx.there
 show wpAny _ _ (getattributeRaised _ _ _ _ _ _ _) _ _ _
 unfold getattributeRaised
 repeat (any_goals (first | assumption | wp_step))
 exact h _ _ hx.keeps
end
theorem z3M : entryFor table "dict.update.loop" = some Builtin.«dict.update.loop» := entryFor_of_tree (by kernel_rfl)
theorem z1q : plainId "dict.update.loop" = true := by decide +kernel
section
variable {prog : Program} {w : World} {A : Around} {κ : Type} [DecidableEq κ] {kd : KeyKind prog w κ} {I : Addr} {fp wr : List Addr} {G : Array GenState -> Array GenState -> Prop} {n : Nat} {P : Nat -> Value -> Prop} {St : Nat -> Shared -> Prop}
def z7D (kd : KeyKind prog w κ) (h : Heap) (v : Value) (kv : κ × Value) (out : List Addr) : Prop := ∃ (a : Addr) (o : Obj) (T : String) (k : Value) (c : Nat), v = .ref a /\ h.get? a = some o /\ o.cls = .type T /\ (T = "list" \/ T = "tuple") /\ o.data = .seq #[k, kv.2] c /\ kd.is kv.1 k = true /\ a ∉ out
theorem z5q {R : Result -> Shared -> Prop} (W : WalksS prog w A.in1 I fp wr G n P St) {d : Addr} (out : d ∉ fp) {h0 : Heap} {vs : List (κ × Value)} (lk : vs.length = n)
  (vals : ∀ i v, P i v -> ∃ kv, vs[i]? = some kv /\ z7D kd h0 v kv (d :: wr)) (few : n ≤ 1000) :
  ∀ (todo i : Nat) (s : Shared), i + todo = n -> St i s -> s.heap.DictOf kd d (merged [] (vs.take i)) -> (∀ b o, b ∉ d :: wr -> h0.get? b = some o -> s.heap.get? b = some o) ->
   (∀ s', Moved (d :: wr) G s s' -> s'.heap.DictOf kd d (merged [] vs) -> R (.ok (.ret .none)) s') -> codeAny (model prog w) A (.builtin "dict.update.loop" ⟨[.ref d, .ref I, rawInt i, .none], []⟩) R s
 | 0, i, s, ei, st, sx, kp, fin => by
  have e : vs.take i = vs := List.take_of_length_le (by omega)
  rw [e] at sx
  have ei' : i = n := by omega
  subst ei'
  refine codeAny_builtin z3M ?_
  rw [Around.under_plainId z1q _]
  refine wpAny_bind (W.done s _ _ st fun s' mv => wpAny_bind (wpAny_pure (wpAny_pure (fin s' (mv.mono fun b hb => .tail _ hb) (sx.at fun o => mv.heap d o fun q => out (W.sub _ q))))))
 | todo + 1, i, s, ei, st, sx, kp, fin => by
  refine codeAny_builtin z3M ?_
  rw [Around.under_plainId z1q _]
  refine wpAny_bind (W.item i s _ _ (by omega) st fun v s1 hv st1 mv => ?_)
  obtain ⟨⟨key, y⟩, ek, a, o, T, k, c, rfl, ho, hc, hT, hd, ik, na⟩ := vals i v hv
  have sx1 := sx.at (h' := s1.heap) fun o => mv.heap d o fun q => out (W.sub _ q)
  have ho1 : s1.heap.get? a = some o := mv.heap a o (fun q => na (.tail _ q)) (kp a o na ho)
  have ty : s1.TypeIs (.ref a) T := ⟨o, ho1, hc⟩
  refine wpAny_bind (wpAny_holding (m := (Builtin.Dict.pairItems (.ref a)).tryCatch _ >>= _) (wpAny_bind (wpAny_tryCatch ?_)))
  unfold Builtin.Dict.pairItems
  refine wpAny_bind (wpAny_typeOf ty ?_)
  rw [if_pos (by rcases hT with rfl | rfl <;> decide)]
  refine wpAny_bind (wpAny_seqItems ho1 hd (wpAny_pure ?_))
  show wpAny _ _ (holding [k, y] (dictSet d k y)) _ _ _
  have lm := merged_length_le [] (vs.take i)
  rw [List.length_take, List.length_nil] at lm
  refine wpAny_holding (wpAny_dictSet_pairs (hsz := by rw [sizeLine_eq]; omega) ik sx1 fun h2 sx2 sb => ?_)
  rw [<- merged_take_succ [] vs i (key, y) ek] at sx2
  have far : ∀ b, b ≠ d -> h2.get? b = s1.heap.get? b := fun b hb => sb.2 b hb
  refine wpAny_pure ⟨plainId_quiet z1q _, z5q W out lk vals few todo (i + 1) _ (by omega) (W.frame _ s1 _ _ st1 (Nat.le_succ _) fun b hb o q => ?_) sx2 (fun b o nb q => ?_) fun s3 mv3 sx4 => ?_⟩
  ·rw [far b fun z => out (z ▸ hb)]; exact q
  ·rw [far b fun z => nb (z ▸ .head _)]
   exact mv.heap b o (fun q => nb (.tail _ q)) (kp b o nb q)
  ·refine fin s3 (.trans W.gtrans ((mv.mono fun b hb => .tail _ hb).then_heap (Nat.le_succ _) fun b o hb q => ?_) mv3) sx4
   rw [far b fun z => hb (z ▸ .head _)]; exact q
end
section
variable {prog : Program} {w : World} {A : Around} {E : Value -> Shared -> Prop} {s : Shared} {κ : Type} [DecidableEq κ] {kd : KeyKind prog w κ}
theorem y3m {T : String} {p : Addr} {its : Array Value} {c0 : Nat} {sl : Array (Option Value)} {vs : List (κ × Value)} {Q : Value -> Shared -> Prop} (hh : A.handled = none) (hp : s.heap.get? p = some ⟨.type T, none, .seq its c0, sl⟩) (hT : T = "list" \/ T = "tuple")
  (lk : vs.length = its.size) (vals : ∀ (i : Nat) v, its[i]? = some v -> ∃ kv, vs[i]? = some kv /\ z7D kd s.heap v kv []) (few : its.size ≤ 1000) (nd : (vs.map (·.1)).Nodup)
  (fin : ∀ (h' : Heap) (t : Nat), h'.DictOf kd s.heap.objs.size vs -> (∀ b u, s.heap.get? b = some u -> h'.get? b = some u) -> Q (.ref s.heap.objs.size) { s with heap := h', toks := t }) :
  wpAny (model prog w) A (call (.type "dict") [.ref p]) Q E s := by
 refine callType_codes (Q₁ := fun obj s₁ => obj = .ref s.heap.objs.size /\ s₁ = { s with heap := s.heap.push { cls := .type "dict", data := .dict #[] } }) PySem.F.kt_called_dict (PySem.F.kt_typeCall_dict_1 _) F.entry_dict_init (kt_code_dict_new _ ⟨rfl, rfl⟩) ?_
 rintro obj s₁ ⟨rfl, rfl⟩
 have hnew : (s.heap.push { cls := .type "dict", data := .dict #[] }).DictOf kd s.heap.objs.size [] := Heap.DictOf.new s.heap
 have hp1 : (s.heap.push { cls := .type "dict", data := .dict #[] }).get? p = some ⟨.type T, none, .seq its c0, sl⟩ := Heap.get?_push_of_some _ hp
 have hpl : p < s.heap.objs.size := Heap.lt_size hp
 refine ⟨hnew.typeIs, F.args_dict_init_2 _ _, ?_⟩
 unfold Builtin.«dict.__init__»
 refine wpAny_bind ?_
 unfold Builtin.Dict.selfAndRest
 refine wpAny_bind (wpAny_notOrdered_dict hnew.typeIs ?_)
 show wpAny _ _ (pure (s.heap.objs.size, [Value.ref p])) _ _ _
 refine wpAny_pure ?_
 show wpAny _ _ (Builtin.Dict.updateFrom "dict.__init__" s.heap.objs.size (.ref p) [] .none) _ _ _
 unfold Builtin.Dict.updateFrom
 refine wpAny_bind (wpAny_typeOf (T := T) ⟨_, hp1, rfl⟩ ?_)
 rw [if_pos (by rcases hT with rfl | rfl <;> decide)]
 have main : ∀ (h1 : Heap) (tk : Nat), (∀ b o, (s.heap.push { cls := .type "dict", data := .dict #[] }).get? b = some o -> h1.get? b = some o) ->
   wpAny (model prog w) A.in1.in1 (do
    rule (toString "dict.__init__" ++ toString ".from-pairs")
    return <- again (.builtin "dict.update.loop" ⟨[.ref s.heap.objs.size, <- pyIter (.ref p), rawInt 0, .none], []⟩))
    (fun fin s' => match fin with | .done f => wants (fun r s₂ => r = .none /\ Q (.ref s.heap.objs.size) s₂) E (.ok f) s' | .again c' => c'.quiet = true /\ codeAny (model prog w) A.in1 c' (wants (fun r s₂ => r = .none /\ Q (.ref s.heap.objs.size) s₂) E) s')
    (fun e s' => wants (fun r s₂ => r = .none /\ Q (.ref s.heap.objs.size) s₂) E (.error e) s') { s with heap := h1, toks := tk } := by
  intro h1 tk k1
  have hd1 := hnew.keep k1
  have dlt : s.heap.objs.size < h1.objs.size := by
   obtain ⟨_, _, _, e, _⟩ := hd1
   exact Heap.lt_size e
  have hp2 := k1 _ _ hp1
  have apart : p ≠ h1.objs.size := Nat.ne_of_lt (Heap.lt_size hp2)
  have out : s.heap.objs.size ∉ [h1.objs.size, p] := by rw [List.mem_cons, List.mem_singleton]; exact fun z => z.elim (Nat.ne_of_lt dlt) (Nat.ne_of_gt hpl)
  have hh2 : A.in1.in1.handled = none := by simp [hh]
  have nin : ∀ {b : Addr} {o : Obj}, s.heap.get? b = some o -> b ∉ [s.heap.objs.size, h1.objs.size] := fun e m => by
   have hb := Heap.lt_size e
   rcases List.mem_cons.mp m with z | z
   ·exact absurd hb (by rw [z]; exact Nat.lt_irrefl _)
   ·rw [List.mem_singleton] at z
    exact absurd (Nat.lt_trans hb dlt) (by rw [z]; exact Nat.lt_irrefl _)
  have vals' : ∀ (i : Nat) v, its[i]? = some v -> ∃ kv, vs[i]? = some kv /\ z7D kd s.heap v kv [s.heap.objs.size, h1.objs.size] := fun i v hv => by
   obtain ⟨kv, e, a, o, T, k, c, e1, e2, e3, e4, e5, e6, _⟩ := vals i v hv
   exact ⟨kv, e, a, o, T, k, c, e1, e2, e3, e4, e5, e6, nin e2⟩
  have ends : ∀ (x : Obj) (s' : Shared), Moved [s.heap.objs.size, h1.objs.size] (fun a b => b = a) { s with heap := h1.push x, toks := tk } s' -> s'.heap.DictOf kd s.heap.objs.size (merged [] vs) -> Q (.ref s.heap.objs.size) s' := fun x s' mv sx => by
   obtain ⟨h', g', d', t', o'⟩ := s'
   obtain rfl : g' = s.gens := mv.gens
   obtain rfl : d' = s.drawn := mv.drawn
   obtain rfl : o' = s.os := mv.os
   rw [merged_nil_of_nodup vs nd] at sx
   exact fin h' t' sx fun b u q => mv.heap b u (nin q) (Heap.get?_push_of_some _ (k1 _ _ (Heap.get?_push_of_some _ q)))
  refine wpAny_bind (wpAny_rule ?_)
  rcases hT with rfl | rfl
  ·have hl : h1.IsList p its := ⟨_, hp2, rfl, c0, rfl⟩
   refine wpAny_bind (wpAny_pyIter_list hl (wpAny_pure ⟨plainId_quiet z1q _, ?_⟩))
   exact z5q (kd := kd) ((Walks.list hh2 _ p apart its).toS) out (h0 := s.heap) lk vals' few its.size 0 _ (Nat.zero_add _) ⟨⟨_, Heap.get?_push_size _ rfl, rfl, rfl⟩, hl.push _⟩ (by rw [List.take_zero]; exact hd1.push _) (fun b o _ q => Heap.get?_push_of_some _ (k1 _ _ (Heap.get?_push_of_some _ q))) fun s' mv sx => ⟨rfl, ends _ s' mv sx⟩
  ·have hl : h1.IsTuple p its := ⟨_, hp2, rfl, c0, rfl⟩
   refine wpAny_bind (wpAny_pyIter_tuple hl (wpAny_pure ⟨plainId_quiet z1q _, ?_⟩))
   exact z5q (kd := kd) ((Walks.tuple hh2 _ p apart its).toS) out (h0 := s.heap) lk vals' few its.size 0 _ (Nat.zero_add _) ⟨⟨_, Heap.get?_push_size _ rfl, rfl, rfl⟩, hl.push _⟩ (by rw [List.take_zero]; exact hd1.push _) (fun b o _ q => Heap.get?_push_of_some _ (k1 _ _ (Heap.get?_push_of_some _ q))) fun s' mv sx => ⟨rfl, ends _ s' mv sx⟩
 have hh2 : A.in1.in1.handled = none := by simp [hh]
 rcases hT with rfl | rfl
 ·refine wpAny_bind (z6d hh2 hp1 fun h1 tk k1 => ?_)
  exact main h1 tk k1
 ·refine wpAny_bind (z5z hh2 hp1 fun h1 tk k1 => ?_)
  exact main h1 tk k1
end
section
variable {X : Cx}
def y3D (K : PySem.W.Frag) (H : Hp) (u : V) (kv : Key × V) : Prop := ∃ a, u = .ref a /\ (SqL K H a [kV kv.1, kv.2] \/ SqT K H a [kV kv.1, kv.2])
def SqP (K : PySem.W.Frag) (H : Hp) (p : Addr) (ys : List V) : Prop := SqL K H p ys \/ H p = some (.tup ys)
def y3o (K : PySem.W.Frag) : List V -> Hp -> VK -> Prop := fun xs H Q => ∃ p ys kvs, xs = [.ref p] /\ SqP K H p ys /\ Paired (y3D K H) ys kvs /\ ys.length ≤ 1000 /\ (kvs.map (·.1)).Nodup /\ ∀ l, H l = none -> Q (.ref l) (upd H l (.dK kvs))
theorem z6M {pins : List (Addr × Obj)} {σ : St} {H : Hp} {s : Shared} (I : Inv X pins σ H s) : ∀ {ys : List V} {kvs : List (Key × V)} {its : List Value}, Paired (y3D X.K H) ys kvs -> Vals ys its ->
  ∃ vs, KV kvs vs /\ vs.length = its.length /\ ∀ (i : Nat) v, its[i]? = some v -> ∃ kv, vs[i]? = some kv /\ z7D (z19 X.prog X.w) s.heap v kv []
 | _, _, _, .nil, .nil => ⟨[], .nil, rfl, fun i v h => by simp at h⟩
 | _ :: ys, kv :: kvs, _ :: its, .cons ⟨a, e, hq⟩ t, .cons r rr => by
  obtain ⟨vs, k1, l1, p1⟩ := z6M I t rr
  subst e
  cases r
  have go : ∀ (T : String) (o : Obj) (us : List Value) (c : Nat), s.heap.get? a = some o -> o.cls = .type T -> (T = "list" \/ T = "tuple") -> o.data = .seq us.toArray c -> Vals [kV kv.1, kv.2] us ->
    ∃ vs', KV (kv :: kvs) vs' /\ vs'.length = (Value.ref a :: its).length /\ ∀ (i : Nat) v, (Value.ref a :: its)[i]? = some v -> ∃ kv, vs'[i]? = some kv /\ z7D (z19 X.prog X.w) s.heap v kv [] := fun T o us c h1 h2 h3 h4 h5 => by
   obtain ⟨u1, u2, rfl, r1, r2⟩ := z9P h5
   refine ⟨(kv.1, u2) :: vs, .cons ⟨rfl, r2⟩ k1, by rw [List.length_cons, List.length_cons, l1], fun i v hv => ?_⟩
   cases i with
   | zero =>
    simp at hv
    subst hv
    exact ⟨_, rfl, a, o, T, u1, c, rfl, h1, h2, h3, by simpa using h4, y1c r1, by simp⟩
   | succ i => exact p1 i v (by simpa using hv)
  rcases hq with hq | hq
  ·obtain ⟨us, rv, pl, _⟩ := I.list hq
   obtain ⟨o, ho, hcl, n, hda⟩ := pl.isList
   exact go "list" o us n ho hcl (.inl rfl) hda rv
  ·obtain ⟨us, rv, pl, _⟩ := I.tuple hq
   obtain ⟨o, ho, hcl, n, hda⟩ := pl
   exact go "tuple" o us n ho hcl (.inr rfl) hda rv
theorem z7x {K : PySem.W.Frag} (hK : X.K = K) (hc : X.calm = true) : z33 X (.type "dict") (y3o K) := by
 subst hK
 intro pins s σ H xs us Q I r h
 obtain ⟨p, ys, kvs, rfl, hq, pr, hl, nd, q⟩ := h
 obtain ⟨u, rfl, rx⟩ := z5h r
 cases rx
 have go : ∀ (T : String) (its : List Value) (c0 : Nat) (sl : Array (Option Value)), s.heap.get? p = some ⟨.type T, none, .seq its.toArray c0, sl⟩ -> (T = "list" \/ T = "tuple") -> Vals ys its -> wpAny (model X.prog X.w) X.A (call (.type "dict") [.ref p]) (EP X pins σ Q) X.xe s :=
  fun T its c0 sl ho hT rv => by
   obtain ⟨vs, k1, l1, p1⟩ := z6M I pr rv
   have ln : ys.length = its.length := rv.length
   refine y3m (kd := z19 X.prog X.w) (vs := vs) (I.ok.hd hc) ho hT (by simpa using l1) (fun i v hv => p1 i v (by simpa using hv)) (by simp; omega) (by rw [<- k1.keys]; exact nd) fun h' t dd kp => ?_
   have big := I.big
   refine ⟨.ref s.heap.objs.size, _, I.laid (a := s.heap.objs.size) (o := .dK kvs) (h' := h') (t' := t) kp (Nat.le_refl _) (y2Q ?_ ?_ k1 dd), rfl, q _ (I.hok.fresh (Nat.le_refl _))⟩
   ·have := k1.length
    rw [sizeLine_eq]
    omega
   ·exact beq_false_of_ne (Nat.ne_of_gt big)
 rcases hq with hq | hq
 ·obtain ⟨its, rv, pl, _⟩ := I.list hq
  obtain ⟨o, n, ho, hcl, hdi, hda⟩ := pl
  obtain ⟨oc, od, oa, os⟩ := o
  simp only at hcl hdi hda
  subst hcl hdi hda
  exact go "list" its n os ho (.inl rfl) rv
 ·obtain ⟨_, its, rv, o, ho, hcl, ⟨n, hda⟩, hdi⟩ := (show z16 X.prog X.w H s.heap p (.tup ys) from I.hok p _ hq)
  obtain ⟨oc, od, oa, os⟩ := o
  simp only at hcl hdi hda
  subst hcl hdi hda
  exact go "tuple" its n os ho (.inr rfl) rv
end
def SqS (K : PySem.W.Frag) (t : Bool) (H : Hp) (a : Addr) (xs : List V) : Prop := if t then SqL K H a xs else SqT K H a xs
theorem SqS.of {K : PySem.W.Frag} {H : Hp} {a : Addr} {xs : List V} (h : SqL K H a xs \/ SqT K H a xs) : ∃ t, SqS K t H a xs := h.elim (fun q => ⟨true, q⟩) fun q => ⟨false, q⟩
theorem SqS.keep {K : PySem.W.Frag} {t : Bool} {H H' : Hp} {a : Addr} {xs : List V} (s : Same H H') (h : SqS K t H a xs) : SqS K t H' a xs := by
 cases t
 ·rcases (show SqT K H a xs from h) with (h | ⟨o, h⟩) | h
  ·exact .inl (.inl (s _ _ h))
  ·exact .inl (.inr ⟨o, s _ _ h⟩)
  ·exact .inr h
 ·exact s.seq (show SqL K H a xs from h)
def Its (K : PySem.W.Frag) (t : Bool) (a : Addr) : It := if t then Itl K a else Itt K a
section
variable {X : Cx} {tg : Expr}
def iSeq (K : PySem.W.Frag) (tl : TE) : TI := fun σ H R => tl σ H fun x H1 => ∃ a t, x = .ref a /\ (∃ xs, SqS K t H1 a xs) /\ R (Its K t a) H1
theorem z7R {l : Expr} {tl : TE} (hl : PE X l tl) : PI X tg l (iSeq X.K tl) := by
 intro pins s σ H R I h
 refine thn (hl pins s σ H _ I h) fun v s1 ⟨x, H1, I1, r1, q1⟩ => ?_
 obtain ⟨a, t, e, ⟨xs, hq⟩, q⟩ := q1
 subst e
 cases r1
 cases t
 ·obtain ⟨its, rv, p, hz⟩ := I1.tuple hq
  refine wpAny_pyIter_tuple (show s1.heap.IsTuple a its.toArray from p) ?_
  refine ⟨s1.heap.objs.size, [s1.heap.objs.size], _, _, H1, rfl, I1.kept (t' := s1.toks) fun b o e => Heap.get?_push_of_some _ e, z6D a _, ⟨_, Heap.get?_push_size _ rfl, rfl, rfl⟩, fun b hb => ?_, q⟩
  have e : b = s1.heap.objs.size := by simpa using hb
  subst e
  exact I1.fpOk (Nat.le_refl _) (I1.hok.fresh (Nat.le_refl _))
 ·obtain ⟨its, rv, p, hz⟩ := I1.list hq
  refine wpAny_pyIter_list p.isList ?_
  refine ⟨s1.heap.objs.size, [s1.heap.objs.size], _, _, H1, rfl, I1.kept (t' := s1.toks) fun b o e => Heap.get?_push_of_some _ e, z7Q a _, ⟨_, Heap.get?_push_size _ rfl, rfl, rfl⟩, fun b hb => ?_, q⟩
  have e : b = s1.heap.objs.size := by simpa using hb
  subst e
  exact I1.fpOk (Nat.le_refl _) (I1.hok.fresh (Nat.le_refl _))
end
theorem z7l {K : PySem.W.Frag} {t : Bool} {a : Addr} {xs : List V} {g : TG} {tc : TT} {te : TE} {σ0 : St} {H1 : Hp} {F : List V -> Hp -> Prop} (Pv : Nat -> List V -> Hp -> Prop) (h0 : Pv 0 [] H1)
  (hl : ∀ i ys H, i ≤ xs.length -> Pv i ys H -> SqS K t H a xs /\ ys.length < sizeLine)
  (hs : ∀ i x ys H, xs[i]? = some x -> Pv i ys H -> z1H g tc te σ0 x H ys (Pv (i + 1))) (hd : ∀ ys H, Pv xs.length ys H -> F ys H) : z9Q (Its K t a) g tc te σ0 H1 F := by
 cases t
 ·exact z71 Pv h0 hl hs hd
 ·exact z2j Pv h0 hl hs hd
theorem y16 {K : PySem.W.Frag} {t : Bool} {a : Addr} {xs : List V} {g : TG} {tb : TS} {D : Ends} {σ : St} {H : Hp} (Pv : Nat -> St -> Hp -> Prop) (h0 : Pv 0 σ H) (hl : ∀ i σ H, i ≤ xs.length -> Pv i σ H -> SqS K t H a xs)
  (hs : ∀ i x σ H, xs[i]? = some x -> Pv i σ H -> g x σ H fun σ2 H2 => tb { D with nx := Pv (i + 1), ct := Pv (i + 1), bk := D.nx } σ2 H2) (hd : ∀ σ H, Pv xs.length σ H -> D.nx σ H) :
  ∃ W : Nat -> Nat -> St -> Hp -> Prop, (∃ m, W 0 m σ H) /\ ∀ i m σ H, W i m σ H ->
   ((Its K t a).stop i H /\ D.nx σ H) \/ ((Its K t a).go i H /\ ∃ N : St -> Hp -> Prop, (∀ σ' H', N σ' H' -> ∃ m', m' < m /\ W (i + 1) m' σ' H') /\ ∀ x H', (Its K t a).yld i H x H' -> g x σ H' fun σ2 H2 => tb { D with nx := N, ct := N, bk := D.nx } σ2 H2) := by
 cases t
 ·exact y3O Pv h0 hl hs hd
 ·exact z3C Pv h0 hl hs hd
section
variable {prog : Program} {w : World} {A : Around} {E : Value -> Shared -> Prop}
theorem z7I {it t : Addr} {items : Array Value} (hne : t ≠ it) : ∀ (n i : Nat) (s : Shared) (Q : List Value -> Shared -> Prop), s.heap.IsListIter it t i -> s.heap.IsList t items -> i + n ≤ items.size ->
  (∀ h', h'.IsListIter it t (i + n) -> Heap.SameBut it s.heap h' -> Q ((items.toList.drop i).take n) { s with heap := h' }) -> wpAny (model prog w) A (draw (.ref it) n) Q E s
 | 0, i, s, Q, hit, _, _, hQ => by
  show wpAny _ _ (pure []) Q E s
  exact wpAny_pure (by simpa using hQ s.heap hit (Heap.SameBut.refl ..))
 | n + 1, i, s, Q, hit, ht, hle, hQ => by
  have hlt : i < items.size := by omega
  show wpAny _ _ (pyNext (.ref it) >>= _) Q E s
  refine wpAny_bind (wpAny_pyNext_list_item hit ht (x := items[i]) (by simp [hlt]) fun h₁ hit₁ hs₁ => ?_)
  refine wpAny_bind (wpAny_holding (z7I hne n (i + 1) _ _ hit₁ (ht.at fun o e => (hs₁.2 t hne).trans e) (by omega) fun h₂ hit₂ hs₂ => wpAny_pure ?_))
  have hd : items.toList.drop i = items[i] :: items.toList.drop (i + 1) := by simp [List.drop_eq_getElem_cons, hlt]
  have := hQ h₂ (by rw [show i + (n + 1) = i + 1 + n by omega]; exact hit₂) (hs₁.trans hs₂)
  rw [hd, List.take_succ_cons] at this
  exact this
theorem z8r {s : Shared} {t : Addr} {items : Array Value} {Q : List Value -> Shared -> Prop} (hh : A.handled = none) (ht : s.heap.IsList t items)
  (hQ : ∀ h', Heap.ExtBut s.heap.objs.size s.heap h' -> Q items.toList { s with heap := h' }) : wpAny (model prog w) A (unpackItems (.ref t) items.size none) Q E s := by
 have hlt : t ≠ s.heap.objs.size := by obtain ⟨o, ho, _⟩ := ht; exact Nat.ne_of_lt (Heap.lt_size ho)
 unfold unpackItems
 refine wpAny_bind ?_
 unfold notIterableAtAll
 refine wpAny_bind (wpAny_specialOf ht.typeIs PySem.F.slot_list_iter.lookup ?_)
 refine wpAny_pure ?_
 simp only [Bool.false_eq_true, if_false]
 refine wpAny_bind (wpAny_holding (wpAny_pyIter_list ht ?_))
 refine wpAny_bind (wpAny_holding (z7I hlt items.size 0 _ _ ⟨_, Heap.get?_push_size _ rfl, rfl, rfl⟩ (ht.push _) (by omega) fun h₁ hit₁ hs₁ => ?_))
 have hall : List.take items.size (List.drop 0 items.toList) = items.toList := by
  rw [List.drop_zero]; exact List.take_of_length_le (by simp)
 rw [hall]
 rw [if_neg (by simp)]
 have ht₁ : h₁.IsList t items := (ht.push _).at fun o e => (hs₁.2 t hlt).trans e
 refine wpAny_bind (wpAny_holding (wpAny_pyNext_list_end hh hit₁ ht₁ (by simp) fun h₂ he₂ => ?_))
 simp only [Option.isSome_none, Bool.false_eq_true, if_false]
 exact wpAny_pure (hQ h₂ fun b o hb e => he₂ b o hb (hs₁.extBut b o hb (Heap.get?_push_of_some _ e)))
theorem z4C {s : Shared} {env : Env} {elts : List Expr} {x1} {pos : Pos} {t : Addr} {items : Array Value} {Q : Unit -> Shared -> Prop} (hh : A.handled = none) (ht : s.heap.IsList t items)
  (hn : (assignEach elts env).length = items.size) (hstar : (assignEach elts env).findIdx? (·.1) = none)
  (h : ∀ h', Heap.ExtBut s.heap.objs.size s.heap h' -> wpAny (model prog w) A (assignInOrder ((assignEach elts env).map (·.2)) items.toList) Q E { s with heap := h' }) :
  wpAny (model prog w) A (assign (.Tuple elts x1 pos) env (.ref t)) Q E s := by
 rw [assign_Tuple]
 refine wpAny_bind (wpAny_standAt ?_)
 unfold unpack
 rw [hn, hstar]
 exact wpAny_bind (wpAny_holding (z8r hh ht h))
end
def gSeq (K : PySem.W.Frag) (n : Nat) (t : TGs) : TG := fun v σ H Q => ∃ a xs, v = .ref a /\ (SqL K H a xs \/ SqT K H a xs) /\ xs.length = n /\ t xs σ H Q
theorem z7n {X : Cx} {K : PySem.W.Frag} {es : List Expr} {k : Nat} {t : TGs} {n : Nat} {pos : Pos} (hK : X.K = K) (hc : X.calm = true) (h : PGs X es t)
  (hn : (assignEach es X.env).length = n := by rfl) (hst : (assignEach es X.env).findIdx? (·.1) = none := by rfl) : PG X (.Tuple es k pos) (gSeq K n t) := by
 subst hK
 intro pins s σ H v u Q I r hw
 obtain ⟨a, xs, e1, hq, hl, hw⟩ := hw
 subst e1
 cases r
 rcases hq with hq | hq
 ·obtain ⟨its, rv, ht, hz⟩ := I.list hq
  refine z4C (I.ok.hd hc) ht.isList (by simp [hn, <- hl, rv.length]) hst fun h' hx => ?_
  have I1 : Inv X pins σ H { s with heap := h' } := I.kept (t' := s.toks) fun b o e => hx b o (Nat.ne_of_lt (Heap.lt_size e)) e
  exact h pins _ σ H xs _ Q I1 (by simpa using rv) hw
 ·obtain ⟨its, rv, ht, hz⟩ := I.tuple hq
  refine assign_Tuple_tuple (I.ok.hd hc) ht (by simp [hn, <- hl, rv.length]) hst fun h' hx => ?_
  have I1 : Inv X pins σ H { s with heap := h' } := I.kept (t' := s.toks) fun b o e => hx b o (Nat.ne_of_lt (Heap.lt_size e)) e
  exact h pins _ σ H xs _ Q I1 (by simpa using rv) hw
theorem z9t {K : PySem.W.Frag} {n : Nat} {t : TGs} (a : z6x t) : z89 (gSeq K n t) := fun v σ H Q Q' f q => by
 obtain ⟨p, xs, e, h1, h2, q⟩ := q
 exact ⟨p, xs, e, h1, h2, a _ _ _ _ _ f q⟩
theorem y1l {K : PySem.W.Frag} {n k : Nat} {t : TGs} (a : y0u n t) : OwnG n (gSeq K k t) := fun v σ H Q q => by
 obtain ⟨p, xs, e, h1, h2, q⟩ := q
 exact ⟨p, xs, e, h1, h2, a _ _ _ _ q⟩
section
variable {X : Cx}
end
structure FunD (K : PySem.W.Frag) (x qual : Str) (st : Stmt) (f : Addr) (fd : FuncData) (T : Addr) (items : Array Value) : Prop where
 ex : ∃ (oc : Value) (od : Option Addr) (kV doc pm : Value) (an : Option Addr) (cdv ct : Value) (osl : Array (Option Value)),
  fd = PySem.W.fnOf x qual (z1f st) (z18 st) (z09 st) (.ref T) kV doc pm an cdv ct /\ K.lookup f = some ⟨oc, od, .func fd, osl⟩ /\ PySem.W.codeIn K cdv qual = true
 kp : PySem.W.keepIn K (.ref f) = true
 dt : ∃ (o : Obj) (n : Nat), K.lookup T = some o /\ o.data = .seq items n
section
variable {P : Program} {w : World} {K : PySem.W.Frag} {mg : Str -> Option Value} {base : Heap}
theorem FunD.ok {x qual : Str} {st : Stmt} {f T : Addr} {items : Array Value} {fd : FuncData} {N ps : List Str} {k : Nat} {sp : Sp} (F : FunD K x qual st f fd T items) (S : FnScope N ps (z09 st)) (len : ∀ vs H Q E, sp vs H Q E -> vs.length = ps.length)
  (hbody : ∀ (cdv : Value) (A : Around) (outer : List Env) (s : Shared) (H : Hp) (vs : List V) (Q : VK) (E : XK), Room k (A.deeper (envOfC qual (z09 st) s.heap.objs.size f cdv)) -> sp vs H Q E ->
   ∃ t, PSs (cxOf CX0 P w K mg base N qual (z09 st) f cdv A outer s H E).nox (z18 st) t /\ t { nx := fun _ H' => Q .non H', rt := Q } (z4l N vs) H) : FnOk P w K mg base CX0 (k + 1) f fd ps sp := by
 obtain ⟨oc, od, kV, doc, pm, an, cdv, ct, osl, rfl, lk, hcd⟩ := F.ex
 refine y3x lk hcd S len fun A outer s H vs Q E hr hsp => ?_
 obtain ⟨t, h, q⟩ := hbody cdv A outer s H vs Q E hr hsp
 exact ⟨t, h.nox, q⟩
theorem FunD.binds {x qual : Str} {st : Stmt} {f T : Addr} {items : Array Value} {fd : FuncData} {ps : List Str} {ds : List Value} (F : FunD K x qual st f fd T items)
  (h : ∀ (kV doc pm : Value) (an : Option Addr) (cdv ct : Value) (us : List Value), us.length + ds.length = ps.length -> ∃ k, bindArgs (PySem.W.fnOf x qual (z1f st) (z18 st) (z09 st) (.ref T) kV doc pm an cdv ct) ⟨us, []⟩ = seqItems? (.ref T) >>= k /\ k (some items) = pure (ps.zip (us ++ ds))) : z1c K fd ps ds := by
 obtain ⟨oc, od, kV, doc, pm, an, cdv, ct, osl, rfl, lk, hcd⟩ := F.ex
 obtain ⟨o, n, lt, hs⟩ := F.dt
 intro s us KX hl
 rw [List.length_append] at hl
 obtain ⟨k, h1, h2⟩ := h kV doc pm an cdv ct us hl
 exact .of_defaults rfl (KX _ _ lt) hs h1 h2
theorem y3H {x qual : Str} {st : Stmt} {f T : Addr} {oc oct : Value} {od odt an : Option Addr} {osl oslt : Array (Option Value)} {items : Array Value} {n : Nat} {kV doc pm cdv ct : Value} (l : K.lookup f = some ⟨oc, od, .func (PySem.W.fnOf x qual (z1f st) (z18 st) (z09 st) (.ref T) kV doc pm an cdv ct), osl⟩)
  (lt : K.lookup T = some ⟨oct, odt, .seq items n, oslt⟩) (c : PySem.W.codeIn K cdv qual = true) (k : PySem.W.keepIn K (.ref f) = true) : FunD K x qual st f (PySem.W.fnOf x qual (z1f st) (z18 st) (z09 st) (.ref T) kV doc pm an cdv ct) T items := ⟨⟨oc, od, kV, doc, pm, an, cdv, ct, osl, rfl, l, c⟩, k, _, n, lt, rfl⟩
end
structure MCalD (P : Program) (w : World) (K : PySem.W.Frag) (mg : Str -> Option Value) (base : Heap) (k : Nat) (C : Addr) (m : Str) (ps : List Str) (sp : Sp) (dvs : List V) : Prop where
 cl : Cls K C
 ex : ∃ (f : Addr) (fd : FuncData) (ds : List Value), FnOk P w K mg base CX0 k f fd ps sp /\ z1c K fd ps ds /\ Vals dvs ds /\ Meth K C m f
theorem MCalD.mk' {P : Program} {w : World} {K : PySem.W.Frag} {mg : Str -> Option Value} {base : Heap} {k : Nat} {C : Addr} {m : Str} {ps : List Str} {sp : Sp} {dvs : List V} {ds : List Value} {f : Addr} {fd : FuncData} (v : Vals dvs ds) (c : Cls K C) (a : FnOk P w K mg base CX0 k f fd ps sp) (b : z1c K fd ps ds) (d : Meth K C m f) :
  MCalD P w K mg base k C m ps sp dvs := ⟨c, f, fd, ds, a, b, v, d⟩
theorem MCalD.mono {P : Program} {w : World} {K : PySem.W.Frag} {mg : Str -> Option Value} {base : Heap} {j k : Nat} {C : Addr} {m : Str} {ps : List Str} {sp : Sp} {dvs : List V} (G : MCalD P w K mg base j C m ps sp dvs) (h : j ≤ k) : MCalD P w K mg base k C m ps sp dvs := by
 obtain ⟨f, fd, ds, a, b, v, c⟩ := G.ex
 exact ⟨G.cl, f, fd, ds, a.mono h, b, v, c⟩
theorem y2o {X : Cx} {k : Nat} {C : Addr} {m : Str} {ps : List Str} {sp : Sp} {dvs : List V} {o e : Expr} {es : List Expr} {ta : TE} {t : TA} {pos apos : Pos} {pl : Sem Bool} (G : MCalD X.prog X.w X.K X.mg X.base k C m ps sp dvs) (hr : Room k X.A) (he : PE X o ta) (ha : PA X (e :: es) t)
  (hst : starEach (e :: es) X.env = (false, eval e X.env) :: starEach es X.env := by rfl) (hpl : (backTo pos (starEach es X.env)).any (·.1) = false := by rfl)
  (ht : eval (.Call (.Attribute o m apos) (e :: es) [] pos) X.env = (do
   let ov <- eval o X.env
   standAt apos.atName
   let (f, first) <- holding [ov] (getMethod ov m pl)
   callWith pos f first (backTo pos (starEach (e :: es) X.env)) (backToKw pos (keywordEach [] X.env))) := by rfl) :
  PE X (.Call (.Attribute o m apos) (e :: es) [] pos) (y0B C m sp dvs E0 ta t) := by
 obtain ⟨f, fd, ds, a, b, v, d⟩ := G.ex
 exact y04 he G.cl d a hr b v y1t ha hst hpl ht
end L2
namespace HT
open PySem PySem.Spec PyProof.Rows L2
section
variable {prog : Program} {w : World} {A : Around} {E : Value -> Shared -> Prop} {s : Shared}
theorem z4K {t sl : Addr} {items : Array Value} {vl vu : Value} {lo hi : Option Int} {Q : Value -> Shared -> Prop} (ht : IsTup s.heap t items) (hs : s.heap.IsSliceOf sl vl vu .none) (pl : IsPart vl lo) (pu : IsPart vu hi)
  (hw : sIx items.size 0 lo = 0 /\ sIx items.size items.size hi = items.size) (h : Q (.ref t) s) : wpAny (model prog w) A (getItem (.ref t) (.ref sl)) Q E s := by
 obtain ⟨os, hos, hcs, hds⟩ := id hs
 have hTs : s.TypeIs (.ref sl) "slice" := ⟨os, hos, hcs⟩
 unfold getItem
 try with_reducible refine wpAny_holding ?_
 first | refine wpAny_bind (wpAny_pure ?_) | skip
 refine wpAny_bind (wpAny_sequenceKey ht.typeIs (by decide) ?_)
 refine wpAny_bind (wpAny_callSpecial?_slot (name := Str.ofString "__getitem__") ht.typeIs PyProof.Rows.slot_tuple_getitem
  (wpAny_call_entry PyProof.Rows.slot_tuple_getitem ht.typeIs entry_tuple_getitem ?_ (args_tuple_getitem _ _)))
 show wpAny _ _ (Builtin.Tuple.tupleItemsOf (.ref t) >>= _) _ _ s
 refine wpAny_bind (tupleItemsOf_ ht ?_)
 refine wpAny_bind (wpAny_typeOf hTs ?_)
 rw [if_pos (by decide)]
 refine wpAny_bind (z39 hs pl pu ?_)
 have hyes : (((sIx items.size 0 lo : Nat) : Int) == 0 && (1 : Int) == 1 && (sIx items.size items.size hi - sIx items.size 0 lo) == items.size) = true := by
  rw [hw.1, hw.2]
  simp
 show wpAny _ _ (if (((sIx items.size 0 lo : Nat) : Int) == 0 && (1 : Int) == 1 && (sIx items.size items.size hi - sIx items.size 0 lo) == items.size) = true then _ else _) _ _ s
 rw [if_pos hyes]
 refine wpAny_bind (m := Builtin.Tuple.tupleIsExact _) (wpAny_bind (wpAny_typeOf ht.typeIs (wpAny_pure ?_)))
 rw [if_pos (by decide)]
 refine wpAny_bind (wpAny_rule ?_)
 exact wpAny_pure ⟨_, rfl, wpAny_pure h⟩
end
end HT
namespace L2
open PySem PySem.Spec PyProof.Rows
def z2H : List V -> List V -> Bool
 | [], [] => true
 | x :: xs, y :: ys => eqV x y && z2H xs ys
 | _, _ => false
theorem z9q : ∀ xs ys : List V, ((List.range (min xs.length ys.length)).all (fun j => eqV (xs.getD j .non) (ys.getD j .non)) && xs.length == ys.length) = z2H xs ys
 | [], [] => rfl
 | [], _ :: _ => rfl
 | _ :: _, [] => rfl
 | x :: xs, y :: ys => by
  have ih := z9q xs ys
  unfold z2H
  rw [<- ih, List.length_cons, List.length_cons, Nat.succ_min_succ, List.range_succ_eq_map, List.all_cons, List.all_map, Bool.and_assoc]
  congr 1
  congr 1
  rw [Bool.eq_iff_iff]
  simp
theorem z7p : ∀ {x : V}, z1j x = true -> eqV x x = true := fun {x} h => by
 cases x with
 | non => rfl
 | bl b => exact beq_self_eq_true b
 | int i => exact beq_self_eq_true i
 | str z => exact beq_self_eq_true z
 | _ => exact absurd (show false = true from h) Bool.false_ne_true
theorem z6H : ∀ {xs : List V}, xs.all z1j = true -> z2H xs xs = true
 | [], _ => rfl
 | x :: xs, h => by
  rw [List.all_cons, Bool.and_eq_true] at h
  unfold z2H
  rw [z7p h.1, z6H h.2]
  rfl
theorem z7t : ∀ {xs : List V} {us : List Value}, Vals xs us -> xs.all z1j = true -> ∀ (j : Nat) (h : j < us.length), RelV (xs.getD j .non) us[j] /\ z1j (xs.getD j .non) = true
 | _, _, .nil, _, j, h => absurd h (Nat.not_lt_zero _)
 | x :: xs, u :: us, .cons r t, f, 0, h => by
  rw [List.all_cons, Bool.and_eq_true] at f
  exact ⟨r, f.1⟩
 | x :: xs, u :: us, .cons r t, f, j + 1, h => by
  rw [List.all_cons, Bool.and_eq_true] at f
  exact z7t t f.2 j (Nat.lt_of_succ_lt_succ h)
def eqI : List Value -> List V -> Bool
 | [], [] => true
 | u :: us, x :: xs => eqU x u && eqI us xs
 | _, _ => false
theorem y13 : ∀ {ys : List V} {us : List Value} (xs : List V), Vals ys us -> ys.all z1j = true -> eqI us xs = z2H ys xs
 | _, _, [], .nil, _ => rfl
 | _, _, _ :: _, .nil, _ => rfl
 | y :: ys, u :: us, [], .cons r t, f => rfl
 | y :: ys, u :: us, x :: xs, .cons r t, f => by
  rw [List.all_cons, Bool.and_eq_true] at f
  unfold eqI z2H
  rw [z7E r f.1, y13 xs t f.2]
section
variable {X : Cx}
theorem y08 {A : Around} {s : Shared} {a b : Addr} {its its2 : List Value} {xs ys : List V} (pl : s.heap.IsTuple a its.toArray) (pl2 : s.heap.IsTuple b its2.toArray) (r : Vals xs its) (r2 : Vals ys its2) (f : xs.all z1j = true) (f2 : ys.all z1j = true) (hu : A.units < cLine) :
  SeqAt.RcAt A s (.ref a) (.ref b) (z2H xs ys) := by
 have h := SeqAt.RcAt.tuples (e := fun j => eqV (xs.getD j .non) (ys.getD j .non)) pl pl2 hu fun j h1 h2 => by
  rw [List.size_toArray] at h1 h2
  obtain ⟨q1, q2⟩ := z7t r f j h1
  obtain ⟨q3, q4⟩ := z7t r2 f2 j h2
  exact y2Z q1 q3 q2 q4
 rw [List.size_toArray, List.size_toArray, <- r.length, <- r2.length, z9q] at h
 exact h
def rEqT (K : PySem.W.Frag) : R2 := fun x y H Q => ∃ a b xs ys, x = .ref a /\ y = .ref b /\ SqT K H a xs /\ SqT K H b ys /\ xs.all z1j = true /\ ys.all z1j = true /\ Q (.bl (z2H xs ys)) H
theorem y4z (hu : X.A.units < cLine) : OpR X (compareOp .Eq) (rEqT X.K) := by
 intro pins s σ H x y v u Q I rx ry h
 obtain ⟨a, b, xs, ys, rfl, rfl, ha, hb, f1, f2, q⟩ := h
 cases rx
 cases ry
 obtain ⟨its, r, pl, hz⟩ := I.tuple ha
 obtain ⟨its2, r2, pl2, hz2⟩ := I.tuple hb
 exact y08 pl pl2 r r2 f1 f2 hu X.prog X.w X.xe _ ⟨.bl _, H, I, rfl, q⟩
def z2S (s : Shared) (xs : List V) : Value -> Bool
 | .ref b => match s.heap.get? b with
  | some o => match o.data with
   | .seq its _ => eqI its.toList xs
   | _ => false
  | none => false
 | _ => false
def y3q (K : PySem.W.Frag) : R2 := fun x y H Q => ∃ a p xs us yss, x = .ref a /\ y = .ref p /\ SqT K H a xs /\ xs.all z1j = true /\ SqL K H p us /\ Paired (fun u ys => ∃ b, u = .ref b /\ SqT K H b ys /\ ys.all z1j = true) us yss /\ Q (.bl (!yss.any fun ys => z2H ys xs)) H
theorem z5s (hu : X.A.units + 1 < cLine) : OpR X (compareOp .NotIn) (y3q X.K) := by
 intro pins s σ H x y v u Q I rx ry h
 obtain ⟨a, p, xs, us, yss, rfl, rfl, ha, f1, hp, pr, q⟩ := h
 cases rx
 cases ry
 obtain ⟨its, r, pl, hz⟩ := I.tuple ha
 obtain ⟨its2, r2, pl2, hz2⟩ := I.list hp
 have item : ∀ (b : Addr) (ys : List V), SqT X.K H b ys -> ys.all z1j = true -> z2S s xs (.ref b) = z2H ys xs /\ SeqAt.EqAt X.A.in1 s (.ref b) (.ref a) (z2H ys xs) := fun b ys hb fb => by
  obtain ⟨its3, r3, pl3, hz3⟩ := I.tuple hb
  have e1 : z2S s xs (.ref b) = z2H ys xs := by
   obtain ⟨o, ho, hc, n, hd⟩ := pl3
   unfold z2S
   simp only [ho, hd]
   exact y13 xs r3 fb
  refine ⟨e1, ?_⟩
  by_cases hne : b = a
  ·subst hne
   have e2 : z2H ys xs = true := by
    rw [<- e1]
    obtain ⟨o, ho, hc, n, hd⟩ := pl
    unfold z2S
    simp only [ho, hd]
    rw [y13 xs r f1]
    exact z6H f1
   rw [e2]
   exact SeqAt.EqAt.same _
  ·exact SeqAt.EqAt.of_refs hne (y08 pl3 pl r3 r fb f1 hu)
 have all : ∀ {us : List V} {yss : List (List V)} {vs : List Value}, Paired (fun u ys => ∃ b, u = .ref b /\ SqT X.K H b ys /\ ys.all z1j = true) us yss -> Vals us vs -> vs.any (z2S s xs) = yss.any (fun ys => z2H ys xs) /\ ∀ v ∈ vs, SeqAt.EqAt X.A.in1 s v (.ref a) (z2S s xs v) := by
  intro us yss vs pr
  induction pr generalizing vs with
  | nil =>
   intro r
   cases r
   exact ⟨rfl, fun v hv => (nomatch hv)⟩
  | cons h t ih =>
   intro r
   cases r with
   | cons r1 rt =>
    obtain ⟨b, rfl, hb, fb⟩ := h
    cases r1
    obtain ⟨i1, i2⟩ := ih rt
    obtain ⟨j1, j2⟩ := item b _ hb fb
    refine ⟨by rw [List.any_cons, List.any_cons, i1, j1], fun v hv => ?_⟩
    rcases List.mem_cons.mp hv with rfl | hv
    ·rw [j1]; exact j2
    ·exact i2 v hv
 obtain ⟨a1, a2⟩ := all pr r2
 refine SeqAt.notIn_listAt (z2S s xs) pl2.isList (fun w hw => a2 w (by simpa using hw)) ⟨.bl _, H, I, rfl, ?_⟩
 rw [show its2.toArray.any (z2S s xs) = its2.any (z2S s xs) by simp, a1]
 exact q
end
def rSlA (K : PySem.W.Frag) : V -> Option Int -> Option Int -> Hp -> VK -> Prop := fun x lo hi H Q => ∃ a xs, x = .ref a /\ SqT K H a xs /\ ((HT.sIx xs.length 0 lo = 0 /\ HT.sIx xs.length xs.length hi = xs.length) -> Q (.ref a) H) /\
 (¬ (HT.sIx xs.length 0 lo = 0 /\ HT.sIx xs.length xs.length hi = xs.length) -> ∀ p, H p = none -> Q (.ref p) (upd H p (.tup (cutV xs lo hi))))
theorem y38 {X : Cx} : SlR X (rSlA X.K) := by
 intro pins s σ H x v vl vu lo hi sl Q I rx hs pl pu h
 obtain ⟨a, xs, rfl, hx, q1, q2⟩ := h
 by_cases hw : HT.sIx xs.length 0 lo = 0 /\ HT.sIx xs.length xs.length hi = xs.length
 ·cases rx
  obtain ⟨its, r, ht, hz⟩ := I.tuple hx
  have hlen : its.toArray.size = xs.length := by rw [List.size_toArray]; exact r.length.symm
  exact ⟨"tuple", _, PyProof.Rows.slot_tuple_getitem.lookup, ht.typeIs, HT.z4K ht hs pl pu (by rw [hlen]; exact hw) ⟨.ref a, H, I, rfl, q1 hw⟩⟩
 ·exact y2V pins s σ H (.ref a) v vl vu lo hi sl Q I rx hs pl pu ⟨a, xs, rfl, hx, hw, q2 hw⟩
section
variable {X : Cx} {tg : Expr}
end
def tCut (t u : TS) : TS := fun D σ H => ∃ W : St -> Hp -> Prop, t { D with nx := W } σ H /\ ∀ σ' H', W σ' H' -> u D σ' H'
theorem z20 {X : Cx} {st : Stmt} {rest : List Stmt} {t u : TS} (h1 : PS X st t) (h2 : PSs X rest u) : PSs X (st :: rest) (tCut t u) := by
 intro pins s σ H D I h
 obtain ⟨W, h, hw⟩ := h
 refine wpAny_execs_cons (thn (h1 pins s σ H { D with nx := W } I h) fun f s1 q => ?_)
 cases f with
 | next =>
  obtain ⟨σ', H', I', q⟩ := q
  exact h2 pins s1 σ' H' D I' (hw σ' H' q)
 | ret v => exact q
 | brk => exact q
 | cont => exact q
end L2
namespace HT
open PySem PySem.Spec PyProof.Rows L2
section
variable {prog : Program} {w : World} {A : Around} {E : Value -> Shared -> Prop} {s : Shared}
end
end HT
namespace L2
open PySem PySem.Spec PyProof.Rows
section
variable {X : Cx}
theorem z2M (zs : List Str) : (zs.map V.str).all z1j = true := by
 rw [List.all_map, List.all_eq_true]
 intro z _
 rfl
end
def DfK (K : PySem.W.Frag) (x q : Str) (st : Stmt) (dV : Value) (f : Addr) : Prop := ∃ (oc : Value) (od : Option Addr) (kV doc pm : Value) (an : Option Addr) (cdv ct : Value) (osl : Array (Option Value)),
 K.lookup f = some ⟨oc, od, .func (PySem.W.fnOf x q (z1f st) (z18 st) (z09 st) dV kV doc pm an cdv ct), osl⟩ /\ PySem.W.codeIn K cdv q = true /\ PySem.W.keepIn K (.ref f) = true
def DfT (K : PySem.W.Frag) (x : Str) (st : Stmt) (dV : Value) (f : Addr) : Prop := PySem.W.nsIn K mainGlobals x = some (some (.ref f)) /\ DfK K x x st dV f
def DfM (K : PySem.W.Frag) (C : Addr) (x q : Str) (st : Stmt) (dV : Value) (f : Addr) : Prop := PySem.W.findIn K (.ref C) x = some (some (.ref f)) /\ PySem.W.isFn K (.ref f) = true /\ DfK K x q st dV f
def DfD (K : PySem.W.Frag) (T : Addr) (its : Array Value) : Prop := ∃ oct odt nt slt, K.lookup T = some ⟨oct, odt, .seq its nt, slt⟩
def DfC (K : PySem.W.Frag) (x : Str) (C : Addr) : Prop := PySem.W.nsIn K mainGlobals x = some (some (.ref C)) /\ PySem.W.plainGet K C Str.empty = true /\ PySem.W.hasDictIn K C = true /\ PySem.W.plainOver K C = true /\ PySem.W.findIn K (.ref C) "__setattr__" = some (some (.builtin "object.__setattr__")) /\ PySem.W.makesIn K C = true /\ PySem.W.keepIn K (.ref C) = true
section
variable {K : PySem.W.Frag} {mg : Str -> Option Value} {x q : Str} {st : Stmt} {f C T : Addr} {fd : FuncData} {its : Array Value}
theorem DfK.fn (h : DfK K x q st .none f) : ∃ fd, Fun K x q st f fd := by
 obtain ⟨oc, od, kV, doc, pm, an, cdv, ct, osl, l, c, k⟩ := h
 exact ⟨_, y3W l c k⟩
theorem DfK.fnD (h : DfK K x q st (.ref T) f) (d : DfD K T its) : ∃ fd, FunD K x q st f fd T its := by
 obtain ⟨oc, od, kV, doc, pm, an, cdv, ct, osl, l, c, k⟩ := h
 obtain ⟨_, _, _, _, d⟩ := d
 exact ⟨_, y3H l d c k⟩
theorem z17 {h : Heap} (X : K.In h) (G : h.Ns mainGlobals mg) (a : DfT K x st .none f) : ∃ fd, Fun K x x st f fd /\ mg x = some (.ref f) := by
 obtain ⟨fd, F⟩ := a.2.fn
 exact ⟨fd, F, PySem.W.mg_of X G a.1⟩
theorem z1g (a : DfM K C x q st .none f) : ∃ fd, Fun K x q st f fd /\ Meth K C x f := by
 obtain ⟨fd, F⟩ := a.2.2.fn
 exact ⟨fd, F, a.1, a.2.1, F.kp⟩
theorem y27 (a : DfM K C x q st (.ref T) f) (d : DfD K T its) : ∃ fd, FunD K x q st f fd T its /\ Meth K C x f := by
 obtain ⟨fd, F⟩ := a.2.2.fnD d
 exact ⟨fd, F, a.1, a.2.1, F.kp⟩
theorem z8h {y : Str} (c : DfC K y C) (a : DfM K C "__init__" q st .none f) : ∃ fd, Fun K "__init__" q st f fd /\ Mk K C f := by
 obtain ⟨fd, F⟩ := a.2.2.fn
 exact ⟨fd, F, c.2.2.2.2.2.1, a.1, a.2.1, c.2.2.2.2.2.2⟩
theorem DfC.cls {y : Str} (c : DfC K y C) : Cls K C := ⟨c.2.1, c.2.2.1, c.2.2.2.1, c.2.2.2.2.1⟩
theorem DfC.nm {h : Heap} (X : K.In h) (G : h.Ns mainGlobals mg) {y : Str} (c : DfC K y C) : mg y = some (.ref C) := PySem.W.mg_of X G c.1
theorem y1b {p : Str} (F : Fun K x q st f fd) (h : ∀ kV doc pm an cdv ct v, bindArgs (PySem.W.fnOf x q (z1f st) (z18 st) (z09 st) .none kV doc pm an cdv ct) ⟨[v], []⟩ = pure [(p, v)] := by intros; rfl) : ∀ (s : Shared) (v : Value), BindsTo s fd ⟨[v], []⟩ [(p, v)] := by
 obtain ⟨oc, od, kV, doc, pm, an, cdv, ct, osl, rfl, l, c⟩ := F.ex
 exact fun s v => .of_eq (h _ _ _ _ _ _ _)
theorem b0 (F : Fun K x q st f fd) (h : ∀ kV doc pm an cdv ct, bindArgs (PySem.W.fnOf x q (z1f st) (z18 st) (z09 st) .none kV doc pm an cdv ct) ⟨[], []⟩ = pure (List.zip [] []) := by intros; rfl) : z1c K fd [] [] :=
 F.binds fun kV doc pm an cdv ct us hl => len0 (p := fun us => bindArgs _ ⟨us, []⟩ = pure (List.zip _ us)) hl (h kV doc pm an cdv ct)
theorem b1 {p1 : Str} (F : Fun K x q st f fd) (h : ∀ kV doc pm an cdv ct a, bindArgs (PySem.W.fnOf x q (z1f st) (z18 st) (z09 st) .none kV doc pm an cdv ct) ⟨[a], []⟩ = pure (List.zip [p1] [a]) := by intros; rfl) : z1c K fd [p1] [] :=
 F.binds fun kV doc pm an cdv ct us hl => len1 (p := fun us => bindArgs _ ⟨us, []⟩ = pure (List.zip _ us)) hl (h kV doc pm an cdv ct)
theorem b2 {p1 p2 : Str} (F : Fun K x q st f fd) (h : ∀ kV doc pm an cdv ct a b, bindArgs (PySem.W.fnOf x q (z1f st) (z18 st) (z09 st) .none kV doc pm an cdv ct) ⟨[a, b], []⟩ = pure (List.zip [p1, p2] [a, b]) := by intros; rfl) : z1c K fd [p1, p2] [] :=
 F.binds fun kV doc pm an cdv ct us hl => len2 (p := fun us => bindArgs _ ⟨us, []⟩ = pure (List.zip _ us)) hl (h kV doc pm an cdv ct)
theorem b3 {p1 p2 p3 : Str} (F : Fun K x q st f fd) (h : ∀ kV doc pm an cdv ct a b c, bindArgs (PySem.W.fnOf x q (z1f st) (z18 st) (z09 st) .none kV doc pm an cdv ct) ⟨[a, b, c], []⟩ = pure (List.zip [p1, p2, p3] [a, b, c]) := by intros; rfl) : z1c K fd [p1, p2, p3] [] :=
 F.binds fun kV doc pm an cdv ct us hl => len3 (p := fun us => bindArgs _ ⟨us, []⟩ = pure (List.zip _ us)) hl (h kV doc pm an cdv ct)
theorem b4 {p1 p2 p3 p4 : Str} (F : Fun K x q st f fd) (h : ∀ kV doc pm an cdv ct a b c d, bindArgs (PySem.W.fnOf x q (z1f st) (z18 st) (z09 st) .none kV doc pm an cdv ct) ⟨[a, b, c, d], []⟩ = pure (List.zip [p1, p2, p3, p4] [a, b, c, d]) := by intros; rfl) : z1c K fd [p1, p2, p3, p4] [] :=
 F.binds fun kV doc pm an cdv ct us hl => len4 (p := fun us => bindArgs _ ⟨us, []⟩ = pure (List.zip _ us)) hl (h kV doc pm an cdv ct)
theorem b5 {p1 p2 p3 p4 p5 : Str} (F : Fun K x q st f fd) (h : ∀ kV doc pm an cdv ct a b c d e, bindArgs (PySem.W.fnOf x q (z1f st) (z18 st) (z09 st) .none kV doc pm an cdv ct) ⟨[a, b, c, d, e], []⟩ = pure (List.zip [p1, p2, p3, p4, p5] [a, b, c, d, e]) := by intros; rfl) : z1c K fd [p1, p2, p3, p4, p5] [] :=
 F.binds fun kV doc pm an cdv ct us hl => len5 (p := fun us => bindArgs _ ⟨us, []⟩ = pure (List.zip _ us)) hl (h kV doc pm an cdv ct)
theorem b6 {p1 p2 p3 p4 p5 p6 : Str} (F : Fun K x q st f fd) (h : ∀ kV doc pm an cdv ct a b c d e g, bindArgs (PySem.W.fnOf x q (z1f st) (z18 st) (z09 st) .none kV doc pm an cdv ct) ⟨[a, b, c, d, e, g], []⟩ = pure (List.zip [p1, p2, p3, p4, p5, p6] [a, b, c, d, e, g]) := by intros; rfl) : z1c K fd [p1, p2, p3, p4, p5, p6] [] :=
 F.binds fun kV doc pm an cdv ct us hl => len6 (p := fun us => bindArgs _ ⟨us, []⟩ = pure (List.zip _ us)) hl (h kV doc pm an cdv ct)
end
theorem calF (P : Program) (w : World) (K : PySem.W.Frag) (mg : Str -> Option Value) (base : Heap) {k : Nat} {x : Str} {ps : List Str} {sp : Sp} {st : Stmt} {f : Addr} {fd : FuncData} (F : Fun K x x st f fd /\ mg x = some (.ref f)) (a : FnOk P w K mg base CX0 k f fd ps sp) (b : z1c K fd ps []) : Cal P w K mg base k x ps sp := .mk' a b F.1.kp F.2
theorem mclF (P : Program) (w : World) (K : PySem.W.Frag) (mg : Str -> Option Value) (base : Heap) {k : Nat} {C : Addr} {x q : Str} {ps : List Str} {sp : Sp} {st : Stmt} {f : Addr} {fd : FuncData} (c : Cls K C) (F : Fun K x q st f fd /\ Meth K C x f) (a : FnOk P w K mg base CX0 k f fd ps sp) (b : z1c K fd ps []) : MCal P w K mg base k C x ps sp := .mk' c a b F.2
theorem mkrF (P : Program) (w : World) (K : PySem.W.Frag) (mg : Str -> Option Value) (base : Heap) {k : Nat} {C : Addr} {x y q : Str} {ps : List Str} {sp : Sp} {st : Stmt} {f : Addr} {fd : FuncData} (c : mg x = some (.ref C)) (F : Fun K y q st f fd /\ Mk K C f) (a : FnOk P w K mg base CX0 k f fd ps sp) (b : z1c K fd ps []) : Mkr P w K mg base k C x ps sp := .mk' a b F.2 c
theorem scp {N P : List Str} {sc : Scope} (h1 : sc.kind = .function := by rfl) (h2 : sc.isCoroutine = false := by rfl) (h3 : sc.isGenerator = false := by rfl) (h4 : N.Nodup := by decide +kernel) (h5 : N.take P.length = P := by rfl)
  (h6 : ∀ x ∈ P, sc.names.lookup x = some .local \/ sc.names.lookup x = some .cell := by decide +kernel) (h7 : ∀ y ∈ sc.names, y.2 ≠ .free := by decide +kernel) : FnScope N P sc := ⟨h1, h2, h3, h4, h5, h6, h7⟩
theorem rm {j k : Nat} {A : Around} (r : Room k A) (h : j ≤ k := by omega) : Room j A := r.mono h
theorem Cal.up {P : Program} {w : World} {K : PySem.W.Frag} {mg : Str -> Option Value} {base : Heap} {j k : Nat} {x : Str} {ps : List Str} {sp : Sp} (G : Cal P w K mg base j x ps sp) (h : j ≤ k := by decide) : Cal P w K mg base k x ps sp := G.mono h
theorem MCal.up {P : Program} {w : World} {K : PySem.W.Frag} {mg : Str -> Option Value} {base : Heap} {j k : Nat} {C : Addr} {x : Str} {ps : List Str} {sp : Sp} (G : MCal P w K mg base j C x ps sp) (h : j ≤ k := by decide) : MCal P w K mg base k C x ps sp := G.mono h
theorem MCalD.up {P : Program} {w : World} {K : PySem.W.Frag} {mg : Str -> Option Value} {base : Heap} {j k : Nat} {C : Addr} {x : Str} {ps : List Str} {sp : Sp} {d : List V} (G : MCalD P w K mg base j C x ps sp d) (h : j ≤ k := by decide) : MCalD P w K mg base k C x ps sp d := G.mono h
theorem Mkr.up {P : Program} {w : World} {K : PySem.W.Frag} {mg : Str -> Option Value} {base : Heap} {j k : Nat} {C : Addr} {x : Str} {ps : List Str} {sp : Sp} (G : Mkr P w K mg base j C x ps sp) (h : j ≤ k := by decide) : Mkr P w K mg base k C x ps sp := G.mono h
section
variable {X : Cx} {mg : Str -> Option Value}
end
end L2
namespace HT
open PySem PySem.Spec PyProof.Rows L2
section
variable {prog : Program} {w : World} {A : Around} {E : Value -> Shared -> Prop} {s : Shared}
end
end HT
namespace L2
open PySem PySem.Spec PyProof.Rows
section
variable {X : Cx} {es : List Expr} {ec : Nat} {tp : Pos}
end
section
variable {X : Cx}
end
end L2
namespace HT
open PySem PySem.Spec PyProof.Rows L2
section
variable {prog : Program} {w : World} {A : Around} {E : Value -> Shared -> Prop} {s : Shared}
end
end HT
namespace L2
open PySem PySem.Spec PyProof.Rows PySem.Builtin PySem.Builtin.Str
section
variable {X : Cx}
def y4a : V -> List V -> Hp -> VK -> Prop := fun x vs H Q => ∃ z, x = .str z /\ vs = [] /\ tooLong (Txt.upper z).length = false /\ Q (.str (Txt.upper z)) H
def y4l : V -> List V -> Hp -> VK -> Prop := fun x vs H Q => ∃ z, x = .str z /\ vs = [] /\ tooLong (Txt.lower z).length = false /\ Q (.str (Txt.lower z)) H
theorem y1O : MtM X "str.upper" y4a := by
 intro pins s σ H x vs v us Q I rx rv h
 obtain ⟨z, rfl, rfl, hz, q⟩ := h
 obtain ⟨t, rfl⟩ := rx
 cases rv
 exact PySem.W.KXw.upper rfl hz fun t' k => ⟨.str _, H, I.tok _, ⟨_, rfl⟩, q⟩
theorem y1L : MtM X "str.lower" y4l := by
 intro pins s σ H x vs v us Q I rx rv h
 obtain ⟨z, rfl, rfl, hz, q⟩ := h
 obtain ⟨t, rfl⟩ := rx
 cases rv
 exact PySem.W.KXw.lower rfl hz fun t' k => ⟨.str _, H, I.tok _, ⟨_, rfl⟩, q⟩
theorem up3 : ∀ p ∈ UnicodeData.severalUpper, p.2.length ≤ 3 := by decide +kernel
theorem lo3 : ∀ p ∈ UnicodeData.severalLower, p.2.length ≤ 3 := by decide +kernel
theorem y2x {l : List (Nat × List Nat)} (h : ∀ p ∈ l, p.2.length ≤ 3) {c : Nat} {cs : List Nat} (e : l.lookup c = some cs) : cs.length ≤ 3 := by
 induction l with
 | nil => cases e
 | cons p l ih =>
  obtain ⟨a, b⟩ := p
  rw [List.lookup_cons] at e
  split at e
  ·cases e
   exact h (a, cs) List.mem_cons_self
  ·exact ih (fun q hq => h q (List.mem_cons_of_mem _ hq)) e
theorem z81 {o : List (Nat × Nat × Nat)} {l : List (Nat × List Nat)} (h : ∀ p ∈ l, p.2.length ≤ 3) (c : Nat) : (Unicode.image o l c).length ≤ 3 := by
 unfold Unicode.image
 split
 ·rename_i cs e
  exact y2x h e
 ·exact (by decide : 1 ≤ 3)
theorem z8P (s : Array Nat) (i : Nat) : (Unicode.lowerAt s i).length ≤ 3 := by
 unfold Unicode.lowerAt
 split
 ·exact Nat.zero_le _
 ·split
  ·exact (by decide : 1 ≤ 3)
  ·exact z81 lo3 _
theorem sum3 : ∀ {l : List Nat}, (∀ n ∈ l, n ≤ 3) -> l.sum ≤ 3 * l.length
 | [], _ => Nat.zero_le _
 | a :: l, h => by
  have := sum3 fun n hn => h n (List.mem_cons_of_mem a hn)
  have := h a List.mem_cons_self
  rw [List.sum_cons, List.length_cons]
  omega
theorem z6k {x : Str} {f : Nat -> Nat -> List Nat} (h : ∀ i c, (f i c).length ≤ 3) : (placed x f).size ≤ 3 * x.length := by
 unfold placed
 rw [Array.size_flatten]
 have e := sum3 (l := ((x.cps.mapIdx fun i c => (f i c).toArray).map Array.size).toList) fun n hn => by
  rw [Array.toList_map, List.mem_map] at hn
  obtain ⟨a, ha, rfl⟩ := hn
  obtain ⟨i, hi, rfl⟩ := Array.mem_mapIdx.mp (Array.mem_def.mpr ha)
  exact h _ _
 rw [Array.length_toList, Array.size_map, Array.size_mapIdx] at e
 rw [<- Array.sum_toList]
 exact e
theorem y0C (x : Str) : (Txt.upper x).length ≤ 3 * x.length := z6k fun _ c => z81 up3 c
theorem y14 (x : Str) : (Txt.lower x).length ≤ 3 * x.length := z6k fun i _ => z8P x.cps i
end
end L2
namespace L2
open PySem PySem.Spec PyProof.Rows PySem.Builtin PySem.Builtin.Str
def Stay (fs : List Addr) (h h' : Heap) (H' : Hp) (B : Heap) : Prop := ∀ b o, h'.get? b = some o -> b ∉ fs -> (H' b ≠ none \/ ∃ o0, h.get? b = some o0) -> B.get? b = some o
def CX1 (P : Program) (w : World) : CXT := fun outer H s E e s' => ∃ (a : Addr) (C : Value) (H' : Hp) (B : Heap) (a0 : Value), e = .ref a /\ s'.os = s.os /\ AllBare s'.gens /\ Un (frs outer) [] H H' s.heap s'.heap /\ HOk P w H' s'.heap /\
 Heap.FlyingW B outer a C a0 s'.heap /\ Stay (frs outer) s.heap s'.heap H' B /\ E C none H'
theorem z16.there {P : Program} {w : World} {H : Hp} {h : Heap} {a : Addr} {o : HO} (x : z16 P w H h a o) : ∃ u, h.get? a = some u := by
 cases o with
 | lst xs => obtain ⟨_, _, _, _, e⟩ := x; exact ⟨_, e⟩
 | tup xs => obtain ⟨_, _, _, o, e, _⟩ := x; exact ⟨_, e⟩
 | dK kvs => obtain ⟨_, _, _, _, o, _, _, e, _⟩ := x; exact ⟨_, e⟩
 | dT kvs => obtain ⟨_, _, _, _, o, _, _, e, _⟩ := x; exact ⟨_, e⟩
 | set S n => obtain ⟨o, _, _, _, e, _⟩ := x; exact ⟨_, e⟩
 | ins C dx fs => obtain ⟨_, _, _, e, _⟩ := x; exact ⟨_, e⟩
 | own y => exact x
 | xd fs => obtain ⟨_, ⟨o, _, _, e, _⟩, _⟩ := x; exact ⟨_, e⟩
 | rng lo hi => obtain ⟨_, _, _, e⟩ := x; exact ⟨_, e⟩
 | frz o u => exact ⟨_, x.1⟩
 | tbl ps => exact ⟨_, (show h.get? a = some _ from x)⟩
 | met f y => exact ⟨_, (show h.get? a = some _ from x)⟩
 | ext φ => obtain ⟨_, e, _⟩ := x; exact e
section
variable {P : Program} {w : World} {fs : List Addr} {H H' : Hp} {h h1 h2 B : Heap}
theorem Stay.hok (st : Stay fs h h1 H' B) (k : B.StaysIn h2) (hf : ∀ b ∈ fs, H' b = none) (ok : HOk P w H' h1) : HOk P w H' h2 := fun a o e => by
 refine (ok a o e).stay (fun b u hb q => ?_) (fun _ q => q) (fun _ _ q => q)
 have hn : H' b ≠ none := by
  rcases hb with rfl | hb
  ·rw [e]; exact fun z => nomatch z
  ·rw [hb]; exact fun z => nomatch z
 exact k _ _ (st b u q (fun z => hn (hf b z)) (.inl hn))
theorem Stay.un (st : Stay fs h h1 H' B) (k : B.StaysIn h2) (us : h1.UpToSlots h2) (nf : ∀ b ∈ fs, ∃ o, h1.get? b = some o /\ ∀ vs, o.data ≠ .fields vs) (u : Un fs [] H H' h h1) : Un fs [] H H' h h2 where
 keep := fun b o q n hb hx => k _ _ (st b o (u.keep b o q n hb hx) hb (.inr ⟨o, q⟩))
 slot := fun b o q n hb hx => by
  obtain ⟨sl, e⟩ := u.slot b o q n hb hx
  obtain ⟨o1, e1, d1⟩ := nf b hb
  rw [e] at e1
  cases e1
  obtain ⟨sl2, e2⟩ := us b _ e d1
  exact ⟨sl2, e2⟩
 free := u.free
 there := fun b o q hx => by
  obtain ⟨o1, e1⟩ := u.there b o q hx
  by_cases hb : b ∈ fs
  ·obtain ⟨o2, e2, d2⟩ := nf b hb
   obtain ⟨sl, e3⟩ := us b o2 e2 d2
   exact ⟨_, e3⟩
  ·exact ⟨o1, k _ _ (st b o1 e1 hb (.inr ⟨o, q⟩))⟩
 tups := u.tups
 frzs := u.frzs
 tbls := u.tbls
theorem Stay.next (st : Stay fs h h1 H' B) (k : B.StaysIn h2) (ok : HOk P w H' h1) (hf : ∀ b ∈ fs, H' b = none) (th : ∀ b o, h.get? b = some o -> ∃ o', h1.get? b = some o') : Stay fs h h2 H' B := fun b o q hb hc => by
 have : ∃ o1, h1.get? b = some o1 := by
  rcases hc with hc | ⟨o0, e0⟩
  ·cases e : H' b with
   | none => exact absurd e hc
   | some u => exact (ok b u e).there
  ·exact th b o0 e0
 obtain ⟨o1, e1⟩ := this
 have e2 := st b o1 e1 hb hc
 rw [k _ _ e2] at q
 cases q
 exact e2
end
section
variable {X : Cx} {pins : List (Addr × Obj)} {σ : St} {H H' : Hp} {s : Shared} {h1 B : Heap}
theorem Inv.nolo (I : Inv X pins σ H s) {b : Addr} {o : Obj} (e : X.s₀.heap.get? b = some o) : b ≠ X.env.locals := fun z => by
 subst z
 exact absurd (Nat.lt_of_lt_of_le (Heap.lt_size e) I.ok.above) (Nat.lt_irrefl _)
theorem Inv.outward (I : Inv X pins σ H s) (hx : X.ex = []) (u : Un (frs X.stack) [] H H' s.heap h1) : Un X.fs [] X.H₀ H' X.s₀.heap h1 where
 keep := fun b o q n hb hc => u.keep b o (I.base.keep b o q n hb (by rw [hx]; exact hc)) (I.base.free b o q n (by rw [hx]; exact hc)) (fun z => (List.mem_cons.mp (I.stkSub b z)).elim (I.nolo q) hb) hc
 slot := fun b o q n hb hc => by
  obtain ⟨sl, e⟩ := I.base.slot b o q n hb (by rw [hx]; exact hc)
  obtain ⟨sl2, e2⟩ := u.any e (I.base.free b o q n (by rw [hx]; exact hc)) hc
  exact ⟨sl2, e2⟩
 free := fun b o q n hc => by
  obtain ⟨o1, e1⟩ := I.base.there b o q (by rw [hx]; exact hc)
  exact u.free b o1 e1 (I.base.free b o q n (by rw [hx]; exact hc)) hc
 there := fun b o q hc => by
  obtain ⟨o1, e1⟩ := I.base.there b o q (by rw [hx]; exact hc)
  exact u.there b o1 e1 hc
 tups := fun b xs q => u.tups b xs (I.base.tups b xs q)
 frzs := fun b o v q => u.frzs b o v (I.base.frzs b o v q)
 tbls := fun b ps q => by
  obtain ⟨m, e⟩ := I.base.tbls b ps q
  obtain ⟨m2, e2⟩ := u.tbls b _ e
  exact ⟨m ++ m2, by rw [e2, Array.append_assoc]⟩
theorem Inv.stayOut (I : Inv X pins σ H s) (hx : X.ex = []) (hf : ∀ b ∈ frs X.stack, H' b = none) (st : Stay (frs X.stack) s.heap h1 H' B) : Stay X.fs X.s₀.heap h1 H' B := fun b o q hb hc => by
 refine st b o q (fun z => ?_) ?_
 ·rcases hc with hc | ⟨o0, e0⟩
  ·exact hc (hf b z)
  ·exact (List.mem_cons.mp (I.stkSub b z)).elim (I.nolo e0) hb
 ·rcases hc with hc | ⟨o0, e0⟩
  ·exact .inl hc
  ·exact .inr (I.base.there b o0 e0 (by rw [hx]; exact fun z => nomatch z))
end
section
variable {P : Program} {w : World} {K : PySem.W.Frag} {mg : Str -> Option Value} {base : Heap} {N : List Str} {qual : Str} {scope : Scope} {f : Addr} {cd : Value} {A : Around} {outer : List Env} {s0 : Shared} {H0 : Hp} {E : XK}
theorem y46 : z55 (CX1 P w) (cxOf (CX1 P w) P w K mg base N qual scope f cd A outer s0 H0 E) E := by
 intro pins σ H s e s' I h
 obtain ⟨a, C, H', B, a0, rfl, hos, hg, un, hok, fl, st, hE⟩ := h
 have hfr := I.ok.frames
 have hf : ∀ b ∈ frs (envOfC qual scope s0.heap.objs.size f cd :: outer), H' b = none := fun b hb => by
  obtain ⟨_, o, ho, _⟩ := I.stack.mem hb
  exact un.free b o ho (I.stkFree b hb) (fun z => nomatch z)
 have nf : ∀ b ∈ frs (envOfC qual scope s0.heap.objs.size f cd :: outer), ∃ o, s'.heap.get? b = some o /\ ∀ vs, o.data ≠ .fields vs := fun b hb => (fl.2.2.1.mem hb).2
 show wpAny (model P w) (A.deeper (envOfC qual scope s0.heap.objs.size f cd)) (leaving (envOfC qual scope s0.heap.objs.size f cd) (.ref a)) _ _ s'
 refine wpAny_leaves_onW hfr rfl fl fun h' fl' us => ?_
 have un2 := st.un fl'.1 us nf un
 have ok2 : HOk P w H' h' := st.hok fl'.1 hf hok
 have st2 := st.next fl'.1 hok hf (fun b o q => un.there b o q (fun z => nomatch z))
 exact ⟨a, C, H', B, a0, rfl, hos.trans I.os, hg, I.outward rfl un2, ok2, fl', I.stayOut rfl hf st2, hE⟩
end
abbrev veL : List Value := [.type "ValueError", .type "Exception", .type "BaseException", .type "object"]
structure Err (K : PySem.W.Frag) (mg : Str -> Option Value) (x : Str) (C : Addr) : Prop where
 mgC : mg x = some (.ref C)
 ex : PySem.W.excIn K C veL "ValueError.__new__" = true
theorem Err.obj {K : PySem.W.Frag} {mg : Str -> Option Value} {x : Str} {C : Addr} {h : Heap} (E : Err K mg x C) (X : K.In h) : OwnCls x C veL "ValueError.__new__" mg h := by
 refine ⟨E.mgC, ?_⟩
 have q := E.ex
 unfold PySem.W.excIn at q
 split at q
 ·rename_i dd cd sl ho
  split at q
  ·rename_i C' bm k0 k1 k2 k3 n k5 hm hs
   simp only [Bool.and_eq_true, beq_iff_eq, Bool.not_eq_true'] at q
   obtain ⟨⟨⟨⟨⟨rfl, rfl⟩, hdel⟩, ht⟩, hok⟩, hni⟩ := q
   obtain ⟨nm, bs, mro, ns, qn, hd, sn, sub, ab, col, del⟩ := cd
   dsimp only at hm hdel hok hni
   subst hm hdel
   have hsl : sl = #[k0, k1, k2, k3, some (.builtin "ValueError.__new__"), k5] := by
    obtain ⟨l⟩ := sl
    simp only at hs
    rw [hs]
   subst hsl
   exact ⟨bm, ns, nm, qn, bs, hd, sn, sub, ab, col, dd, k0, k1, k2, k3, k5, _, X _ _ ho, .of_isNs (PySem.W.isNs_of_in X hok), PySem.W.nsMap_none_of_in X hok hni, PySem.W.tail_of_in X ht⟩
  ·cases q
 ·cases q
def y4f (C : Addr) (E : XK) (t : TA) : TS := fun _ σ H => t σ H fun vs H1 => vs.length ≤ sizeLine /\ E (.ref C) none H1
section
variable {P : Program} {w : World} {K : PySem.W.Frag} {mg : Str -> Option Value} {base : Heap} {N : List Str} {qual : Str} {scope : Scope} {f : Addr} {cd : Value} {A : Around} {outer : List Env} {s0 : Shared} {H0 : Hp} {E : XK}
theorem z2r {x : Str} {C : Addr} {e0 : Expr} {es : List Expr} {t : TA} {np cpos pos : Pos} (er : Err K mg x C) (hg : Gl (cxOf (CX1 P w) P w K mg base N qual scope f cd A outer s0 H0 E) x)
  (ha : PA (cxOf (CX1 P w) P w K mg base N qual scope f cd A outer s0 H0 E) (e0 :: es) t)
  (hdb : (x == ("__debug__" : Str)) = false := by decide)
  (he : starEach (e0 :: es) (cxOf (CX1 P w) P w K mg base N qual scope f cd A outer s0 H0 E).env = (false, eval e0 (cxOf (CX1 P w) P w K mg base N qual scope f cd A outer s0 H0 E).env) :: starEach es (cxOf (CX1 P w) P w K mg base N qual scope f cd A outer s0 H0 E).env := by rfl)
  (hpl : (backTo cpos (starEach es (cxOf (CX1 P w) P w K mg base N qual scope f cd A outer s0 H0 E).env)).any (·.1) = false := by rfl) :
  PS (cxOf (CX1 P w) P w K mg base N qual scope f cd A outer s0 H0 E) (.Raise (some (.Call (.Name x np) (e0 :: es) [] cpos)) none pos) (y4f C E t) := by
 intro pins s σ H D I h
 obtain ⟨bm, Ns, nm, q, bs, hdct, sn, sub, ab, col, dd, k0, k1, k2, k3, k5, mN, hC, hN, hni, T⟩ := (er.obj I.mod.kin).obj
 refine wpAny_Raise_call_subT (C := C) (nm := nm) (q := q) (N := Ns) (bs := bs) (bm := bm) (hdct := hdct) (sn := sn) (sub := sub) (ab := ab) (col := col) (dd := dd) (k0 := k0) (k1 := k1) (k2 := k2) (k3 := k3) (k5 := k5)
  PySem.F.excBase_ValueError (mN := mN) (T.hasType PySem.F.excBase_ValueError.hasBase) (I.ok.hd rfl) (by rw [he]; show (false || (backTo cpos (starEach es _)).any (·.1)) = false; rw [hpl]; rfl) hni (z3Y I hg er.mgC ⟨rfl, ?_⟩ hdb)
 have hA := ha cpos pins s σ H _ I h
 rw [he] at hA ⊢
 refine Calls.evalArgs_plain (thn hA fun us s2 ⟨vs, H2, I2, r2, hz, hE⟩ => ⟨rfl, by rw [<- r2.length]; exact hz, I2.bk _ _ hC, hN.keeps I2.bk, T.keeps I2.bk, fun h' e hm => ?_⟩)
 show wpAny (model P w) (A.deeper (envOfC qual scope s0.heap.objs.size f cd)) (leaving (envOfC qual scope s0.heap.objs.size f cd) (.ref e)) _ _ _
 have sk := I2.stack
 have hfr := I2.ok.frames
 refine wpAny_leaves_madeW (base := PySem.W.hideAll s2.heap (frs (envOfC qual scope s0.heap.objs.size f cd :: outer))) (h := s2.heap) hfr rfl (fun b o z => PySem.W.of_hideAll _ z) (PySem.W.funFrames_hide sk fun env hv b hb => List.mem_filterMap.mpr ⟨env, hv, hb⟩) hm fun h'' t' fl _ _ us' => ?_
 have hf : ∀ b ∈ frs (envOfC qual scope s0.heap.objs.size f cd :: outer), H2 b = none := I2.stkFree
 have ok1 : HOk P w H2 h' := I2.hok.kept hm.keeps
 have un1 : Un (frs (envOfC qual scope s0.heap.objs.size f cd :: outer)) [] H2 H2 s2.heap h' := Un.kept hm.keeps
 have nf : ∀ b ∈ frs (envOfC qual scope s0.heap.objs.size f cd :: outer), ∃ o, h'.get? b = some o /\ ∀ vs, o.data ≠ .fields vs := fun b hb => by
  obtain ⟨_, o, ho, hd⟩ := sk.mem hb
  exact ⟨o, hm.keeps _ _ ho, hd⟩
 have st : Stay (frs (envOfC qual scope s0.heap.objs.size f cd :: outer)) s2.heap h' H2 (PySem.W.hideAll s2.heap (frs (envOfC qual scope s0.heap.objs.size f cd :: outer))) := fun b o z hb hc => by
  have : ∃ o1, s2.heap.get? b = some o1 := by
   rcases hc with hc | hc
   ·cases e : H2 b with
    | none => exact absurd e hc
    | some u => exact (I2.hok b u e).there
   ·exact hc
  obtain ⟨o1, e1⟩ := this
  rw [hm.keeps _ _ e1] at z
  cases z
  exact PySem.W.hideAll_get _ e1 hb
 have un2 := st.un fl.1 us' nf un1
 have ok2 : HOk P w H2 h'' := st.hok fl.1 hf ok1
 have st2 := st.next fl.1 ok1 hf (fun b o z => ⟨o, hm.keeps _ _ z⟩)
 exact ⟨e, .ref C, H2, _, _, rfl, I2.os, I2.bare, I2.outward rfl un2, ok2, fl, I2.stayOut rfl hf st2, hE⟩
end
section
variable {X : Cx} {e : Expr} {es : List Expr} {te : TE} {pos : Pos}
abbrev TJ := Str -> St -> Hp -> (Str -> Hp -> Prop) -> Prop
def PJ (X : Cx) (es : List Expr) (t : TJ) : Prop := ∀ (acc : Str) (pins : List (Addr × Obj)) (s : Shared) (σ : St) (H : Hp) (Q : Str -> Hp -> Prop), Inv X pins σ H s -> t acc σ H Q ->
 Joins (model X.prog X.w) X.A X.xe (evalEach es X.env) acc (fun out s1 => ∃ H', Inv X pins σ H' s1 /\ Q out H') s
theorem Joins.mono {M : Model} {A : Around} {E : Value -> Shared -> Prop} : ∀ {l : List (Sem Value)} {acc : Str} {Q Q' : Str -> Shared -> Prop} {s : Shared}, (∀ o s, Q o s -> Q' o s) -> Joins M A E l acc Q s -> Joins M A E l acc Q' s
 | [], acc, Q, Q', s, k, h => k _ _ h
 | x :: l, acc, Q, Q', s, k, h => wpAny_mono h (fun v s1 ⟨y, t, e, z, r⟩ => ⟨y, t, e, z, Joins.mono k r⟩) fun _ _ x => x
theorem z9f : PJ X [] (fun acc _ H Q => Q acc H) := fun acc pins s σ H Q I h => ⟨H, I, h⟩
theorem z2B {tr : TJ} (h : PE X e te) (hr : PJ X es tr) : PJ X (e :: es) (fun acc σ H Q => te σ H fun x H1 => ∃ y, x = .str y /\ (acc ++ y).length ≤ sizeLine /\ tr (acc ++ y) σ H1 Q) := fun acc pins s σ H Q I q =>
 wpAny_mono (h pins s σ H _ I q) (fun v s1 ⟨x, H1, I1, rx, y, ey, hz, q1⟩ => by
  subst ey
  obtain ⟨t, rfl⟩ := rx
  exact ⟨y, t, rfl, hz, hr _ pins s1 σ H1 Q I1 q1⟩) fun _ _ x => x
def tJoin (t : TJ) : TE := fun σ H Q => t Str.empty σ H fun out H1 => out.length ≤ sizeLine /\ Q (.str out) H1
theorem z7s {e1 e2 : Expr} {t : TJ} (h : PJ X (e1 :: e2 :: es) t) : PE X (.JoinedStr (e1 :: e2 :: es) pos) (tJoin t) := by
 intro pins s σ H Q I q
 refine wpAny_JoinedStr (Joins.mono (fun o s1 z => ?_) (h _ pins s σ H _ I q))
 obtain ⟨H1, I1, hz, q1⟩ := z
 exact ⟨hz, .str o, H1, I1.tok _, ⟨_, rfl⟩, q1⟩
def tFmtI (te : TE) : TE := fun σ H Q => te σ H fun x H1 => ∃ i : Int, x = .int i /\ i.natAbs.log2 < 1920 /\ Q (.str (toString i)) H1
theorem z8p (h : PE X e te) : PE X (.FormattedValue e (-1) none pos) (tFmtI te) := by
 intro pins s σ H Q I q
 refine PyProof.Rows.FormattedValue_plain (thn (h pins s σ H _ I q) fun v s1 ⟨x, H1, I1, rx, i, ei, hd, q1⟩ => ?_)
 subst ei
 obtain ⟨t, rfl⟩ := rx
 exact PyProof.Rows.formatField_int_small hd ⟨.str (toString i), H1, I1.tok _, ⟨_, rfl⟩, q1⟩
def Low (x : Str) : Prop := ∀ c ∈ x.cps.toList, c < 16 ^ 8
theorem z92 {x : Str} (h : Low x) : (reprText x).length ≤ 10 * x.length + 2 := PySem.StrLaws.reprText_len x h
def tFmtR (te : TE) : TE := fun σ H Q => te σ H fun x H1 => ∃ z : Str, x = .str z /\ z.length ≤ 1000 /\ Low z /\ Q (.str (reprText z)) H1
theorem y3F (h : PE X e te) : PE X (.FormattedValue e 114 none pos) (tFmtR te) := by
 intro pins s σ H Q I q
 refine wpAny_FormattedValue_repr (thn (h pins s σ H _ I q) fun v s1 ⟨x, H1, I1, rx, z, ez, hz, lo, q1⟩ => ?_)
 subst ez
 obtain ⟨t, rfl⟩ := rx
 have hl := z92 lo
 have line := sizeLine_eq
 refine wpAny_pyReprObj_gives (typeIs_str s1 z t) F.slot_str_repr F.entry_str_repr (F.args_str_repr_1 _) (gives_str_repr z t) ?_ (hx := by omega)
 exact PyProof.Rows.formatField_str (fun t' tk => ⟨.str (reprText z), H1, (I1.tok _).tok _, ⟨_, rfl⟩, q1⟩) (by omega)
end
def ExcO (a : Addr) (C : Value) : HO := .ext fun h => ∃ o vs, h.get? a = some o /\ o.cls = C /\ o.data = .fields vs
theorem y3w {P : Program} {w : World} {H : Hp} {h : Heap} {a : Addr} {C : Value} {o : Obj} {vs : Array Value} (e : h.get? a = some o) (c : o.cls = C) (d : o.data = .fields vs) : z16 P w H h a (ExcO a C) :=
 ⟨⟨o, vs, e, c, d⟩, ⟨o, e⟩, fun h1 h2 ⟨o, vs, e, c, d⟩ k => ⟨o, vs, k o e, c, d⟩⟩
abbrev Cx.mark (X : Cx) (e : Value) : Cx := { X with A := X.A.mark (some e), calm := false, xe := fun _ _ => False }
abbrev Cx.pnd (X : Cx) (pn : List (Addr × Obj)) : Cx := { X with pn := pn }
section
variable {X : Cx} {pins : List (Addr × Obj)} {σ : St} {H H' : Hp} {s : Shared}
theorem Cx.Ok.mark (ok : X.Ok) (e : Value) : (X.mark e).Ok := ⟨ok.mod, ok.kind, ok.glob, ok.blt, ok.above, ok.inj, ok.has, ok.cab, (fun z => nomatch z), ok.frames, ok.stk, ok.exf, ok.bs, ok.bsz, ok.noex, ok.exfs, ok.funs, ok.frf⟩
theorem Cx.Ok.pnd (ok : X.Ok) (pn : List (Addr × Obj)) : (X.pnd pn).Ok := ⟨ok.mod, ok.kind, ok.glob, ok.blt, ok.above, ok.inj, ok.has, ok.cab, ok.hd, ok.frames, ok.stk, ok.exf, ok.bs, ok.bsz, ok.noex, ok.exfs, ok.funs, ok.frf⟩
theorem Inv.mark (I : Inv X pins σ H s) (e : Value) : Inv (X.mark e) pins σ H s := ⟨I.ok.mark e, I.os, I.bare, I.base, I.loc, I.cell, I.free, I.freeC, I.pin, I.hok, I.len⟩
theorem Inv.unmark {e : Value} (I : Inv (X.mark e) pins σ H s) (ok : X.Ok) : Inv X pins σ H s := ⟨ok, I.os, I.bare, I.base, I.loc, I.cell, I.free, I.freeC, I.pin, I.hok, I.len⟩
theorem Inv.pnd (I : Inv X pins σ H s) : Inv (X.pnd (X.pn ++ pins)) [] σ H s := ⟨I.ok.pnd _, I.os, I.bare, I.base, I.loc, I.cell, I.free, I.freeC, by rw [List.append_nil]; exact I.pin, I.hok, I.len⟩
theorem Inv.unpnd {ps : List (Addr × Obj)} (I : Inv (X.pnd (X.pn ++ pins)) ps σ H s) (ok : X.Ok) : Inv X pins σ H s := ⟨ok, I.os, I.bare, I.base, I.loc, I.cell, I.free, I.freeC, fun p hp => I.pin p (List.mem_append_left _ hp), I.hok, I.len⟩
theorem SP.unpnd {D : Ends} {f : Flow} {s' : Shared} {ps : List (Addr × Obj)} (ok : X.Ok) (h : SP (X.pnd (X.pn ++ pins)) ps D f s') : SP X pins D f s' := by
 cases f with
 | next => obtain ⟨σ', H', I, q⟩ := h; exact ⟨σ', H', I.unpnd ok, q⟩
 | brk => obtain ⟨σ', H', I, q⟩ := h; exact ⟨σ', H', I.unpnd ok, q⟩
 | cont => obtain ⟨σ', H', I, q⟩ := h; exact ⟨σ', H', I.unpnd ok, q⟩
 | ret u => obtain ⟨v, σ', H', I, r, q⟩ := h; exact ⟨v, σ', H', I.unpnd ok, r, q⟩
theorem z78 {M : Model} {A : Around} {E : Value -> Shared -> Prop} {env : Env} {n : Str} {pos : Pos} {m : Str -> Option Value} {Q : Unit -> Shared -> Prop} (hl : env.kindOf n = some .local) (hn : s.heap.Ns env.locals m)
  (hp : (env.scope.kind == .class || (env.scope.kind == .module && env.locals != env.globals)) = false)
  (h : ∀ h' m' tk, h'.Ns env.locals m' -> (∀ y, y ≠ n -> m' y = m y) -> Heap.SameBut env.locals s.heap h' -> Q () { s with heap := h', toks := tk }) :
  wpAny M A (do bindName env n .none; unbindBehindTheSuite env n pos) Q E s := by
 refine wpAny_bind (wpAny_bindName (wpAny_storeName_local hl hn (fun h₁ hn₁ hs₁ => ?_) hp))
 unfold unbindBehindTheSuite
 exact wpAny_onRaise (wpAny_unbindName_local (v := .none) hl hn₁ (by simp) hp fun h₂ u hn₂ hs₂ => h h₂ _ _ hn₂ (fun y hy => by simp [hy]) (hs₁.trans hs₂))
theorem z4u {M : Model} {A : Around} {E : Value -> Shared -> Prop} {i : Nat} {x : Str} {pos : Pos} {Q : Unit -> Shared -> Prop} (I : Inv X pins σ H s) (hN : X.N.Nodup) (hi : X.N[i]? = some x) (hk : X.env.kindOf x = some .local)
  (h : ∀ s', Inv X pins (σ.set i none) H s' -> Q () s') : wpAny M A (do bindName X.env x .none; unbindBehindTheSuite X.env x pos) Q E s := by
 obtain ⟨m, hn, hl⟩ := id I.loc
 have hcls : (X.env.scope.kind == .class || (X.env.scope.kind == .module && X.env.locals != X.env.globals)) = false := by rw [I.ok.kind]; rfl
 have hiσ : i < σ.length := by rw [I.len]; exact (List.getElem?_eq_some_iff.mp hi).1
 have cne := I.cne
 refine z78 hk hn hcls fun h' m' tk hn' hm' hs => ?_
 obtain ⟨oL, _, _, hoL, _⟩ := id hn
 have tracked : HOk X.prog X.w H h' := fun b ob e => by
  refine (I.hok b ob e).stay (fun c w' hc q => (hs.2 c ?_).trans q) (fun _ q => q) fun _ _ q => q
  rintro rfl
  rcases hc with rfl | hc
  ·rw [I.free] at e; cases e
  ·rw [I.free] at hc; cases hc
 refine h _ ⟨I.ok, I.os, I.bare, ⟨fun b o e n hb hx => ?_, fun b o e n hb hx => ?_, I.base.free, fun b o e hx => ?_, I.base.tups, I.base.frzs, I.base.tbls⟩, ⟨_, hn', fun j y v' e1 e2 e3 => ?_⟩, fun y c e => ?_, I.free, I.freeC, fun p hp => ?_, tracked, by simpa using I.len⟩
 ·exact (hs.2 b (I.nolo e)).trans (I.base.keep b o e n hb hx)
 ·obtain ⟨sl, e1⟩ := I.base.slot b o e n hb hx
  exact ⟨sl, (hs.2 b (I.nolo e)).trans e1⟩
 ·obtain ⟨o', e1⟩ := I.base.there b o e hx
  exact ⟨o', (hs.2 b (I.nolo e)).trans e1⟩
 ·by_cases hj : j = i
  ·subst hj
   rw [List.getElem?_set_self hiσ] at e2
   cases e2
  ·rw [List.getElem?_set_ne (Ne.symm hj)] at e2
   obtain ⟨u', r', q⟩ := hl j y v' e1 e2 e3
   refine ⟨u', r', ?_⟩
   rcases q with ⟨k, e⟩ | ⟨k, c, e, z⟩
   ·have : y ≠ x := fun e => hj (z74 hN e1 (e ▸ hi))
    exact .inl ⟨k, by rw [hm' y this]; exact e⟩
   ·exact .inr ⟨k, c, e, z.sameBut hs (cne y c e)⟩
 ·obtain ⟨w', z⟩ := I.cell y c e
  exact ⟨w', z.sameBut hs (cne y c e)⟩
 ·obtain ⟨e, n, ne, nf, d⟩ := I.pin p hp
  exact ⟨(hs.2 p.1 ne).trans e, n, ne, nf, d⟩
end
theorem z8K {M : Model} {A : Around} {E : Value -> Shared -> Prop} {h : Heap} {g : Array GenState} {d : Drawn} {t : Nat} {os : OsState} {e C D N ND : Addr} {oe : Obj} {nm q nmD qD : Str} {bs bm bsD bmD : List Value} {hdct hdctD : Bool} {sn snD : List Str} {sub subD : List Value} {ab abD : Bool} {col colD : Option Bool} {dd ddD : Option Addr} {k0 k1 k2 k3 k5 j0 j1 j2 j3 j5 : Option Value} {newId newIdD : String} {Q : Bool -> Shared -> Prop}
  (hC : h.get? C = some (excClassObj nm q C N bs bm hdct sn sub ab col dd k0 k1 k2 k3 k5 newId)) (hD : h.get? D = some (excClassObj nmD qD D ND bsD bmD hdctD snD subD abD colD ddD j0 j1 j2 j3 j5 newIdD))
  (he : h.get? e = some oe) (hcls : oe.cls = .ref C) (hbase : bmD.contains (.type "BaseException") = true) (hcC : (Value.ref C :: bm).contains (.ref D) = true)
  (hq : Q true ⟨h, g, d, t, os⟩) : wpAny M A (excMatches (.ref e) (.ref D)) Q E ⟨h, g, d, t, os⟩ := by
 have hcB : (Value.ref D :: bmD).contains (.type "BaseException") = true := by rw [List.contains_cons, hbase, Bool.or_true]
 have f := tc_notTuple
 unfold excMatches
 repeat (first | (with_reducible refine wpAny_loadPart_at he ?_; rw [hcls]) | with_reducible refine wpAny_loadPart_at hD ?_ | (with_reducible refine wpAny_isSubtype_exc hD ?_; rw [hcB]) | (with_reducible refine wpAny_isSubtype_exc hC ?_; rw [hcC]) | wp_step)
 exact hq
def xw (X : Cx) (EX : St -> Value -> Hp -> Prop) : Value -> Shared -> Prop := fun e s' => ∃ pins σ H s, Inv X pins σ H s /\ CX1 X.prog X.w X.stack H s (fun C _ H' => EX σ C H') e s'
structure Under (K : PySem.W.Frag) (C D : Addr) : Prop where
 ex : PySem.W.excIn K C veL "ValueError.__new__" = true
 sub : PySem.W.mroIn K C (.ref D) = some true
def tTry (K : PySem.W.Frag) (i : Nat) (D : Addr) (tb : (St -> Value -> Hp -> Prop) -> TS) (ts : TS) : TS := fun Ds σ H => ∃ EX : St -> Value -> Hp -> Prop, tb EX Ds σ H /\ ∀ σ' C H', EX σ' C H' -> (∃ c, C = .ref c /\ Under K c D) /\
 ∀ a, H' a = none -> ts { nx := fun σ H => Ds.nx (σ.set i none) H, rt := Ds.rt, bk := fun σ H => Ds.bk (σ.set i none) H, ct := fun σ H => Ds.ct (σ.set i none) H } (σ'.set i (some (.ref a))) (upd H' a (ExcO a C))
theorem y3S {X : Cx} {x n : Str} {i : Nat} {D : Addr} {body suite : List Stmt} {b0 : Stmt} {np hpos pos : Pos} {tb : (St -> Value -> Hp -> Prop) -> TS} {ts : TS} (er : Err X.K X.mg x D) (hg : Gl X x) (hN : X.N.Nodup) (hi : X.N[i]? = some n)
  (hl : X.env.scope.names.lookup n = some .local) (hst : X.stack = X.env :: X.outer) (hfr : X.env.frame = some X.env.locals)
  (hb : ∀ pn EX, PSs ((X.pnd pn).wish (xw (X.pnd pn) EX)) body (tb EX)) (hs : ∀ pn e, PSs ((X.pnd pn).mark e) (b0 :: suite) ts) (hdb : (x == ("__debug__" : Str)) = false := by decide) :
  PS X (.Try body [.ExceptHandler (some (.Name x np)) (some n) (b0 :: suite) hpos] [] [] pos) (tTry X.K i D tb ts) := by
 intro pins s σ H Ds I h
 obtain ⟨EX, hb', hh⟩ := h
 refine wpAny_Try_except (wpAny_mono (hb _ EX [] s σ H Ds (I.pnd.wish _) hb') (fun f s1 q => ?_) fun e s1 q => ?_)
 ·have q' : SP X pins Ds f s1 := q.unwish.unpnd I.ok
  cases f with
  | next => exact wpAny_execs_nil q'
  | ret v => exact q'
  | brk => exact q'
  | cont => exact q'
 obtain ⟨ps, σ1, H1, s0, I1, a, C, H', B, a0, rfl, hos, hgn, un, hok, fl, st, hE⟩ := q
 obtain ⟨⟨c, rfl, hc⟩, hsu⟩ := hh σ1 C H' hE
 have hF : X.A.frames = some (X.env :: X.outer) := by rw [<- hst]; exact I.ok.frames
 have fl0 : Heap.FlyingW B (X.env :: X.outer) a (.ref c) a0 s1.heap := by rw [<- hst]; exact fl
 have hf : ∀ b ∈ frs X.stack, H' b = none := fun b hb => by
  obtain ⟨_, o, ho, _⟩ := I1.stack.mem hb
  exact un.free b o ho (I1.stkFree b hb) (fun z => nomatch z)
 have nf : ∀ b ∈ frs X.stack, ∃ o, s1.heap.get? b = some o /\ ∀ vs, o.data ≠ .fields vs := fun b hb => (fl.2.2.1.mem hb).2
 obtain ⟨oe0, vs0, he0, _, hd0, _⟩ := fl.first
 have hna : a ∉ frs X.stack := fun z => by
  obtain ⟨o, e, d⟩ := nf a z
  rw [he0] at e
  cases e
  exact d vs0 hd0
 have hBa : B.get? a = none := fl.2.1
 have hH'a : H' a = none := by
  cases e : H' a with
  | none => rfl
  | some u =>
   have := st a oe0 he0 hna (.inl (by rw [e]; exact fun z => nomatch z))
   rw [hBa] at this
   cases this
 have hs0a : ∀ o, s0.heap.get? a ≠ some o := fun o e => by
  have := st a oe0 he0 hna (.inr ⟨o, e⟩)
  rw [hBa] at this
  cases this
 refine wpAny_looks_onW hF hfr fl0 fun h4 held4 us4 => ?_
 refine wpAny_landsW held4 fun h5 fl5 us5 => ?_
 have un5 : Un (frs X.stack) [] H1 H' s0.heap h5 := st.un fl5.1 (us4.trans us5) nf un
 have ok5 : HOk X.prog X.w H' h5 := st.hok fl5.1 hf hok
 have I5 : Inv (X.pnd (X.pn ++ pins)) ps σ1 H' { s1 with heap := h5 } := I1.call' (s' := { s1 with heap := h5 }) hos un5 ok5 hgn (fun b z => nomatch z)
 have M5 := I5.mark (.ref a)
 refine wpAny_handleBy_cons (codeAny_handlers_test (z3Y (X := (X.pnd (X.pn ++ pins)).mark (.ref a)) M5 hg er.mgC ?_ hdb)) (by intro q; cases q)
 obtain ⟨bm, Ns, nm, q, bs, hdct, sn, sub, ab, col, dd, k0, k1, k2, k3, k5, mN, hC, hN', hni, T⟩ := ((⟨rfl, hc.ex⟩ : Err X.K (fun _ => some (.ref c)) x c).obj I5.kIn).obj
 obtain ⟨bmD, NsD, nmD, qD, bsD, hdctD, snD, subD, abD, colD, ddD, j0, j1, j2, j3, j5, mND, hD, hND, hniD, TD⟩ := (er.obj I5.kIn).obj
 obtain ⟨oe5, vs5, he5, hc5, hd5, _⟩ := fl5.first
 have hcD : (Value.ref c :: bm).contains (.ref D) = true := by
  obtain ⟨cd, e1, e2⟩ := Option.bind_eq_some_iff.mp hc.sub
  unfold PySem.W.clsIn at e1
  split at e1
  ·rename_i c' d' cd' sl' ho
   cases e1
   have := I5.kIn _ _ ho
   rw [hC] at this
   cases this
   split at e2
   ·cases e2
   ·exact Option.some.inj e2
  ·cases e1
 refine z8K hC hD he5 hc5 (TD.hasType PySem.F.excBase_ValueError.hasBase) hcD ?_
 refine codeAny_handlers_suite_as ?_
 refine lands_againW fl5 fun h6 fl6 us6 => ?_
 have un6' : Un (frs X.stack) [] H1 H' s0.heap h6 := st.un fl6.1 ((us4.trans us5).trans us6) nf un
 have ok6' : HOk X.prog X.w H' h6 := st.hok fl6.1 hf hok
 obtain ⟨oe6, vs6, he6, hc6, hd6, _⟩ := fl6.first
 have un6 : Un (frs X.stack) [] H1 (upd H' a (ExcO a (.ref c))) s0.heap h6 :=
  ⟨un6'.keep, un6'.slot, fun b o q n hx => by
   rw [z0b (fun z => by rw [z] at q; exact hs0a o q)]
   exact un6'.free b o q n hx, un6'.there, fun b xs q => by
   have := un6'.tups b xs q
   rw [z0b (fun z => by rw [z, hH'a] at this; cases this)]
   exact this, fun b o u q => by
   have := un6'.frzs b o u q
   rw [z0b (fun z => by rw [z, hH'a] at this; cases this)]
   exact this, fun b ps q => by
   obtain ⟨m, e⟩ := un6'.tbls b ps q
   exact ⟨m, by rw [z0b (fun z => by rw [z, hH'a] at e; cases e)]; exact e⟩⟩
 have keep : ∀ {b : Addr} {u : HO}, H' b = some u -> upd H' a (ExcO a (.ref c)) b = some u := fun {b u} e => by
  rw [z0b (fun z => by rw [z, hH'a] at e; cases e)]
  exact e
 have ok6 : HOk X.prog X.w (upd H' a (ExcO a (.ref c))) h6 := fun b o e => by
  by_cases hba : b = a
  ·subst hba
   rw [z03] at e
   cases e
   exact y3w he6 hc6 hd6
  ·rw [z0b hba] at e
   exact (ok6' b o e).stay (fun _ _ _ q => q) (fun _ q => keep q) (fun _ _ q => keep q)
 have I6 : Inv (X.pnd (X.pn ++ pins)) ps σ1 (upd H' a (ExcO a (.ref c))) { s1 with heap := h6 } := I1.call' (s' := { s1 with heap := h6 }) hos un6 ok6 hgn (fun b z => nomatch z)
 refine z72 (X := (X.pnd (X.pn ++ pins)).mark (.ref a)) (I6.mark (.ref a)) hN hi (.inl hl) (v := .ref a) rfl (fun s7 I7 => ?_) (.inr hl)
 refine wpAny_mono (hs (X.pn ++ pins) (.ref a) ps s7 _ _ _ I7 (hsu a hH'a)) (fun f s8 q => ?_) (fun _ _ z => z.elim)
 have ok1 : (X.pnd (X.pn ++ pins)).Ok := I.ok.pnd _
 cases f with
 | next =>
  obtain ⟨σ', H2, J, q⟩ := q
  exact z4u (X := X.pnd (X.pn ++ pins)) (J.unmark ok1) hN hi hl fun s9 J9 => ⟨_, _, J9.unpnd I.ok, q⟩
 | brk =>
  obtain ⟨σ', H2, J, q⟩ := q
  exact z4u (X := X.pnd (X.pn ++ pins)) (J.unmark ok1) hN hi hl fun s9 J9 => ⟨_, _, J9.unpnd I.ok, q⟩
 | cont =>
  obtain ⟨σ', H2, J, q⟩ := q
  exact z4u (X := X.pnd (X.pn ++ pins)) (J.unmark ok1) hN hi hl fun s9 J9 => ⟨_, _, J9.unpnd I.ok, q⟩
 | ret u =>
  obtain ⟨v, σ', H2, J, r, q⟩ := q
  exact z4u (X := X.pnd (X.pn ++ pins)) (J.unmark ok1) hN hi hl fun s9 J9 => ⟨v, _, _, J9.unpnd I.ok, r, q⟩
structure Thr (X : Cx) (EX : St -> XK) : Prop where
 pass : ∀ (pins : List (Addr × Obj)) (σ : St) (H : Hp) (s : Shared) (e : Value) (s' : Shared), Inv X pins σ H s -> CX1 X.prog X.w X.stack H s (EX σ) e s' -> X.xe e s'
theorem z2q {P : Program} {w : World} {K : PySem.W.Frag} {mg : Str -> Option Value} {base : Heap} {N : List Str} {qual : Str} {scope : Scope} {f : Addr} {cd : Value} {A : Around} {outer : List Env} {s0 : Shared} {H0 : Hp} {E : XK} : Thr (cxOf (CX1 P w) P w K mg base N qual scope f cd A outer s0 H0 E) (fun _ => E) := ⟨y46⟩
theorem y1x {X : Cx} {EX : St -> Value -> Hp -> Prop} : Thr (X.wish (xw X EX)) (fun σ C _ H' => EX σ C H') := ⟨fun pins σ H s e s' I h => ⟨pins, σ, H, s, I.unwish, h⟩⟩
section
variable {X : Cx} {k : Nat} {f C : Addr} {fd : FuncData} {ps : List Str} {sp : Sp} {EX : St -> XK} {x m : Str} {p pos apos : Pos} {e o : Expr} {es : List Expr} {ta : TE} {t : TA}
theorem z8C {pins : List (Addr × Obj)} {σ : St} {H : Hp} {s : Shared} {Q : VK} {us : List Value} {vs : List V} (T : Thr X EX) (F : FnOk X.prog X.w X.K X.mg X.base (CX1 X.prog X.w) k f fd ps sp) (hr : Room k X.A) (hb : z1c X.K fd ps [])
  (I : Inv X pins σ H s) (r : Vals vs us) (h : sp vs H Q (EX σ)) : wpAny (model X.prog X.w) X.A (call (.ref f) us) (EP X pins σ Q) X.xe s := by
 have hl : (us ++ []).length = ps.length := by rw [List.append_nil, <- r.length]; exact F.len _ _ _ _ h
 have r2 : Vals (vs ++ []) (us ++ []) := r.append .nil
 rw [<- List.append_nil vs] at h
 refine wpAny_call (codeAny_mono (F.run X.A X.stack s H ⟨us, []⟩ (us ++ []) (vs ++ []) Q (EX σ) hr I.env0 (hb s us I.kIn hl) r2 h) fun r s' hq => ?_)
 cases r with
 | error e => exact T.pass pins σ H s e s' I hq
 | ok fl =>
  cases fl with
  | ret u => exact I.after hq
  | next => exact False.elim hq
  | brk => exact False.elim hq
  | cont => exact False.elim hq
def y4b (sp : Sp) (EX : St -> XK) (t : TA) : TE := fun σ H Q => t σ H fun vs H1 => sp vs H1 Q (EX σ)
def y2J (C : Addr) (m : Str) (sp : Sp) (EX : St -> XK) (ta : TE) (t : TA) : TE := fun σ H Q => ta σ H fun x H1 => ∃ a dx fs, x = .ref a /\ H1 a = some (.ins C dx fs) /\ fs.lookup m = none /\
 t σ H1 fun vs H2 => sp (x :: vs) H2 Q (EX σ)
structure CalX (P : Program) (w : World) (K : PySem.W.Frag) (mg : Str -> Option Value) (base : Heap) (k : Nat) (x : Str) (ps : List Str) (sp : Sp) : Prop where
 ex : ∃ (f : Addr) (fd : FuncData), FnOk P w K mg base (CX1 P w) k f fd ps sp /\ z1c K fd ps [] /\ PySem.W.keepIn K (.ref f) = true /\ mg x = some (.ref f)
structure MCalX (P : Program) (w : World) (K : PySem.W.Frag) (mg : Str -> Option Value) (base : Heap) (k : Nat) (C : Addr) (m : Str) (ps : List Str) (sp : Sp) : Prop where
 cl : Cls K C
 ex : ∃ (f : Addr) (fd : FuncData), FnOk P w K mg base (CX1 P w) k f fd ps sp /\ z1c K fd ps [] /\ Meth K C m f
structure MkrX (P : Program) (w : World) (K : PySem.W.Frag) (mg : Str -> Option Value) (base : Heap) (k : Nat) (C : Addr) (x : Str) (ps : List Str) (sp : Sp) : Prop where
 ex : ∃ (f : Addr) (fd : FuncData), FnOk P w K mg base (CX1 P w) k f fd ps sp /\ z1c K fd ps [] /\ Mk K C f /\ mg x = some (.ref C)
theorem z8N (T : Thr X EX) (G : CalX X.prog X.w X.K X.mg X.base k x ps sp) (hr : Room k X.A) (hg : Gl X x) (ha : PA X (e :: es) t)
  (hdb : (x == ("__debug__" : Str)) = false := by decide) (he : starEach (e :: es) X.env = (false, eval e X.env) :: starEach es X.env := by rfl) (hpl : (backTo pos (starEach es X.env)).any (·.1) = false := by rfl) :
  PE X (.Call (.Name x p) (e :: es) [] pos) (y4b sp EX t) := by
 obtain ⟨f, fd, F, hb, hk, hm⟩ := G.ex
 intro pins s σ H Q I h
 refine wpAny_Call_Name_kw (z3Y I hg hm ?_ hdb)
 refine PySem.W.callWith_K (h₀ := X.base) I.ok.mod.kin hk (thn (ha pos pins s σ H _ I h) fun us s1 ⟨vs, H1, I1, r, q⟩ => ⟨I1.kIn, ?_⟩) he hpl
 exact z8C T F hr hb I1 r q
theorem z2Z {pl : Sem Bool} (T : Thr X EX) (G : MCalX X.prog X.w X.K X.mg X.base k C m ps sp) (hr : Room k X.A) (he : PE X o ta) (ha : PA X (e :: es) t)
  (hst : starEach (e :: es) X.env = (false, eval e X.env) :: starEach es X.env := by rfl) (hpl : (backTo pos (starEach es X.env)).any (·.1) = false := by rfl)
  (ht : eval (.Call (.Attribute o m apos) (e :: es) [] pos) X.env = (do
   let ov <- eval o X.env
   standAt apos.atName
   let (f, first) <- holding [ov] (getMethod ov m pl)
   callWith pos f first (backTo pos (starEach (e :: es) X.env)) (backToKw pos (keywordEach [] X.env))) := by rfl) :
  PE X (.Call (.Attribute o m apos) (e :: es) [] pos) (y2J C m sp EX ta t) := by
 obtain ⟨f, fd, F, hb, hm⟩ := G.ex
 intro pins s σ H Q I h
 refine PySem.W.methodCall_KW (pl := pl) (thn (he pins s σ H _ I h) fun u s1 hz => ?_) ht
 obtain ⟨x, H1, I1, rx, a, dx, fs, ex, ea, l, q⟩ := hz
 subst ex
 obtain rfl : u = Value.ref a := rx
 refine z2I I1 ea G.cl hm l ?_
 refine PySem.W.callWith_K (first := [.ref a]) (h₀ := X.base) I.ok.mod.kin hm.kp (thn (ha pos pins s1 σ H1 _ I1 q) fun us s2 ⟨vs, H2, I2, r, q2⟩ => ⟨I2.kIn, ?_⟩) hst hpl
 exact z8C (us := .ref a :: us) (vs := .ref a :: vs) T F hr hb I2 (.cons rfl r) q2
theorem z87 {pl : Sem Bool} (T : Thr X EX) (G : MCalX X.prog X.w X.K X.mg X.base k C m ps sp) (hr : Room k X.A) (he : PE X o ta)
  (ht : eval (.Call (.Attribute o m apos) [] [] pos) X.env = (do
   let ov <- eval o X.env
   standAt apos.atName
   let (f, first) <- holding [ov] (getMethod ov m pl)
   callWith pos f first (backTo pos (starEach [] X.env)) (backToKw pos (keywordEach [] X.env))) := by rfl) :
  PE X (.Call (.Attribute o m apos) [] [] pos) (y2J C m sp EX ta tNil) := by
 obtain ⟨f, fd, F, hb, hm⟩ := G.ex
 intro pins s σ H Q I h
 refine PySem.W.methodCall_KW (pl := pl) (thn (he pins s σ H _ I h) fun u s1 hz => ?_) ht
 obtain ⟨x, H1, I1, rx, a, dx, fs, ex, ea, l, q⟩ := hz
 subst ex
 obtain rfl : u = Value.ref a := rx
 refine z2I I1 ea G.cl hm l ?_
 exact PySem.W.callWith_K0 (first := [.ref a]) I1.kIn hm.kp (z8C (us := [.ref a]) (vs := [.ref a]) T F hr hb I1 (.cons rfl .nil) q)
end
section
variable {P : Program} {w : World} {K : PySem.W.Frag} {mg : Str -> Option Value} {base : Heap}
theorem FnOk.toX {k : Nat} {f : Addr} {fd : FuncData} {ps : List Str} {sp : Sp} (F : FnOk P w K mg base CX0 k f fd ps sp) : FnOk P w K mg base (CX1 P w) k f fd ps sp :=
 ⟨F.len, fun A outer s H args us vs Q E hr he hb hv hs => codeAny_mono (F.run A outer s H args us vs Q E hr he hb hv hs) fun r s' q => by
  cases r with
  | error e => exact False.elim q
  | ok fl => cases fl <;> exact q⟩
theorem Fun.okX {x qual : Str} {st : Stmt} {f : Addr} {fd : FuncData} {N ps : List Str} {k : Nat} {sp : Sp} (F : Fun K x qual st f fd) (S : FnScope N ps (z09 st)) (len : ∀ vs H Q E, sp vs H Q E -> vs.length = ps.length)
  (hbody : ∀ (cdv : Value) (A : Around) (outer : List Env) (s : Shared) (H : Hp) (vs : List V) (Q : VK) (E : XK), Room k (A.deeper (envOfC qual (z09 st) s.heap.objs.size f cdv)) -> sp vs H Q E ->
   ∃ t, PSs (cxOf (CX1 P w) P w K mg base N qual (z09 st) f cdv A outer s H E) (z18 st) t /\ t { nx := fun _ H' => Q .non H', rt := Q } (z4l N vs) H) : FnOk P w K mg base (CX1 P w) (k + 1) f fd ps sp := by
 obtain ⟨oc, od, kV, doc, pm, an, cdv, ct, osl, rfl, lk, hcd⟩ := F.ex
 exact y3x lk hcd S len fun A outer s H vs Q E hr hsp => hbody cdv A outer s H vs Q E hr hsp
theorem calFX (P : Program) (w : World) (K : PySem.W.Frag) (mg : Str -> Option Value) (base : Heap) {k : Nat} {x : Str} {ps : List Str} {sp : Sp} {st : Stmt} {f : Addr} {fd : FuncData} (F : Fun K x x st f fd /\ mg x = some (.ref f)) (a : FnOk P w K mg base (CX1 P w) k f fd ps sp) (b : z1c K fd ps []) : CalX P w K mg base k x ps sp := ⟨f, fd, a, b, F.1.kp, F.2⟩
theorem mclFX (P : Program) (w : World) (K : PySem.W.Frag) (mg : Str -> Option Value) (base : Heap) {k : Nat} {C : Addr} {x q : Str} {ps : List Str} {sp : Sp} {st : Stmt} {f : Addr} {fd : FuncData} (c : Cls K C) (F : Fun K x q st f fd /\ Meth K C x f) (a : FnOk P w K mg base (CX1 P w) k f fd ps sp) (b : z1c K fd ps []) : MCalX P w K mg base k C x ps sp := ⟨c, f, fd, a, b, F.2⟩
theorem mkrFX (P : Program) (w : World) (K : PySem.W.Frag) (mg : Str -> Option Value) (base : Heap) {k : Nat} {C : Addr} {x y q : Str} {ps : List Str} {sp : Sp} {st : Stmt} {f : Addr} {fd : FuncData} (c : mg x = some (.ref C)) (F : Fun K y q st f fd /\ Mk K C f) (a : FnOk P w K mg base (CX1 P w) k f fd ps sp) (b : z1c K fd ps []) : MkrX P w K mg base k C x ps sp := ⟨f, fd, a, b, F.2, c⟩
theorem CalX.up {j k : Nat} {x : Str} {ps : List Str} {sp : Sp} (G : CalX P w K mg base j x ps sp) (h : j ≤ k := by decide) : CalX P w K mg base k x ps sp := let ⟨f, fd, a, b, c⟩ := G.ex; ⟨f, fd, a.mono h, b, c⟩
theorem MCalX.up {j k : Nat} {C : Addr} {x : Str} {ps : List Str} {sp : Sp} (G : MCalX P w K mg base j C x ps sp) (h : j ≤ k := by decide) : MCalX P w K mg base k C x ps sp := let ⟨f, fd, a, b, c⟩ := G.ex; ⟨G.cl, f, fd, a.mono h, b, c⟩
end
end L2
namespace L2
open PySem PySem.Spec PyProof.Rows PySem.W PySem.Calls PySem.Builtin PySem.Builtin.ObjectAttr PySem.Builtin.Getset_descriptor
section
variable {prog : Program} {w : World} {A : Around} {E : Value -> Shared -> Prop} {s : Shared} {K : Frag} {a C : Addr} {o : Obj}
theorem y3U {R : Result -> Shared -> Prop} {tp : Value} (X : K.In s.heap) (hx : s.heap.get? a = some o) (hc : o.cls = .ref C) (hm : mroIn K C (.type "object") = some true)
  (h : R (.ok (.ret (.ref C))) s) : codeAny (model prog w) A (.call (.builtin "getset_descriptor.__get__") ⟨[.builtin "object.__class__", .ref a, tp], []⟩) R s := by
 obtain ⟨hh, g, dr, t, os⟩ := s
 have L0 : Looks (model prog w) hh (typeOf (.ref a)) (.ref C) := hc ▸ (Looks.ld hx).andThen .now
 have L1 := looks_mroIn (M := model prog w) X hm
 refine codeAny_call_builtin KF.slot_gs.plain KF.entry_gs (KF.slot_gs.check _ _ _ _ _ _ _ _ KF.type_class (KF.args_gs _ _ _) ?_)
 unfold Builtin.«getset_descriptor.__get__» descrGet
 rw [dga_obj]
 refine wpAny_bind (wpAny_pure ?_)
 unfold descrGetter descrCheckInstance descrNameAndClass isInstance
 simp only [KF.owner_class]
 repeat lk
 refine ⟨Code.quiet_builtin _ (by decide +kernel), codeAny_builtin KF.entry_class ?_⟩
 unfold Builtin.«object.__class__» shownTypeOf
 repeat lk
 exact h
theorem y2q {tk : Tok} {Q : Fin -> Shared -> Prop} (X : K.In s.heap) (hx : s.heap.get? a = some o) (hc : o.cls = .ref C) (ha : findIn K (.ref C) "__class__" = some (some (.builtin "object.__class__")))
  (hm : mroIn K C (.type "object") = some true) (hq : Q (.done (.ret (.ref C))) s) :
  wpAny (model prog w) A (Builtin.«object.__getattribute__» ⟨[.ref a, .str "__class__" tk], []⟩) Q E s := by
 obtain ⟨hh, g, dr, t, os⟩ := s
 have L0 : Looks (model prog w) hh (typeOf (.ref a)) (.ref C) := hc ▸ (Looks.ld hx).andThen .now
 have L3 := looks_findIn (M := model prog w) X ha
 have hT5 : (⟨hh, g, dr, t, os⟩ : Shared).TypeIs (.builtin "object.__class__") "getset_descriptor" := F.typeOf_object_class
 have f5 := F.typeOf_object_class
 have f6 := F.slot_gs_get.lookup
 have f7 := F.slot_gs_set.lookup
 repeat (any_goals (first | assumption | (with_reducible refine wpAny_loadPart_at hx ?_; rw [hc]) | with_reducible refine L3.at ?_ | wp_step))
 refine y3U X hx hc hm ?_
 repeat (any_goals (first | assumption | wp_step))
theorem y1G {M : Model} {nameV : Value} {Q : Unit -> Shared -> Prop} (X : K.In s.heap) (hx : s.heap.get? a = some o) (hc : o.cls = .ref C) (hb : mroIn K C (.type "BaseException") = some true) (hq : Q () s) :
  wpAny M A (checkBuiltinCall "BaseException.__getattribute__" ⟨[.ref a, nameV], []⟩) Q E s := by
 obtain ⟨hh, g, dr, t, os⟩ := s
 have L1 := looks_mroIn (M := M) X hb
 have hk : builtinKind "BaseException.__getattribute__" = some .slot := by decide +kernel
 have hsplit : splitId "BaseException.__getattribute__" = some ("BaseException", "__getattribute__") := by decide +kernel
 have ha := F.args_bexc_ga (.ref a) nameV
 simp only [checkBuiltinCall, hk, hsplit]
 refine wpAny_bind ?_
 ·unfold isInstance
  repeat (first | (with_reducible refine wpAny_loadPart_at hx ?_; rw [hc]) | with_reducible refine L1.at ?_ | wp_step)
  exact hq
theorem xc_by {tk : Tok} {fill expr : Bool} {Q : Value -> Shared -> Prop} (X : K.In s.heap) (hx : s.heap.get? a = some o) (hc : o.cls = .ref C) (ha : findIn K (.ref C) "__class__" = some (some (.builtin "object.__class__")))
  (hga : findIn K (.ref C) "__getattribute__" = some (some (.builtin "BaseException.__getattribute__"))) (hgn : findIn K (.ref C) "__getattr__" = some none)
  (hm : mroIn K C (.type "object") = some true) (hb : mroIn K C (.type "BaseException") = some true) (hq : Q (.ref C) s) :
  wpAny (model prog w) A (getAttrBy (.ref a) (.str "__class__" tk) fill expr) Q E s := by
 obtain ⟨hh, g, dr, t, os⟩ := s
 have L1 := looks_findIn (M := model prog w) X hga
 have L2 := looks_findIn (M := model prog w) X hgn
 have f3 := F.excAttr_ValueError.ga.bind (.ref a)
 have hx0 : (expr && onTheHeap (Value.builtin "BaseException.__getattribute__")) = false := by cases expr <;> rfl
 have hx2 : (Value.builtin "BaseException.__getattribute__" == Value.builtin "object.__getattribute__") = false := by decide +kernel
 have hx1 : (onTheHeap (Value.ref C) && Value.builtin "BaseException.__getattribute__" == Value.builtin "object.__getattribute__") = false := by rw [hx2]; rfl
 repeat (any_goals (first | assumption | (with_reducible refine wpAny_loadPart_at hx ?_; rw [hc]) | with_reducible refine L1.at ?_ | with_reducible refine L2.at ?_ | wp_step))
 refine codeAny_call_builtin F.excAttr_ValueError.ga.plain F.entry_bexc_ga (y1G X hx hc hb (y2q X hx hc ha hm ?_))
 repeat (any_goals (first | assumption | wp_step))
theorem y3s {Q : Option Value -> Shared -> Prop} (X : K.In s.heap) (hx : s.heap.get? a = some o) (hc : o.cls = .ref C) (ha : findIn K (.ref C) "__class__" = some (some (.builtin "object.__class__")))
  (hga : findIn K (.ref C) "__getattribute__" = some (some (.builtin "BaseException.__getattribute__"))) (hgn : findIn K (.ref C) "__getattr__" = some none)
  (hm : mroIn K C (.type "object") = some true) (hb : mroIn K C (.type "BaseException") = some true) (hq : Q (some (.ref C)) { s with toks := s.toks + 1 }) :
  wpAny (model prog w) A (getAttr? (.ref a) "__class__") Q E s := by
 obtain ⟨hh, g, dr, t, os⟩ := s
 unfold getAttr? getAttrBy?
 refine wpAny_bind (wpAny_mkText (wpAny_bind (wpAny_attempt (xc_by (s := ⟨hh, g, dr, t + 1, os⟩) X hx hc ha hga hgn hm hb ?_))))
 exact wpAny_pure hq
end
def y2K (K : Frag) (B c : Addr) : Bool := excIn K c veL "ValueError.__new__" && (mroIn K c (.ref B) == some true) && (mroIn K c (.type "object") == some true) && (mroIn K c (.type "BaseException") == some true) && (findIn K (.ref c) "__class__" == some (some (.builtin "object.__class__"))) &&
 (findIn K (.ref c) "__getattribute__" == some (some (.builtin "BaseException.__getattribute__"))) && (findIn K (.ref c) "__getattr__" == some none) && (kitOne K (.ref c) (.type "ValueError") == some true) && (clsIn K c).isSome
def z7N (K : Frag) (B : Addr) (cs : List Addr) : Bool := cs.all (y2K K B) && cs.all (fun c => cs.all fun d => kitOne K (.ref c) (.ref d) == some (c == d)) && decide cs.Nodup
structure XCls (K : Frag) (C : Addr) : Prop where
 ha : findIn K (.ref C) "__class__" = some (some (.builtin "object.__class__"))
 hga : findIn K (.ref C) "__getattribute__" = some (some (.builtin "BaseException.__getattribute__"))
 hgn : findIn K (.ref C) "__getattr__" = some none
 hm : mroIn K C (.type "object") = some true
 hb : mroIn K C (.type "BaseException") = some true
 hv : kitOne K (.ref C) (.type "ValueError") = some true
 cl : (clsIn K C).isSome = true
structure Errs (K : Frag) (B : Addr) (cs : List Addr) : Prop where
 chk : z7N K B cs = true
theorem Errs.one {K : Frag} {B : Addr} {cs : List Addr} (E : Errs K B cs) {c : Addr} (h : c ∈ cs) : Under K c B /\ XCls K c := by
 have q := E.chk
 unfold z7N at q
 rw [Bool.and_eq_true, Bool.and_eq_true] at q
 have := List.all_eq_true.mp q.1.1 c h
 unfold y2K at this
 simp only [Bool.and_eq_true, beq_iff_eq] at this
 obtain ⟨⟨⟨⟨⟨⟨⟨⟨h1, h2⟩, h3⟩, h4⟩, h5⟩, h6⟩, h7⟩, h8⟩, h9⟩ := this
 exact ⟨⟨h1, h2⟩, h5, h6, h7, h3, h4, h8, h9⟩
theorem Errs.two {K : Frag} {B : Addr} {cs : List Addr} (E : Errs K B cs) {c d : Addr} (h : c ∈ cs) (h' : d ∈ cs) : kitOne K (.ref c) (.ref d) = some (c == d) := by
 have q := E.chk
 unfold z7N at q
 rw [Bool.and_eq_true, Bool.and_eq_true] at q
 exact beq_iff_eq.mp (List.all_eq_true.mp (List.all_eq_true.mp q.1.2 c h) d h')
theorem Errs.nd {K : Frag} {B : Addr} {cs : List Addr} (E : Errs K B cs) : cs.Nodup := by
 have q := E.chk
 unfold z7N at q
 rw [Bool.and_eq_true] at q
 exact of_decide_eq_true q.2
theorem z8U {K : Frag} {a D : Addr} (x : XCls K D) : KitX K (.ref a) (.ref D) (fun h => ∃ o vs, h.get? a = some o /\ o.cls = .ref D /\ o.data = .fields vs) where
 ty := fun M h _ ⟨o, vs, e, c, _⟩ => c ▸ (Looks.ld e).andThen .now
 it := fun _ _ X _ => by
  have hcD := x.cl
  unfold clsIn at hcD
  split at hcD
  ·rename_i c' d' cd' sl' ho
   intro A' Q' E' s' k q
   unfold isType loadHead
   exact wpAny_bind (wpAny_loadPart (k _ _ (X _ _ ho)) (wpAny_pure q))
  ·cases hcD
 ne := fun h tp dd its n sl X htp => by
  have hcD := x.cl
  refine Bool.eq_false_iff.mpr fun q => ?_
  have e : D = tp := Value.ref.inj (beq_iff_eq.mp q)
  subst e
  unfold clsIn at hcD
  split at hcD
  ·rename_i c' d' cd' sl' ho
   have z := (X _ _ ho).symm.trans htp
   cases z
  ·cases hcD
 ca := fun X ⟨o, vs, e, c, _⟩ k => y3s X e c x.ha x.hga x.hgn x.hm x.hb k
section
variable {X : Cx}
theorem z1t {K : Frag} (hK : X.K = K) : z33 X (.builtin "isinstance") (fun xs H Q => ∃ a C D b, xs = [.ref a, .ref D] /\ H a = some (ExcO a (.ref C)) /\ XCls K C /\ kitOne K (.ref C) (.ref D) = some b /\ Q (.bl b) H) := by
 subst hK
 intro pins s σ H xs us Q I r h
 obtain ⟨a, C, D, b, rfl, ea, xc, e, q⟩ := h
 obtain ⟨u, w', rfl, rx, ry⟩ := z9P r
 cases (show u = Value.ref a from rx)
 cases (show w' = Value.ref D from ry)
 have ok : z16 X.prog X.w H s.heap a (ExcO a (.ref C)) := I.hok a _ ea
 exact kia_one (z8U xc) I.kIn ok.1 e (fun z => nomatch z) fun tk => ⟨.bl b, H, I.tok _, rfl, q⟩
theorem y1i {K : Frag} (hK : X.K = K) : z33 X (.builtin "isinstance") (fun xs H Q => ∃ a C T b, xs = [.ref a, .ty T] /\ H a = some (ExcO a (.ref C)) /\ XCls K C /\ kitOne K (.ref C) (.type T) = some b /\ Q (.bl b) H) := by
 subst hK
 intro pins s σ H xs us Q I r h
 obtain ⟨a, C, T, b, rfl, ea, xc, e, q⟩ := h
 obtain ⟨u, w', rfl, rx, ry⟩ := z9P r
 cases (show u = Value.ref a from rx)
 cases (show w' = Value.type T from ry)
 have ok : z16 X.prog X.w H s.heap a (ExcO a (.ref C)) := I.hok a _ ea
 exact kia_one (z8U xc) I.kIn ok.1 e (fun z => nomatch z) fun tk => ⟨.bl b, H, I.tok _, rfl, q⟩
theorem z38 {x : Str} {C : Addr} {pos : Pos} (hg : Gl X x) (hm : X.mg x = some (.ref C)) (hdb : (x == ("__debug__" : Str)) = false := by decide) : PE X (.Name x pos) (fun _ H Q => Q (.ref C) H) := fun pins s σ H Q I h =>
 z3Y I hg hm ⟨.ref C, H, I, rfl, h⟩ hdb
end
end L2
namespace L2
open PySem PySem.Spec PyProof.Rows
section
variable {X : Cx}
def y3y (K : PySem.W.Frag) : V -> List V -> Hp -> VK -> Prop := fun x vs H Q => ∃ (l : Addr) (zs : List V) (z : V) (j : Nat), x = .ref l /\ vs = [z] /\ SqL K H l zs /\ z1j z = true /\ zs.all z1j = true /\ j < zs.length /\ eqV (zs.getD j .non) z = true /\ (∀ m, m < j -> eqV (zs.getD m .non) z = false) /\ Q (.int (j : Nat)) H
theorem y12 : MtM X "list.index" (y3y X.K) := by
 intro pins s σ H x vs v us Q I rx rv h
 obtain ⟨l, zs, z, j, rfl, rfl, hL, fz, fzs, hj, ej, hno, q⟩ := h
 cases rx
 obtain ⟨u, rfl, ru⟩ := rv.one
 obtain ⟨its, r, pl, hz⟩ := I.list hL
 have lr := r.length
 have line := sizeLine_eq
 have at_ : ∀ (m : Nat) (hm : m < its.toArray.size), eqU z its.toArray[m] = eqV (zs.getD m .non) z := fun m hm => by
  have hm' : m < its.length := by rw [List.size_toArray] at hm; exact hm
  obtain ⟨q1, q2⟩ := z7t r fzs m hm'
  rw [List.getElem_toArray]
  exact z7E q1 q2
 obtain ⟨⟨cls, dd, data, sl⟩, ho, hc, n, hd⟩ := id pl.isList
 simp only at hc hd
 subst hc hd
 have hjs : j < its.toArray.size := by rw [List.size_toArray]; omega
 refine call_meets F.slot_list_index ⟨_, ho, rfl⟩ F.entry_list_index (F.args_list_index_2 _ _)
  (SeqAt.list_indexAt l its.toArray n dd sl u (eqU z) j hjs (by omega) (by rw [at_ j hjs]; exact ej) (fun m hm hlt => by rw [at_ m hm]; exact hno m hlt))
  ⟨ho, fun w hw => z2O ru fz r fzs w (by simpa using hw), ?_⟩
 exact ⟨.int j, H, I.tok _, ⟨_, rfl⟩, q⟩
def y0g (K : PySem.W.Frag) : V -> List V -> Hp -> VK -> Prop := fun x vs H Q => ∃ (l : Addr) (zs : List V) (z : V), x = .ref l /\ vs = [z] /\ SqL K H l zs /\ z1j z = true /\ zs.all z1j = true /\ Q (.int (zs.countP fun y => eqV y z : Nat)) H
theorem z9k {z : V} : ∀ {zs : List V} {us : List Value}, Vals zs us -> zs.all z1j = true -> us.countP (eqU z) = zs.countP fun y => eqV y z
 | _, _, .nil, _ => rfl
 | x :: xs, u :: us, .cons r t, f => by
  rw [List.all_cons, Bool.and_eq_true] at f
  rw [List.countP_cons, List.countP_cons, z9k t f.2, z7E r f.1]
theorem z7V : MtM X "list.count" (y0g X.K) := by
 intro pins s σ H x vs v us Q I rx rv h
 obtain ⟨l, zs, z, rfl, rfl, hL, fz, fzs, q⟩ := h
 cases rx
 obtain ⟨u, rfl, ru⟩ := rv.one
 obtain ⟨its, r, pl, hz⟩ := I.list hL
 obtain ⟨⟨cls, dd, data, sl⟩, ho, hc, n, hd⟩ := id pl.isList
 simp only at hc hd
 subst hc hd
 refine call_meets F.slot_list_count ⟨_, ho, rfl⟩ F.entry_list_count (F.args_list_count_2 _ _) (SeqAt.list_countAt l its.toArray n dd sl u (eqU z)) ⟨ho, fun w hw => z2O ru fz r fzs w (by simpa using hw), ?_⟩
 refine ⟨.int (zs.countP fun y => eqV y z : Nat), H, I.tok _, ?_, q⟩
 rw [<- z9k r fzs]
 exact ⟨_, rfl⟩
end
theorem y33 : bootBuiltins "ValueError" = some (.type "ValueError") := by first | rfl | kernel_rfl
def spOr (a b : Sp) : Sp := fun vs H Q E => a vs H Q E \/ b vs H Q E
theorem FnOk.or {P : Program} {w : World} {K : PySem.W.Frag} {mg : Str -> Option Value} {base : Heap} {CX : CXT} {k : Nat} {f : Addr} {fd : FuncData} {ps : List Str} {a b : Sp} (F : FnOk P w K mg base CX k f fd ps a) (G : FnOk P w K mg base CX k f fd ps b) : FnOk P w K mg base CX k f fd ps (spOr a b) :=
 ⟨fun vs H Q E h => h.elim (F.len vs H Q E) (G.len vs H Q E), fun A outer s H args us vs Q E hr he hb hv h => h.elim (F.run A outer s H args us vs Q E hr he hb hv) (G.run A outer s H args us vs Q E hr he hb hv)⟩
theorem y3Z {X : Cx} {K : PySem.W.Frag} {o e : Expr} {es : List Expr} {to : TE} {t : TA} {name : Str} {apos cpos : Pos} {T id : String} {r : V -> List V -> Hp -> VK -> Prop} (hK : X.K = K) (pa : PlainAttrs T) (slot : Slot T name id) (hty : typeOf (.builtin id) = pure (.type "method_descriptor")) (hm : MtR X id r) (ho : PE X o to) (ha : PA X (e :: es) t)
  (hbase : attributeBase o name X.env (eval o X.env) = eval o X.env := by rfl)
  (hfew : ((backTo cpos (starEach (e :: es) X.env)).all (fun x => !x.1) && (backToKw cpos (keywordEach [] X.env)).all (fun x => x.1.isSome)
   && decide ((e :: es).length + ([] : List Keyword).length + (if ([] : List Keyword).isEmpty then 0 else 1) < 30)) = true := by rfl)
  (hline : (apos.endLine == cpos.line) = true := by rfl) (hs : starEach (e :: es) X.env = (false, eval e X.env) :: starEach es X.env := by rfl) (hplain : (backTo cpos (starEach es X.env)).any (·.1) = false := by rfl) :
  PE X (.Call (.Attribute o name apos) (e :: es) [] cpos) (tBM K T r to t) := by
 subst hK
 exact z2l pa slot hty hm ho ha hbase hfew hline hs hplain
theorem z9D {X : Cx} {K : PySem.W.Frag} (hK : X.K = K) : MtM X "list.count" (y0g K) := by
 subst hK
 exact z7V
def y29 (B : Heap) (l : List Env) (a : Addr) (C a0 : Value) (L : Addr) (h : Heap) : Prop := Heap.FlyingW B l a C a0 h \/ Heap.HeldW B l a C a0 L h
theorem y29.stays {B h : Heap} {l : List Env} {a L : Addr} {C a0 : Value} (x : y29 B l a C a0 L h) : B.StaysIn h /\ B.get? a = none /\ h.FunFrames B l := x.elim (fun y => ⟨y.1, y.2.1, y.2.2.1⟩) fun y => ⟨y.1, y.2.1, y.2.2.1⟩
def xh (X : Cx) (EX : St -> Value -> Hp -> Prop) : Value -> Shared -> Prop := fun e s' => ∃ (pins : List (Addr × Obj)) (σ : St) (H : Hp) (s : Shared), Inv X pins σ H s /\ ∃ (a : Addr) (C : Value) (H' : Hp) (B : Heap) (a0 : Value), e = .ref a /\ s'.os = s.os /\ AllBare s'.gens /\ Un (frs X.stack) [] H H' s.heap s'.heap /\ HOk X.prog X.w H' s'.heap /\
 y29 B X.stack a C a0 X.env.locals s'.heap /\ Stay (frs X.stack) s.heap s'.heap H' B /\ EX σ C H'
theorem xh_of {X : Cx} {EX : St -> Value -> Hp -> Prop} {e : Value} {s' : Shared} (h : xw X EX e s') : xh X EX e s' := by
 obtain ⟨pins, σ, H, s, I, a, C, H', B, a0, h1, h2, h3, h4, h5, h6, h7, h8⟩ := h
 exact ⟨pins, σ, H, s, I, a, C, H', B, a0, h1, h2, h3, h4, h5, .inl h6, h7, h8⟩
theorem y3l {X : Cx} {EX : St -> Value -> Hp -> Prop} {pins : List (Addr × Obj)} {σ : St} {H H' : Hp} {s s' : Shared} {a : Addr} {C a0 : Value} {B h2 : Heap} (I : Inv X pins σ H s) (hos : s'.os = s.os) (hg : AllBare s'.gens) (un : Un (frs X.stack) [] H H' s.heap s'.heap) (hok : HOk X.prog X.w H' s'.heap)
  (fl : s'.heap.FunFrames B X.stack) (st : Stay (frs X.stack) s.heap s'.heap H' B) (hE : EX σ C H') (us : s'.heap.UpToSlots h2) (fl2 : y29 B X.stack a C a0 X.env.locals h2) : xh X EX (.ref a) { s' with heap := h2 } := by
 have hf : ∀ b ∈ frs X.stack, H' b = none := fun b hb => by
  obtain ⟨_, o, ho, _⟩ := I.stack.mem hb
  exact un.free b o ho (I.stkFree b hb) (fun z => nomatch z)
 have nf : ∀ b ∈ frs X.stack, ∃ o, s'.heap.get? b = some o /\ ∀ vs, o.data ≠ .fields vs := fun b hb => (fl.mem hb).2
 have k := fl2.stays.1
 exact ⟨pins, σ, H, s, I, a, C, H', B, a0, rfl, hos, hg, st.un k us nf un, st.hok k hf hok, fl2, st.next k hok hf (fun b o q => un.there b o q (fun z => nomatch z)), hE⟩
theorem y1u {X : Cx} {EX : St -> Value -> Hp -> Prop} (hst : X.stack = X.env :: X.outer) (hfr : X.env.frame = some X.env.locals) : PassesOwn (model X.prog X.w) X.A X.env (xh X EX) := by
 intro e s' h
 obtain ⟨pins, σ, H, s, I, a, C, H', B, a0, rfl, hos, hg, un, hok, fl, st, hE⟩ := h
 have hF : X.A.frames = some (X.env :: X.outer) := by rw [<- hst]; exact I.ok.frames
 have back : ∀ {h2 : Heap}, s'.heap.UpToSlots h2 -> Heap.HeldW B X.stack a C a0 X.env.locals h2 -> cameBackBy (model X.prog X.w) X.A X.env (xh X EX) (.ref a) { s' with heap := h2 } := by
  intro h2 us hh
  obtain ⟨f1, f2, f3, oe, vs, T, oT, ts, he, hcls, hd, h1, hnT, hTe, hT, hdT, h3⟩ := hh
  have hsz3 : 3 < ts.size := (Array.getElem?_eq_some_iff.mp h3).1
  unfold cameBackBy
  refine wpAny_bind (wpAny_field he hd h1 ?_)
  rw [if_neg (show ¬ ((Value.ref T == Value.none) = true) from by simp)]
  first | refine wpAny_bind (wpAny_pure ?_) | skip
  unfold setFlight
  refine wpAny_bind (wpAny_field he hd h1 ?_)
  rw [if_pos (show (Value.ref T != Value.none) = true from by simp)]
  rw [hfr]
  have other : ∀ b, b ≠ T -> (h2.update T (Obj.mapFields (·.setIfInBounds 3 ((some X.env.locals : Option Addr).elim Value.none fun f => rawInt f)))).get? b = h2.get? b := fun b hb => Heap.get?_update_other _ _ (Ne.symm hb)
  have noRecord : ∀ b o, h2.get? b = some o -> (∀ vs, o.data ≠ .fields vs) -> b ≠ T := fun b o hb hnf q => by
   rw [q, hT] at hb; injection hb with hb; subst hb; exact hnf ts hdT
  refine wpAny_setField hT hdT hsz3 ?_
  refine y3l (s' := s') (a0 := a0) I hos hg un hok fl.stays.2.2 st hE (us.trans fun b o hb hnf => ⟨o.slots, (other b (noRecord b o hb hnf)).trans hb⟩) (.inr ⟨fun b o hbo => (other b fun q => by rw [q, hnT] at hbo; cases hbo).trans (f1 b o hbo), f2, f3.of_keeps fun b o hb hnf => ⟨o, (other b (noRecord b o hb hnf)).trans hb, rfl⟩, ?_⟩)
  exact ⟨oe, vs, T, _, _, (other a (Ne.symm hTe)).trans he, hcls, hd, h1, hnT, hTe, Heap.get?_update_self _ hT (Obj.isFreed_of_fields (Obj.data_mapFields hdT _)), Obj.data_mapFields hdT _, by simp [hsz3]⟩
 unfold notedBy
 rcases fl with fl | fl
 ·have fl0 : Heap.FlyingW B (X.env :: X.outer) a C a0 s'.heap := by rw [<- hst]; exact fl
  refine wpAny_looks_onW hF hfr fl0 fun h4 held us => back us ?_
  rw [hst]
  exact held
 ·refine wpAny_noteFrame_againW hfr fl.2.2.2 ?_
  exact back (Heap.UpToSlots.refl _) fl
theorem PS.imp {X : Cx} {E1 : Value -> Shared -> Prop} {st : Stmt} {t : TS} (h : PS (X.wish E1) st t) (hi : ∀ e s', E1 e s' -> X.xe e s') : PS X st t := fun pins s σ H D I hw =>
 wpAny_mono (h pins s σ H D (I.wish _) hw) (fun _ _ q => q.unwish) hi
section
variable {P : Program} {w : World} {K : PySem.W.Frag} {mg : Str -> Option Value} {base : Heap} {N : List Str} {qual : Str} {scope : Scope} {f : Addr} {cd : Value} {A : Around} {outer : List Env} {s0 : Shared} {H0 : Hp} {E : XK}
theorem y09 {e : Value} {s' : Shared} (h : xh (cxOf (CX1 P w) P w K mg base N qual scope f cd A outer s0 H0 E) (fun _ C H' => E C none H') e s') : (cxOf (CX1 P w) P w K mg base N qual scope f cd A outer s0 H0 E).xe e s' := by
 obtain ⟨pins, σ, H, s, I, a, C, H', B, a0, rfl, hos, hg, un, hok, fl, st, hE⟩ := h
 rcases fl with fl | fl
 ·exact y46 pins σ H s (.ref a) s' I ⟨a, C, H', B, a0, rfl, hos, hg, un, hok, fl, st, hE⟩
 have hf : ∀ b ∈ frs (envOfC qual scope s0.heap.objs.size f cd :: outer), H' b = none := fun b hb => by
  obtain ⟨_, o, ho, _⟩ := I.stack.mem hb
  exact un.free b o ho (I.stkFree b hb) (fun z => nomatch z)
 have nf : ∀ b ∈ frs (envOfC qual scope s0.heap.objs.size f cd :: outer), ∃ o, s'.heap.get? b = some o /\ ∀ vs, o.data ≠ .fields vs := fun b hb => (fl.2.2.1.mem hb).2
 show wpAny (model P w) (A.deeper (envOfC qual scope s0.heap.objs.size f cd)) (leaving (envOfC qual scope s0.heap.objs.size f cd) (.ref a)) _ _ s'
 unfold leaving
 refine wpAny_bind (wpAny_noteFrame_againW (L := s0.heap.objs.size) rfl fl.2.2.2 ?_)
 refine wpAny_landsW fl fun h' fl' us => ?_
 have un2 := st.un fl'.1 us nf un
 have ok2 : HOk P w H' h' := st.hok fl'.1 hf hok
 have st2 := st.next fl'.1 hok hf (fun b o q => un.there b o q (fun z => nomatch z))
 exact ⟨a, C, H', B, a0, rfl, hos.trans I.os, hg, I.outward rfl un2, ok2, ⟨fl'.1, fl'.2.1, fl'.2.2.1.2.2, fl'.2.2.2⟩, I.stayOut rfl hf st2, hE⟩
theorem z9r : Thr ((cxOf (CX1 P w) P w K mg base N qual scope f cd A outer s0 H0 E).wish (xh (cxOf (CX1 P w) P w K mg base N qual scope f cd A outer s0 H0 E) (fun _ C H' => E C none H'))) (fun _ => E) :=
 ⟨fun pins σ H s e s' I h => xh_of ⟨pins, σ, H, s, I.unwish, h⟩⟩
theorem y07 {iter tg : Expr} {body : List Stmt} {wi : TI} {g : TG} {tb : TS} {pos : Pos}
  (hi : PI ((cxOf (CX1 P w) P w K mg base N qual scope f cd A outer s0 H0 E).wish (xh (cxOf (CX1 P w) P w K mg base N qual scope f cd A outer s0 H0 E) (fun _ C H' => E C none H'))) tg iter wi)
  (hg : PG ((cxOf (CX1 P w) P w K mg base N qual scope f cd A outer s0 H0 E).wish (xh (cxOf (CX1 P w) P w K mg base N qual scope f cd A outer s0 H0 E) (fun _ C H' => E C none H'))) tg g)
  (hb : PSs ((cxOf (CX1 P w) P w K mg base N qual scope f cd A outer s0 H0 E).wish (xh (cxOf (CX1 P w) P w K mg base N qual scope f cd A outer s0 H0 E) (fun _ C H' => E C none H'))) body tb)
  (hs : ∀ x, foldedSetIterable iter (cxOf (CX1 P w) P w K mg base N qual scope f cd A outer s0 H0 E).env x = pure x := by intro _; rfl) :
  PS (cxOf (CX1 P w) P w K mg base N qual scope f cd A outer s0 H0 E) (.For tg iter body [] pos) (tFor wi g tb) :=
 (z2E (y1u (X := cxOf (CX1 P w) P w K mg base N qual scope f cd A outer s0 H0 E) rfl rfl) rfl hi hg hb hs).imp fun e s' h => y09 h
end
end L2
namespace My
open PySem L2
def top (i : Nat) : Stmt := PySem.Challenge.pw_backissues_k27_book_full.main.body.getD i (.Pass ⟨0, 0, 0, 0⟩)
abbrev y4s : Stmt := top 0
abbrev z1J : Stmt := top 22
abbrev z1I : Stmt := top 23
abbrev z2a : Stmt := top 24
abbrev z15 : Stmt := top 25
abbrev z45 : Stmt := top 27
abbrev z5R : Stmt := top 29
abbrev z1n : Stmt := top 31
abbrev z1u : Stmt := top 32
abbrev z2z : Stmt := top 33
abbrev z2A : Stmt := top 34
abbrev z23 : Stmt := z10 (top 35) 0
abbrev z0Q : Stmt := z10 (top 35) 1
abbrev z28 : Stmt := z10 (top 35) 2
abbrev z2v : Stmt := z10 (top 35) 3
abbrev z27 : Stmt := z10 (top 35) 4
abbrev z2c : Stmt := z10 (top 37) 0
abbrev z4D : Stmt := z10 (top 37) 1
abbrev z4F : Stmt := z10 (top 37) 2
abbrev z2P : Stmt := z10 (top 37) 3
abbrev z6b : Stmt := z10 (top 37) 4
abbrev z6g : Stmt := z10 (top 37) 5
abbrev z1w : Stmt := top 41
abbrev z2x : Stmt := z10 (top 42) 0
abbrev z0C : Stmt := z10 (top 42) 1
abbrev z0J : Stmt := z10 (top 42) 2
abbrev z2T : Stmt := z10 (top 42) 3
abbrev z26 : Stmt := z10 (top 42) 4
abbrev z3r : Stmt := z10 (top 42) 5
abbrev z2W : Stmt := z10 (top 42) 6
abbrev z3T : Stmt := z10 (top 42) 7
abbrev z3F : Stmt := z10 (top 42) 8
abbrev z3W : Stmt := z10 (top 42) 9
abbrev z76 : Stmt := top 44
abbrev z4R : Stmt := top 45
abbrev z5p : Stmt := top 46
abbrev z3E : Stmt := top 47
abbrev z43 : Stmt := top 48
abbrev z32 : Stmt := top 49
abbrev z42 : Stmt := top 50
abbrev z3k : Stmt := top 51
abbrev z3p : Stmt := top 52
abbrev z31 : Stmt := top 53
abbrev z4P : Stmt := top 54
abbrev z2b : Stmt := top 55
abbrev z3S : Stmt := top 56
abbrev z5x : Stmt := top 57
abbrev slaw : Stmt := top 58
abbrev z1M : List Str := ["names"]
abbrev z1K : List Str := ["reach"]
abbrev z1A : List Str := ["names", "reach"]
abbrev z0F : List Str := ["names", "name"]
abbrev z40 : List Str := ["number", "reach"]
abbrev z4a : List Str := ["sets", "reach"]
abbrev z0O : List Str := ["value"]
abbrev z0V : List Str := ["names", "rows"]
abbrev z1S : List Str := ["names", "rows"]
abbrev z1T : List Str := ["rows"]
abbrev z1Y : List Str := ["self", "names", "reach"]
abbrev z0m : List Str := ["self", "rows"]
abbrev z1B : List Str := ["self", "rows"]
abbrev z2w : List Str := ["self"]
abbrev z0K : List Str := ["self", "number"]
abbrev z2d : List Str := ["self", "names", "reach"]
abbrev z4N : List Str := ["self", "issue"]
abbrev z3G : List Str := ["self"]
abbrev z4f : List Str := ["self"]
abbrev z1v : List Str := ["readers"]
abbrev z2C : List Str := ["self", "names", "reach", "readers"]
abbrev z0l : List Str := ["self", "reader"]
abbrev z0i : List Str := ["self"]
abbrev z2e : List Str := ["self", "rows"]
abbrev z1C : List Str := ["self", "reader", "number"]
abbrev z3l : List Str := ["self"]
abbrev z2Y : List Str := ["self", "number"]
abbrev z3P : List Str := ["self"]
abbrev z3D : List Str := ["self", "which"]
abbrev z2g : List Str := ["self", "reader", "deed"]
abbrev z6R : List Str := ["_law_script", "_law_k"]
abbrev z4Q : List Str := ["_law_cell", "_law_size"]
abbrev z5u : List Str := ["_law_cell", "_law_many", "_law_size"]
abbrev z1k : List Str := ["_law_found", "_law_due"]
abbrev z3V : List Str := ["_law_cell", "_law_many"]
abbrev z35 : List Str := ["_law_names", "_law_cell"]
abbrev z3R : List Str := ["_law_rows", "_law_number", "_law_reach"]
abbrev z3o : List Str := ["_law_log", "_law_reader", "_law_done_here"]
abbrev z3h : List Str := ["_law_good", "_law_names", "_law_cell"]
abbrev z2U : List Str := ["_law_rows", "_law_names"]
abbrev z3v : List Str := ["_law_deed", "_law_thing", "_law_one", "_law_two"]
abbrev z2i : List Str := ["_law_book", "_law_many", "_law_readers", "_law_full", "_law_cell"]
abbrev z46 : List Str := ["_law_book", "_law_log", "_law_rows", "_law_names", "_law_cell"]
abbrev z5E : List Str := ["_law_book", "_law_log", "_law_many", "_law_readers", "_law_reader", "_law_number"]
abbrev plaw : List Str := ["_law_script"]
theorem z2s : FnScope ["names"] z1M (z09 z1J) := scp
theorem z2t : FnScope ["reach"] z1K (z09 z1I) := scp
theorem z37 : FnScope ["names", "reach"] z1A (z09 z2a) := scp
theorem z0W : FnScope ["names", "name"] z0F (z09 z15) := scp
theorem z57 : FnScope ["number", "reach"] z40 (z09 z45) := scp
theorem z6I : FnScope ["sets", "reach", "number", "ahead"] z4a (z09 z5R) := scp
theorem z1a : FnScope ["value"] z0O (z09 z1n) := scp
theorem z1l : FnScope ["names", "rows", "set_names", "name", "value"] z0V (z09 z1u) := scp
theorem z3j : FnScope ["names", "rows", "values"] z1S (z09 z2z) := scp
theorem z3g : FnScope ["rows"] z1T (z09 z2A) := scp
theorem z2N : FnScope ["self", "names", "reach"] z1Y (z09 z23) := scp
theorem z0N : FnScope ["self", "rows"] z0m (z09 z0Q) := scp
theorem z1R : FnScope ["self", "rows", "number", "sets"] z1B (z09 z28) := scp
theorem z3q : FnScope ["self"] z2w (z09 z2v) := scp
theorem z1P : FnScope ["self", "number"] z0K (z09 z27) := scp
theorem z3d : FnScope ["self", "names", "reach"] z2d (z09 z2c) := scp
theorem z5S : FnScope ["self", "issue", "number"] z4N (z09 z4D) := scp
theorem z5t : FnScope ["self"] z3G (z09 z4F) := scp
theorem z3N : FnScope ["self"] z4f (z09 z2P) := scp
theorem z24 : FnScope ["readers"] z1v (z09 z1w) := scp
theorem z3n : FnScope ["self", "names", "reach", "readers"] z2C (z09 z2x) := scp
theorem z0y : FnScope ["self", "reader"] z0l (z09 z0C) := scp
theorem z0H : FnScope ["self"] z0i (z09 z0J) := scp
theorem z2u : FnScope ["self", "rows", "number"] z2e (z09 z2T) := scp
theorem z1O : FnScope ["self", "reader", "number", "getting", "lacked"] z1C (z09 z26) := scp
theorem z4w : FnScope ["self"] z3l (z09 z3r) := scp
theorem z2o : FnScope ["self", "number"] z2Y (z09 z2W) := scp
theorem z4Z : FnScope ["self"] z3P (z09 z3T) := scp
theorem z2X : FnScope ["self", "which"] z3D (z09 z3F) := scp
theorem z4T : FnScope ["self", "reader", "deed", "behind", "told", "past"] z2g (z09 z3W) := scp
theorem z7K : FnScope ["_law_script", "_law_k"] z6R (z09 z76) := scp
theorem z5M : FnScope ["_law_cell", "_law_size", "_law_once"] z4Q (z09 z4R) := scp
theorem z6r : FnScope ["_law_cell", "_law_many", "_law_size", "_law_rest", "_law_mixed", "_law_figures", "_law_k"] z5u (z09 z5p) := scp
theorem z5J : FnScope ["_law_found", "_law_due", "_law_k"] z1k (z09 z3E) := scp
theorem z5e : FnScope ["_law_cell", "_law_many", "_law_signs", "_law_turn", "_law_stem", "_law_spot"] z3V (z09 z43) := scp
theorem z3K : FnScope ["_law_names", "_law_cell", "_law_near", "_law_far", "_law_made"] z35 (z09 z32) := scp
theorem z54 : FnScope ["_law_rows", "_law_number", "_law_reach", "_law_tail", "_law_other"] z3R (z09 z42) := scp
theorem z4g : FnScope ["_law_log", "_law_reader", "_law_done_here", "_law_had", "_law_deed"] z3o (z09 z3k) := scp
theorem z4y : FnScope ["_law_good", "_law_names", "_law_cell", "_law_rows", "_law_spoils", "_law_name", "_law_place", "_law_k"] z3h (z09 z3p) := scp
theorem z3L : FnScope ["_law_rows", "_law_names", "_law_places"] z2U (z09 z31) := scp
theorem z5B : FnScope ["_law_deed", "_law_thing", "_law_one", "_law_two", "_law_flags", "_law_fine", "e", "_law_words"] z3v (z09 z4P) := scp
theorem z3a : FnScope ["_law_book", "_law_many", "_law_readers", "_law_full", "_law_cell", "_law_log", "_law_k", "_law_figure"] z2i (z09 z2b) := scp
theorem z5b : FnScope ["_law_book", "_law_log", "_law_rows", "_law_names", "_law_cell", "_law_good", "_law_handed", "_law_due", "_law_found"] z46 (z09 z3S) := scp
theorem z6l : FnScope ["_law_book", "_law_log", "_law_many", "_law_readers", "_law_reader", "_law_number", "_law_due", "_law_found"] z5E (z09 z5x) := scp
theorem y41 : FnScope ["_law_script", "_law_names", "_law_readers", "_law_many", "_law_full", "_law_book", "_law_log", "_law_rows", "_law_k", "_law_reader", "_law_number", "_law_which"] plaw (z09 slaw) := scp
structure TxOffice (K : PySem.W.Frag) (mg : Str -> Option Value) (C : Addr) : Prop where
 cl : Cls K C
 mgC : mg "Office" = some (.ref C)
 n_names : z2h K C "names"
 n_reach : z2h K C "reach"
 n_written : z2h K C "written"
structure TxShelf (K : PySem.W.Frag) (mg : Str -> Option Value) (C : Addr) : Prop where
 cl : Cls K C
 mgC : mg "Shelf" = some (.ref C)
 n_names : z2h K C "names"
 n_reach : z2h K C "reach"
 n_issues : z2h K C "issues"
structure TxBook (K : PySem.W.Frag) (mg : Str -> Option Value) (C : Addr) : Prop where
 cl : Cls K C
 mgC : mg "Book" = some (.ref C)
 n_office : z2h K C "office"
 n_readers : z2h K C "readers"
 n_done : z2h K C "done"
structure Bl (mg : Str -> Option Value) : Prop where
 len : mg "len" = none
 range : mg "range" = none
 tuple : mg "tuple" = none
 list : mg "list" = none
 max : mg "max" = none
 min : mg "min" = none
 sorted : mg "sorted" = none
 isinstance : mg "isinstance" = none
 bool : mg "bool" = none
 int : mg "int" = none
 str : mg "str" = none
 set : mg "set" = none
 reversed : mg "reversed" = none
 dict : mg "dict" = none
 zip : mg "zip" = none
 all : mg "all" = none
 ValueError : mg "ValueError" = none
 MOST_NAMES : ∃ t, mg "MOST_NAMES" = some (.int 12 t)
 MOST_REACH : ∃ t, mg "MOST_REACH" = some (.int 10 t)
 MOST_NUMBERS : ∃ t, mg "MOST_NUMBERS" = some (.int 60 t)
 MOST_VALUE : ∃ t, mg "MOST_VALUE" = some (.int 1000000 t)
 MOST_READERS : ∃ t, mg "MOST_READERS" = some (.int 10 t)
 MOST_DEEDS : ∃ t, mg "MOST_DEEDS" = some (.int 400 t)
 WRITE : ∃ t, mg "WRITE" = some (.str "write" t)
 DELIVER : ∃ t, mg "DELIVER" = some (.str "deliver" t)
theorem z02 {H : Hp} {p : Addr} (h : H p = none) (o : HO) : Same H (upd H p o) := fun b u q => by rw [z0b (z0j q h)]; exact q
theorem z4m {H H' : Hp} {l : Addr} {o : HO} (hs : Same H H') (hl : H l = none) : Same H (upd H' l o) := fun b u e => by rw [z0b (z0j e hl)]; exact hs b u e
theorem z68 {n : Nat} (h : n ≤ 1000) : n ≤ sizeLine := Nat.le_of_lt (z0k h)
theorem y0l {ns : List Int} {k : Int} (h0 : 0 ≤ k) (h : k < (ns.length : Int)) : atI (ns.map V.int) k = some (.int (ns.getD k.toNat 0)) := by
 have hk : k.toNat < ns.length := by omega
 have ek : k = ((k.toNat : Nat) : Int) := by omega
 have q : atI (ns.map V.int) ((k.toNat : Nat) : Int) = some (.int (ns.getD k.toNat 0)) := z1E (by
  rw [List.getElem?_map, List.getElem?_eq_getElem hk, List.getD_eq_getElem?_getD, List.getElem?_eq_getElem hk] <;> rfl)
 rw [<- ek] at q
 exact q
theorem z4z {K : PySem.W.Frag} {H H' : Hp} {a : Addr} {xs : List V} (e : Same H H') (h : SqT K H a xs) : SqT K H' a xs := by
 rcases h with (h | ⟨o, h⟩) | h
 ·exact .inl (.inl (e _ _ h))
 ·exact .inl (.inr ⟨o, e _ _ h⟩)
 ·exact .inr h
theorem z11 {p : Prop} [Decidable p] (h : decide p = true) : p := of_decide_eq_true h
theorem z6p {p : Prop} [Decidable p] (h : ¬ decide p = true) : ¬ p := fun q => h (decide_eq_true q)
section
variable {P : Program} {w : World} {K : PySem.W.Frag} {mg : Str -> Option Value} {base : Heap} {f : Addr} {fd : FuncData}
theorem z4i : ∀ {l1 l2 : List Int}, l1.Pairwise (· < ·) -> l2.Pairwise (· < ·) -> (∀ x, x ∈ l1 ↔ x ∈ l2) -> l1 = l2
 | [], [], _, _, _ => rfl
 | [], y :: _, _, _, h => by have := (h y).mpr List.mem_cons_self; cases this
 | x :: _, [], _, _, h => by have := (h x).mp List.mem_cons_self; cases this
 | x :: r, y :: t, p1, p2, h => by
  rw [List.pairwise_cons] at p1 p2
  have e : x = y := by
   rcases List.mem_cons.mp ((h x).mp List.mem_cons_self) with e | hx
   ·exact e
   ·rcases List.mem_cons.mp ((h y).mpr List.mem_cons_self) with e | hy
    ·exact e.symm
    ·have := p1.1 y hy
     have := p2.1 x hx
     omega
  subst e
  refine congrArg (x :: ·) (z4i p1.2 p2.2 fun z => ⟨fun hz => ?_, fun hz => ?_⟩)
  ·rcases List.mem_cons.mp ((h z).mp (List.mem_cons_of_mem _ hz)) with e | q
   ·have := p1.1 z hz
    omega
   ·exact q
  ·rcases List.mem_cons.mp ((h z).mpr (List.mem_cons_of_mem _ hz)) with e | q
   ·have := p2.1 z hz
    omega
   ·exact q
theorem z3y (lo : Int) : ∀ n, (upI lo n).Pairwise (· < ·)
 | 0 => List.Pairwise.nil
 | n + 1 => by
  rw [z5n]
  refine List.pairwise_append.mpr ⟨z3y lo n, List.pairwise_singleton _ _, fun x hx y hy => ?_⟩
  have h1 := z1Z.mp hx
  rw [List.mem_singleton.mp hy]
  omega
theorem y37 (lo : Int) (n : Nat) : rngV lo n = (upI lo n).map V.int := by
 unfold rngV upI
 rw [List.map_map]
 rfl
def spAt (K : PySem.W.Frag) : Sp := fun vs H Q _ => ∃ (a : Addr) (ns : List Int) (k : Int), vs = [.ref a, .int k] /\ SqL K H a (ns.map V.int) /\ 0 ≤ k /\ Q (.int (ns.getD k.toNat 0)) H
theorem ok_at (M : Bl mg) (F : Fun K "_law_at" "_law_at" z76 f fd) : FnOk P w K mg base CX0 1 f fd z6R (spAt K) := by
 have nd := z7K.nd
 refine F.ok z7K (fun vs H Q E h => ?_) (fun cdv A outer s H vs Q E hr h => ?_)
 ·obtain ⟨a, ns, k, rfl, _⟩ := h
  rfl
 obtain ⟨a, ns, k, rfl, hS, h0, q⟩ := h
 refine ⟨_, (z04 (z0G (z0a z3I (pv 1) (z08 z07 rfl M.len PySem.boot_len (z00 (pv 0) z01)) (z0g _)) (z06 (z0o (z14 z0z (pv 0) (pv 1) (fun _ _ => rfl)))) z0h) (z06 (z0o z05))), ?_⟩
 have hl : (ns.map V.int).length = ns.length := List.length_map _
 refine ⟨_, rfl, _, rfl, a, _, rfl, .inl hS, _, _, rfl, rfl, _, rfl, ?_⟩
 refine ite2 (fun c => ?_) (fun c => ?_)
 ·have c' := z11 c
  rw [hl] at c'
  exact ⟨_, rfl, _, rfl, a, _, _, _, rfl, rfl, hS, y0l h0 c', q⟩
 ·have c' := z6p c
  rw [hl] at c'
  have e : ns.getD k.toNat 0 = 0 := by rw [List.getD_eq_getElem?_getD, List.getElem?_eq_none (by omega)]; rfl
  rw [e] at q
  exact q
def y2E : Sp := fun vs H Q _ => ∃ c n : Int, vs = [.int c, .int n] /\ 0 < n /\ ∀ r, 0 ≤ r -> r < n -> Q (.int r) H
theorem y36 (F : Fun K "_law_pick" "_law_pick" z4R f fd) : FnOk P w K mg base CX0 1 f fd z4Q y2E := by
 have nd := z5M.nd
 refine F.ok z5M (fun vs H Q E h => ?_) (fun cdv A outer s H vs Q E hr h => ?_)
 ·obtain ⟨c, n, rfl, _⟩ := h
  rfl
 obtain ⟨c, n, rfl, hn, q⟩ := h
 refine ⟨_, (z04 (z0G (z0a z3Z (z0c z0w (pv 0) z05) z05 (z0g _)) (z06 (z0o (z0c z0w (z0c z0D (pv 0) z05) (pv 1)))) z0h) (z04 (z0n (i := 2) nd rfl (Or.inl rfl) (z0c z0w (z0c z4b (z0c z0D (pv 0) z05) z05) z05)) (z06 (z0o (z0c z0w (z0c z0w (z0c z4b (z0c z13 (pv 2) z05) z05) z05) (pv 1)))))), ?_⟩
 refine ⟨_, rfl, _, _, rfl, rfl, (by show (0 : Int) < 2; decide), rfl, _, rfl, ?_⟩
 refine ite2 (fun _ => ?_) (fun _ => ?_)
 ·exact ⟨_, rfl, _, _, rfl, rfl, ⟨by decide, by decide⟩, _, rfl, _, _, rfl, rfl, hn, q _ (Int.emod_nonneg _ (by omega)) (Int.emod_lt_of_pos _ hn)⟩
 ·refine ⟨_, rfl, _, _, rfl, rfl, ⟨by decide, by decide⟩, _, _, rfl, rfl, .inr ⟨by decide, by decide⟩, _, _, rfl, rfl, (by show (0 : Int) < 2147483647; decide), ?_⟩
  refine ⟨_, rfl, _, _, rfl, rfl, _, _, rfl, rfl, .inr ⟨by decide, by decide⟩, _, _, rfl, rfl, (by show (0 : Int) < 2147483647; decide), _, rfl, _, _, rfl, rfl, hn, ?_⟩
  exact q _ (Int.emod_nonneg _ (by omega)) (Int.emod_lt_of_pos _ hn)
def z5G : Nat -> Sp
 | 0 => fun _ _ _ _ => False
 | n + 1 => fun vs H Q _ => ∃ x y, vs = [x, y] /\ z3H H n x y /\ ∀ H', Same H H' -> Q (.bl true) H'
theorem y1k : FnOk P w K mg base CX0 0 f fd z1k (z5G 0) :=
 ⟨fun vs H Q E h => h.elim, fun A outer s H args us vs Q E _ _ _ _ h => h.elim⟩
def tyOf : V -> String
 | .non => "NoneType"
 | .bl _ => "bool"
 | .int _ => "int"
 | _ => "str"
theorem z3X {H : Hp} {x : V} (h : z9C x = true) : TyOf K H x (.type (tyOf x)) := by
 cases x with
 | non => exact .non
 | bl b => exact .bl b
 | int i => exact .int i
 | str z => exact .str z
 | _ => exact absurd h Bool.false_ne_true
def kitB : V -> String -> Bool
 | .bl _, T => T == "bool" || T == "int"
 | .int _, T => T == "int"
 | .str _, T => T == "str"
 | _, _ => false
theorem z5m (T : String) (hT : T = "tuple" \/ T = "bool" \/ T = "int" \/ T = "str") {x : V} (h : z9C x = true) : PySem.W.kitOne K (.type (tyOf x)) (.type T) = some (kitB x T) := by
 cases x with
 | non => rcases hT with rfl | rfl | rfl | rfl <;> kernel_rfl
 | bl b => rcases hT with rfl | rfl | rfl | rfl <;> kernel_rfl
 | int i => rcases hT with rfl | rfl | rfl | rfl <;> kernel_rfl
 | str z => rcases hT with rfl | rfl | rfl | rfl <;> kernel_rfl
 | _ => exact absurd h Bool.false_ne_true
theorem z9M (x : V) : kitB x "tuple" = false := by cases x <;> rfl
theorem y0W : PySem.W.kitOne K (.type "tuple") (.type "tuple") = some true := by kernel_rfl
theorem y2O {xs : List V} {i : Nat} (h : i < xs.length) : ∃ v, xs[i]? = some v /\ atI xs (i : Int) = some v := ⟨xs[i], List.getElem?_eq_getElem h, z1E (List.getElem?_eq_getElem h)⟩
theorem y3j {x : V} (h : z9C x = true) : scal x x = true := by
 cases x <;> first | rfl | exact absurd h Bool.false_ne_true
theorem y3J {n : Nat} (M : Bl mg) (F : Fun K "_law_same" "_law_same" z3E f fd) (G_law_same : Cal P w K mg base n "_law_same" z1k (z5G n)) :
  FnOk P w K mg base CX0 (n + 1) f fd z1k (z5G (n + 1)) := by
 have nd := z5J.nd
 refine F.ok z5J (fun vs H Q E h => ?_) (fun cdv A outer s H vs Q E hr h => ?_)
 ·obtain ⟨x, y, rfl, _⟩ := h
  rfl
 obtain ⟨x, y, rfl, ha, q⟩ := h
 refine ⟨_, (z04 (z0G (z47 (z08 z1d rfl M.isinstance PyProof.Rows.boot_isinstance (z00 (pv 1) (z00 (z34 (v := .ty "tuple") rfl M.tuple PyProof.Rows.boot_tuple rfl) z01)))) (z04 (z0G (PW.pt (z2L (z4X (z47 (z08 z1d rfl M.isinstance PyProof.Rows.boot_isinstance (z00 (pv 0) (z00 (z34 (v := .ty "tuple") rfl M.tuple PyProof.Rows.boot_tuple rfl) z01))))) (z1F (z0a z5I (z08 z07 rfl M.len PySem.boot_len (z00 (pv 0) z01)) (z08 z07 rfl M.len PySem.boot_len (z00 (pv 1) z01)) (z0g _))))) (z06 (z0o z3J)) z0h) (z04 (z2E PassesOwn.never rfl (z1X rfl M.range (z00 (z08 z07 rfl M.len PySem.boot_len (z00 (pv 1) z01)) z01)) (z0u (i := 2) nd rfl (Or.inl rfl)) (z06 (z0G (z4X (z47 (z0t G_law_same (rm hr) rfl (z00 (z14 z3b (pv 0) (pv 2) (fun _ _ => rfl)) (z00 (z14 z3b (pv 1) (pv 2) (fun _ _ => rfl)) z01))))) (z06 (z0o z3J)) z0h))) (z06 (z0o z3J)))) z0h) (z04 (z0G (PW.pt (z2L (z0a z5I (z08 z1d rfl M.isinstance PyProof.Rows.boot_isinstance (z00 (pv 0) (z00 (z34 (v := .ty "bool") rfl M.bool PyProof.Rows.boot_bool rfl) z01))) (z08 z1d rfl M.isinstance PyProof.Rows.boot_isinstance (z00 (pv 1) (z00 (z34 (v := .ty "bool") rfl M.bool PyProof.Rows.boot_bool rfl) z01))) (z0g _)) (z1F (z0a z5I (z08 z1d rfl M.isinstance PyProof.Rows.boot_isinstance (z00 (pv 0) (z00 (z34 (v := .ty "int") rfl M.int PyProof.Rows.boot_int rfl) z01))) (z08 z1d rfl M.isinstance PyProof.Rows.boot_isinstance (z00 (pv 1) (z00 (z34 (v := .ty "int") rfl M.int PyProof.Rows.boot_int rfl) z01))) (z0g _))))) (z06 (z0o z3J)) z0h) (z04 (z0G (PW.pt (z2L (z0a z5I (z08 z1d rfl M.isinstance PyProof.Rows.boot_isinstance (z00 (pv 0) (z00 (z34 (v := .ty "str") rfl M.str PyProof.Rows.boot_str rfl) z01))) (z08 z1d rfl M.isinstance PyProof.Rows.boot_isinstance (z00 (pv 1) (z00 (z34 (v := .ty "str") rfl M.str PyProof.Rows.boot_str rfl) z01))) (z0g _)) (z1F (z0a z5I (y2L (y1r (pv 0))) (y2L (y1r (pv 1))) (z0g _))))) (z06 (z0o z3J)) z0h) (z06 (z0o (z7m z3Z (pv 0) (pv 1) (z0g _))))))), ?_⟩
 have ha' : (x = y /\ z9C x = true) \/ ∃ (m : Nat) (a b : Addr) (xs ys : List V), n = m + 1 /\ x = .ref a /\ y = .ref b /\ H a = some (.tup xs) /\ H b = some (.tup ys) /\ xs.length = ys.length /\ ys.length ≤ 1000000 /\
   ∀ (i : Nat) (u v : V), xs[i]? = some u -> ys[i]? = some v -> z3H H m u v := by
  cases n with
  | zero => exact .inl ha
  | succ n =>
   rcases ha with ha | ⟨a, b, xs, ys, e1, e2, h1, h2, hl, hm, hi⟩
   ·exact .inl ha
   ·exact .inr ⟨n, a, b, xs, ys, rfl, e1, e2, h1, h2, hl, hm, hi⟩
 rcases ha' with ⟨rfl, hs⟩ | ⟨m, a, b, xs, ys, rfl, rfl, rfl, h1, h2, hl, hm, hi⟩
 ·have k1 := z5m (K := K) "tuple" (.inl rfl) hs
  have k2 := z5m (K := K) "bool" (.inr (.inl rfl)) hs
  have k3 := z5m (K := K) "int" (.inr (.inr (.inl rfl))) hs
  have k4 := z5m (K := K) "str" (.inr (.inr (.inr rfl))) hs
  rw [z9M] at k1
  refine ⟨_, rfl, _, _, _, _, rfl, z3X hs, k1, _, rfl, iteF ?_⟩
  refine ⟨_, rfl, _, _, _, _, rfl, z3X hs, k2, _, rfl, _, _, _, _, rfl, z3X hs, k2, rfl, _, rfl, ?_⟩
  rw [decide_eq_true rfl]
  refine iteF ⟨_, rfl, _, _, _, _, rfl, z3X hs, k3, _, rfl, _, _, _, _, rfl, z3X hs, k3, rfl, _, rfl, ?_⟩
  rw [decide_eq_true rfl]
  refine iteF ?_
  refine ⟨_, rfl, _, _, _, _, rfl, z3X hs, k4, _, rfl, _, _, _, _, rfl, z3X hs, k4, rfl, _, rfl, ?_⟩
  rw [decide_eq_true rfl]
  refine iteF ⟨_, rfl, _, rfl, rfl, _, rfl, ?_⟩
  rw [decide_eq_true rfl]
  refine iteF ?_
  refine ⟨_, rfl, _, rfl, y3j hs, ?_⟩
  rw [decide_eq_true rfl]
  exact q H (Same.refl H)
 ·refine ⟨_, rfl, _, _, _, _, rfl, .tup h2, y0W, _, rfl, iteT ?_⟩
  refine ⟨_, rfl, _, _, _, _, rfl, .tup h1, y0W, _, rfl, iteF ?_⟩
  refine ⟨_, rfl, a, xs, rfl, .inr (SqT.of h1), _, rfl, b, ys, rfl, .inr (SqT.of h2), rfl, _, rfl, ?_⟩
  rw [hl, decide_eq_true rfl]
  refine iteF ?_
  refine ⟨_, rfl, b, ys, rfl, .inr (SqT.of h2), _, rfl, by omega, by omega, ?_⟩
  refine z2K (lo := 0) (n := ys.length) (fun _ σ H' => Same H H' /\ ∃ o, σ = [some (.ref a), some (.ref b), o]) ⟨Same.refl H, _, rfl⟩ (fun i σ H' hi' hp => ?_) (fun σ H' hp => ?_)
  ·obtain ⟨hS, o, rfl⟩ := hp
   obtain ⟨u, hu, au⟩ := y2O (xs := xs) (i := i) (by omega)
   obtain ⟨v, hv, av⟩ := y2O (xs := ys) (i := i) hi'
   have ei : (0 : Int) + (i : Int) = (i : Int) := Int.zero_add _
   refine ⟨_, rfl, _, rfl, a, _, _, _, rfl, rfl, SqT.of (hS _ _ h1), (by rw [ei]; exact au), _, rfl, _, rfl, b, _, _, _, rfl, rfl, SqT.of (hS _ _ h2), (by rw [ei]; exact av), ?_⟩
   refine ⟨u, v, rfl, (hi i u v hu hv).keep hS, fun H2 hS2 => ⟨_, rfl, ?_⟩⟩
   exact iteF ⟨hS.trans hS2, _, rfl⟩
  ·obtain ⟨hS, o, rfl⟩ := hp
   exact q H' hS
theorem z9p (M : Bl mg) (F : Fun K "_law_same" "_law_same" z3E f fd) (B : z1c K fd z1k []) (N : mg "_law_same" = some (.ref f)) :
  ∀ n, Cal P w K mg base n "_law_same" z1k (z5G n)
 | 0 => .mk' y1k B F.kp N
 | n + 1 => .mk' (y3J M F (z9p M F B N n)) B F.kp N
theorem y1h {ns : List Int} {n : Nat} (h : ns.length ≤ n) (hn : n ≤ 1000) : (ns.map V.int).length < sizeLine := z0k (by rw [List.length_map]; omega)
def y47 : Sp := fun vs H Q _ => ∃ c m z : Int, vs = [.int c, .int m, .int z] /\ 0 ≤ m /\ m ≤ 900 /\ 0 < z /\ z < 1073741824 /\
 ∀ (l : Addr) (ns : List Int) (H' : Hp), H l = none -> Same H H' -> H' l = some (.lst (ns.map V.int)) -> ns.length = m.toNat -> (∀ x ∈ ns, 0 ≤ x /\ x < z) -> Q (.ref l) H'
theorem y4k (M : Bl mg) (F : Fun K "_law_row" "_law_row" z5p f fd) : FnOk P w K mg base CX0 1 f fd z5u y47 := by
 have nd := z6r.nd
 refine F.ok z6r (fun vs H Q E h => ?_) (fun cdv A outer s H vs Q E hr h => ?_)
 ·obtain ⟨c, m, z, rfl, _⟩ := h
  rfl
 obtain ⟨c, m, z, rfl, m0, m1, z0, z1, q⟩ := h
 refine ⟨_, (z04 (z0n (i := 3) nd rfl (Or.inl rfl) (z0c z0D (pv 0) z05)) (z04 (z0n (i := 4) nd rfl (Or.inl rfl) (z0c z0w (z0c z4b (pv 3) z05) z05)) (z04 (z0n (i := 5) nd rfl (Or.inl rfl) (z0R z01)) (z04 (z2E PassesOwn.never rfl (z1X rfl M.range (z00 (pv 1) z01)) (z0u (i := 6) nd rfl (Or.inl rfl)) (z04 (z0n (i := 4) nd rfl (Or.inl rfl) (z0c z0w (z0c z13 (z0c z13 (z0c z4b (pv 4) z05) (pv 6)) z05) z05)) (z06 (z0G (z0a z3Z (z0c z0w (pv 0) z05) z05 (z0g _)) (z04 (z0p (z2l PySem.F.plainAttrs_list PySem.F.slot_list_append PySem.F.type_list_append z0I (pv 5) (z00 (z0c z0w (pv 3) (pv 2)) z01))) (z06 (z0n (i := 3) nd rfl (Or.inl rfl) (z0c z0D (pv 3) (pv 2))))) (z06 (z0p (z2l PySem.F.plainAttrs_list PySem.F.slot_list_append PySem.F.type_list_append z0I (pv 5) (z00 (z0c z0w (z0c z0D (pv 4) z05) (pv 2)) z01)))))))) (z06 (z0o (pv 5))))))), ?_⟩
 refine ⟨_, rfl, _, _, rfl, rfl, ⟨by decide, by decide⟩, ?_⟩
 refine ⟨_, rfl, _, _, rfl, rfl, .inr ⟨by decide, by decide⟩, _, _, rfl, rfl, (by show (0 : Int) < 2147483647; decide), ?_⟩
 refine ⟨(by show 0 ≤ sizeLine; decide), fun l hl => ?_⟩
 refine ⟨_, rfl, _, rfl, by omega, by omega, ?_⟩
 refine z2K (lo := 0) (n := m.toNat) (fun i σ H' => ∃ (ns : List Int) (r mx : Int) (o : Option V), ns.length = i /\ (∀ x ∈ ns, 0 ≤ x /\ x < z) /\ H' = upd H l (.lst (ns.map V.int)) /\
  σ = [some (.int c), some (.int m), some (.int z), some (.int r), some (.int mx), some (.ref l), o]) ⟨[], _, _, _, rfl, (fun _ h => nomatch h), rfl, rfl⟩ (fun i σ H' hi hp => ?_) (fun σ H' hp => ?_)
 ·obtain ⟨ns, r, mx, o, hlen, hall, rfl, rfl⟩ := hp
  refine ⟨_, rfl, _, _, rfl, rfl, .inr ⟨by decide, by decide⟩, _, rfl, _, _, rfl, rfl, _, _, rfl, rfl, _, _, rfl, rfl, (by show (0 : Int) < 2147483647; decide), ?_⟩
  refine ⟨_, rfl, _, _, rfl, rfl, (by show (0 : Int) < 2; decide), rfl, _, rfl, ?_⟩
  have grow : ∀ y : Int, (∀ x ∈ ns ++ [y % z], 0 ≤ x /\ x < z) := fun y x hx => by
   rcases List.mem_append.mp hx with h | h
   ·exact hall x h
   ·rw [List.mem_singleton.mp h]
    exact ⟨Int.emod_nonneg _ (by omega), Int.emod_lt_of_pos _ z0⟩
  have put : ∀ y : Int, upd (upd H l (.lst (ns.map V.int))) l (.lst (ns.map V.int ++ [.int (y % z)])) = upd H l (.lst ((ns ++ [y % z]).map V.int)) := fun y => by
   rw [z77, List.map_append]
   rfl
  refine ite2 (fun _ => ?_) (fun _ => ?_)
  ·refine ⟨_, rfl, .inl ⟨rfl, _, SqL.of z03⟩, _, rfl, _, rfl, _, _, rfl, rfl, z0, l, _, _, rfl, rfl, z03, y1h (n := i) (by omega) (by omega), ?_⟩
   refine ⟨_, rfl, _, rfl, _, _, rfl, rfl, ⟨z0, z1⟩, ?_⟩
   exact ⟨ns ++ [r % z], _, _, _, by rw [List.length_append, hlen]; rfl, grow r, put r, rfl⟩
  ·refine ⟨_, rfl, .inl ⟨rfl, _, SqL.of z03⟩, _, rfl, _, _, rfl, rfl, ⟨by decide, by decide⟩, _, rfl, _, _, rfl, rfl, z0, l, _, _, rfl, rfl, z03, y1h (n := i) (by omega) (by omega), ?_⟩
   exact ⟨ns ++ [_ % z], _, _, _, by rw [List.length_append, hlen]; rfl, grow _, put _, rfl⟩
 ·obtain ⟨ns, r, mx, o, hlen, hall, rfl, rfl⟩ := hp
  exact ⟨_, rfl, q l ns _ hl (z02 hl _) z03 hlen hall⟩
theorem y1E (x : Int) (ns : List Int) : inV (.int x) (ns.map V.int) = decide (x ∈ ns) := by
 unfold inV
 rw [Bool.eq_iff_iff, List.any_map, List.any_eq_true, decide_eq_true_eq]
 constructor
 ·rintro ⟨y, hy, e⟩
  have e' : (y == x) = true := e
  rw [<- eq_of_beq e']
  exact hy
 ·intro h
  exact ⟨x, h, show (x == x) = true from beq_self_eq_true x⟩
theorem y1w (ns : List Int) : (ns.map V.int).all z1j = true := by
 rw [List.all_map, List.all_eq_true]
 intro x _
 rfl
def sgL : List Nat := (("mM ~aA0.xX_9" : Str).cps.toList)
theorem z8J : sgL.length = 12 := by decide +kernel
theorem y0f : sgL.Nodup := by decide +kernel
abbrev farS : Str := "a stranger of twenty"
abbrev z69 : Str := "a long stem of them"
structure Nms (nm : List Str) : Prop where
 nd : nm.Nodup
 lo : ∀ x ∈ nm, 1 ≤ x.length
 hi : ∀ x ∈ nm, x.length ≤ 20
 far : farS ∉ nm
 low : ∀ x ∈ nm, ∀ c ∈ x.cps.toList, c < 16 ^ 8
theorem z4H (a b : Str) : (a ++ b).cps.toList = a.cps.toList ++ b.cps.toList := by
 show (a.cps ++ b.cps).toList = _
 simp
theorem y3c (c : Nat) : (⟨#[c]⟩ : Str).cps.toList = [c] := rfl
theorem z3s {α β : Type} {g : α -> β} : ∀ {l : List α}, l.Nodup -> (∀ x ∈ l, ∀ y ∈ l, g x = g y -> x = y) -> (l.map g).Nodup
 | [], _, _ => List.nodup_nil
 | x :: r, n, h => by
  rw [List.nodup_cons] at n
  rw [List.map_cons, List.nodup_cons]
  refine ⟨fun hm => ?_, z3s n.2 fun a ha b hb => h a (List.mem_cons_of_mem _ ha) b (List.mem_cons_of_mem _ hb)⟩
  obtain ⟨y, hy, e⟩ := List.mem_map.mp hm
  have := h x List.mem_cons_self y (List.mem_cons_of_mem _ hy) e.symm
  exact n.1 (this ▸ hy)
theorem z7B (lo : Int) (n : Nat) : (upI lo n).Nodup := (z3y lo n).imp fun {a b} h => by omega
theorem z98 {t a b : Int} (ht : 0 ≤ t) (ht2 : t < 12) (a0 : 0 ≤ a) (a1 : a < 12) (b0 : 0 ≤ b) (b1 : b < 12) (h : (t + a) % 12 = (t + b) % 12) : a = b := by omega
def repN (c : Nat) (t k : Int) : Str := repS ⟨#[c]⟩ (1 + (t + k) % 12).toNat
theorem z4e (c : Nat) (t k : Int) : (repN c t k).length = (1 + (t + k) % 12).toNat := by
 unfold repN
 rw [<- z0L]
 show ((List.replicate _ [c]).flatten.toArray).toList.length = _
 simp
theorem y3P {c : Nat} (hc : c < 16 ^ 8) {t : Int} (h0 : 0 ≤ t) (h1 : t < 12) {m : Nat} (hm : m ≤ 12) : Nms ((upI 0 m).map (repN c t)) where
 nd := z3s (z7B _ _) fun a ha b hb e => by
  have ha' := z1Z.mp ha
  have hb' := z1Z.mp hb
  have e2 := congrArg Str.length e
  rw [z4e, z4e] at e2
  exact z98 h0 h1 (by omega) (by omega) (by omega) (by omega) (by omega)
 lo := fun x hx => by
  obtain ⟨k, hk, rfl⟩ := List.mem_map.mp hx
  rw [z4e]
  omega
 hi := fun x hx => by
  obtain ⟨k, hk, rfl⟩ := List.mem_map.mp hx
  rw [z4e]
  omega
 far := fun hx => by
  obtain ⟨k, hk, e⟩ := List.mem_map.mp hx
  have e2 := congrArg Str.length e
  rw [z4e] at e2
  have e3 : farS.length = 20 := by decide +kernel
  omega
 low := fun x hx d hd => by
  obtain ⟨k, hk, rfl⟩ := List.mem_map.mp hx
  have hd' : d ∈ (List.replicate (1 + (t + k) % 12).toNat [c]).flatten := hd
  obtain ⟨l, hl, hm⟩ := List.mem_flatten.mp hd'
  rw [(List.mem_replicate.mp hl).2, List.mem_singleton] at hm
  rw [hm]
  exact hc
def z7h (st : Str) (sp : Int) (t k : Int) : Str := cutS st none (some sp) ++ ⟨#[sgL.getD ((t + k) % 12).toNat 0]⟩ ++ cutS st (some sp) none
theorem z93 {n d : Nat} {v : Int} (h0 : 0 ≤ v) (h1 : v ≤ n) : HT.sIx n d (some v) = v.toNat := by
 show (if v < 0 then (v + (n : Int)).toNat else min v.toNat n) = _
 rw [if_neg (by omega), Nat.min_eq_left (by omega)]
theorem y2C (st : Str) {sp : Int} (h0 : 0 ≤ sp) (h1 : sp ≤ st.length) : (cutS st none (some sp)).cps.toList = st.cps.toList.take sp.toNat := by
 show ((st.cps.toList.drop 0).take (HT.sIx st.length st.length (some sp) - 0)) = _
 rw [z93 h0 h1, List.drop_zero, Nat.sub_zero]
theorem y2G (st : Str) {sp : Int} (h0 : 0 ≤ sp) (h1 : sp ≤ st.length) : (cutS st (some sp) none).cps.toList = st.cps.toList.drop sp.toNat := by
 show ((st.cps.toList.drop (HT.sIx st.length 0 (some sp))).take (st.length - HT.sIx st.length 0 (some sp))) = _
 rw [z93 h0 h1, List.take_of_length_le]
 rw [List.length_drop, z0L]
 exact Nat.le_refl _
theorem z3f (st : Str) {sp : Int} (h0 : 0 ≤ sp) (h1 : sp ≤ st.length) (t k : Int) : (z7h st sp t k).cps.toList = st.cps.toList.take sp.toNat ++ sgL.getD ((t + k) % 12).toNat 0 :: st.cps.toList.drop sp.toNat := by
 unfold z7h
 rw [z4H, z4H, y2C st h0 h1, y2G st h0 h1, y3c, List.append_assoc]
 rfl
theorem z66 (st : Str) {sp : Int} (h0 : 0 ≤ sp) (h1 : sp ≤ st.length) (t k : Int) : (z7h st sp t k).length = st.length + 1 := by
 rw [<- z0L, z3f st h0 h1, List.length_append, List.length_cons, List.length_take, List.length_drop, z0L]
 omega
theorem y1Y : ∀ s < 20, ∀ i < 12, z69.cps.toList.take s ++ sgL.getD i 0 :: z69.cps.toList.drop s ≠ farS.cps.toList := by decide +kernel
theorem y2c {st : Str} (hst : st = "" \/ st = "row" \/ st = z69) {sp : Int} (h0 : 0 ≤ sp) (h1 : sp ≤ st.length) {t : Int} (t0 : 0 ≤ t) (t1 : t < 12) {m : Nat} (hm : m ≤ 12) : Nms ((upI 0 m).map (z7h st sp t)) where
 nd := z3s (z7B _ _) fun a ha b hb e => by
  have ha' := z1Z.mp ha
  have hb' := z1Z.mp hb
  have e2 : (z7h st sp t a).cps.toList = (z7h st sp t b).cps.toList := congrArg (fun z : Str => z.cps.toList) e
  rw [z3f st h0 h1, z3f st h0 h1] at e2
  have e3 := List.append_cancel_left e2
  have e4 : sgL.getD ((t + a) % 12).toNat 0 = sgL.getD ((t + b) % 12).toNat 0 := (List.cons.inj e3).1
  have l1 : ((t + a) % 12).toNat < sgL.length := by rw [z8J]; omega
  have l2 : ((t + b) % 12).toNat < sgL.length := by rw [z8J]; omega
  rw [List.getD_eq_getElem?_getD, List.getElem?_eq_getElem l1, List.getD_eq_getElem?_getD, List.getElem?_eq_getElem l2] at e4
  have e5 := (List.getElem_inj y0f).mp e4
  exact z98 t0 t1 (by omega) (by omega) (by omega) (by omega) (by omega)
 lo := fun x hx => by
  obtain ⟨k, hk, rfl⟩ := List.mem_map.mp hx
  rw [z66 st h0 h1]
  omega
 hi := fun x hx => by
  obtain ⟨k, hk, rfl⟩ := List.mem_map.mp hx
  rw [z66 st h0 h1]
  have l1 : ("" : Str).length = 0 := by decide +kernel
  have l2 : ("row" : Str).length = 3 := by decide +kernel
  have l3 : z69.length = 19 := by decide +kernel
  rcases hst with rfl | rfl | rfl <;> omega
 far := fun hx => by
  obtain ⟨k, hk, e⟩ := List.mem_map.mp hx
  have l1 : ("" : Str).length = 0 := by decide +kernel
  have l2 : ("row" : Str).length = 3 := by decide +kernel
  have l3 : z69.length = 19 := by decide +kernel
  have l4 : farS.length = 20 := by decide +kernel
  have e2 := congrArg Str.length e
  rw [z66 st h0 h1] at e2
  rcases hst with rfl | rfl | rfl
  ·omega
  ·omega
  ·have e3 : (z7h z69 sp t k).cps.toList = farS.cps.toList := congrArg (fun z : Str => z.cps.toList) e
   rw [z3f z69 h0 h1] at e3
   exact y1Y sp.toNat (by omega) ((t + k) % 12).toNat (by omega) e3
 low := fun x hx d hd => by
  obtain ⟨k, hk, rfl⟩ := List.mem_map.mp hx
  rw [z3f st h0 h1] at hd
  have l1 : ∀ c ∈ ("" : Str).cps.toList, c < 16 ^ 8 := by decide +kernel
  have l2 : ∀ c ∈ ("row" : Str).cps.toList, c < 16 ^ 8 := by decide +kernel
  have l3 : ∀ c ∈ z69.cps.toList, c < 16 ^ 8 := by decide +kernel
  have l4 : ∀ i < 12, sgL.getD i 0 < 16 ^ 8 := by decide +kernel
  have ls : ∀ c ∈ st.cps.toList, c < 16 ^ 8 := by rcases hst with rfl | rfl | rfl <;> assumption
  rcases List.mem_append.mp hd with hd | hd
  ·exact ls d (List.mem_of_mem_take hd)
  ·rcases List.mem_cons.mp hd with rfl | hd
   ·exact l4 _ (by omega)
   ·exact ls d (List.mem_of_mem_drop hd)
def y0y : Sp := fun vs H Q _ => ∃ c m : Int, vs = [.int c, .int m] /\ 0 ≤ m /\ m ≤ 12 /\
 ∀ (l : Addr) (nm : List Str) (H' : Hp), H l = none -> Same H H' -> H' l = some (.lst (nm.map V.str)) -> nm.length = m.toNat -> Nms nm -> Q (.ref l) H'
theorem z96 {f : Int -> V} (l : List Int) : z6h (fun _ => true) f l = l.map f := by
 unfold z6h
 rw [List.filter_eq_self.mpr fun _ _ => rfl]
theorem y2t (M : Bl mg) (F : Fun K "_law_named" "_law_named" z43 f fd) : FnOk P w K mg base CX0 1 f fd z3V y0y := by
 have nd := z5e.nd
 refine F.ok z5e (fun vs H Q E h => ?_) (fun cdv A outer s H vs Q E hr h => ?_)
 ·obtain ⟨c, m, rfl, _⟩ := h
  rfl
 obtain ⟨c, m, rfl, m0, m1, q⟩ := h
 refine ⟨_, (z04 (z0n (i := 2) nd rfl (Or.inr rfl) z0r) (z04 (z0n (i := 3) nd rfl (Or.inr rfl) (z0c z0w (z0c z0D (pv 0) z05) z05)) (z04 (z0G (z0a z3Z (z0c z0w (pv 0) z05) z05 (z0g _)) (z06 (z0o (z2y ["_law_k"] ["_law_cell", "_law_turn"] [0, 3] rfl (z0E rfl (by decide +kernel) rfl (by decide +kernel) rfl rfl) (z1X rfl M.range (z00 (pv 1) z01)) (fun _ _ _ _ _ => (z0u (i := 0) (show ((["_law_k"] : List PySem.Str) ++ (["_law_cell", "_law_turn"] : List PySem.Str)).Nodup from by decide +kernel) rfl (Or.inl rfl))) (z0M (by decide)) z0q (fun _ _ _ _ _ => z22) (fun _ _ _ _ _ => (z0c z9H (z14 y01 z0r (z0c z0w (z0c z0D (pv 1) z05) z05) (fun _ _ => rfl)) (z0c z13 z05 (z0c z0w (z0c z13 (pv 2) (pv 0)) z05))))))) z0h) (z04 (z0n (i := 4) nd rfl (Or.inr rfl) (z14 z0z (z0R (z00 z0r (z00 z0r (z00 z0r z01)))) (z0c z0w (pv 0) z05) (fun _ _ => rfl))) (z04 (z0n (i := 5) nd rfl (Or.inr rfl) (z0c z0w (z0c z0D (pv 0) z05) (z0c z13 (z08 z58 rfl M.len PySem.boot_len (z00 (pv 4) z01)) z05))) (z06 (z0o (z2y ["_law_k"] ["_law_stem", "_law_signs", "_law_spot", "_law_turn"] [4, 2, 5, 3] rfl (z0E rfl (by decide +kernel) rfl (by decide +kernel) rfl rfl) (z1X rfl M.range (z00 (pv 1) z01)) (fun _ _ _ _ _ => (z0u (i := 0) (show ((["_law_k"] : List PySem.Str) ++ (["_law_stem", "_law_signs", "_law_spot", "_law_turn"] : List PySem.Str)).Nodup from by decide +kernel) rfl (Or.inl rfl))) (z0M (by decide)) z0q (fun _ _ _ _ _ => z22) (fun _ _ _ _ _ => (z0c z3w (z0c z3w (z2m y0q (pv 1) z3m (z3u (pv 3))) (z14 y01 (pv 2) (z0c z0w (z0c z13 (pv 4) (pv 0)) z05) (fun _ _ => rfl))) (z2m y0q (pv 1) (z3u (pv 3)) z3m))))))))))), ?_⟩
 have t0 : 0 ≤ c / 4 % 12 := Int.emod_nonneg _ (by decide)
 have t1 : c / 4 % 12 < 12 := Int.emod_lt_of_pos _ (by decide)
 refine ⟨_, rfl, _, _, rfl, rfl, ⟨by decide, by decide⟩, _, _, rfl, rfl, (by show (0 : Int) < 12; decide), ?_⟩
 refine ⟨_, rfl, _, _, rfl, rfl, (by show (0 : Int) < 4; decide), rfl, _, rfl, ?_⟩
 refine ite2 (fun _ => ?_) (fun cn => ?_)
 ·obtain ⟨sg, hsg, hsl⟩ : ∃ sg, atI (("a ~" : Str).cps.toList) (c / 48 % 3) = some sg /\ sg < 16 ^ 8 := by
   have h0 : 0 ≤ c / 48 % 3 := Int.emod_nonneg _ (by decide)
   have h1 : c / 48 % 3 < 3 := Int.emod_lt_of_pos _ (by decide)
   have ek : c / 48 % 3 = (((c / 48 % 3).toNat : Nat) : Int) := by omega
   have hl : (("a ~" : Str).cps.toList).length = 3 := by decide +kernel
   rw [ek]
   have all : ∀ c ∈ ("a ~" : Str).cps.toList, c < 16 ^ 8 := by decide +kernel
   exact ⟨_, z1E (List.getElem?_eq_getElem (by rw [hl]; omega)), all _ (List.getElem_mem _)⟩
  refine ⟨_, rfl, _, rfl, by omega, by omega, ?_⟩
  refine y0I (lo := 0) (n := m.toNat) (fun _ => true) (fun k => .str (repN sg (c / 4 % 12) k)) (by omega) (fun k ys N k0 k1 hN => ?_) ?_
  ·refine ⟨_, rfl, _, _, rfl, rfl, ⟨by decide, by decide⟩, _, _, rfl, rfl, (by show (0 : Int) < 3; decide), _, _, sg, rfl, rfl, (by decide +kernel), hsg, ?_⟩
   refine ⟨_, rfl, _, rfl, _, _, rfl, rfl, _, _, rfl, rfl, (by show (0 : Int) < 12; decide), _, _, rfl, rfl, _, _, rfl, rfl, ?_, ?_, ?_, ?_⟩
   ·have := Int.emod_nonneg (c / 4 % 12 + k) (show (12 : Int) ≠ 0 by decide)
    omega
   ·have := Int.emod_lt_of_pos (c / 4 % 12 + k) (show (0 : Int) < 12 by decide)
    omega
   ·show 1 ≤ 1000
    decide
   ·exact hN
  ·intro D hD
   rw [z96]
   refine q D ((upI 0 m.toNat).map (repN sg (c / 4 % 12))) _ hD (z02 hD _) ?_ (by rw [List.length_map, z0P]) (y3P hsl t0 t1 (by omega))
   rw [z03, List.map_map]
   rfl
 ·have c4 : c % 4 = 0 \/ c % 4 = 1 \/ c % 4 = 2 := by
   have h1 := Int.emod_nonneg c (show (4 : Int) ≠ 0 by decide)
   have h2 := Int.emod_lt_of_pos c (show (0 : Int) < 4 by decide)
   have h3 : c % 4 ≠ 3 := fun e => cn (decide_eq_true (congrArg V.int e))
   omega
  obtain ⟨st, hat, hst⟩ : ∃ st : Str, atI [V.str "", V.str "row", V.str "a long stem of them"] (c % 4) = some (.str st) /\ (st = "" \/ st = "row" \/ st = z69) := by
   rcases c4 with e | e | e <;> rw [e]
   ·exact ⟨_, rfl, .inl rfl⟩
   ·exact ⟨_, rfl, .inr (.inl rfl)⟩
   ·exact ⟨_, rfl, .inr (.inr rfl)⟩
  have stl : st.length ≤ 19 := by
   have l1 : ("" : Str).length = 0 := by decide +kernel
   have l2 : ("row" : Str).length = 3 := by decide +kernel
   have l3 : z69.length = 19 := by decide +kernel
   rcases hst with rfl | rfl | rfl <;> omega
  refine ⟨(by show 3 ≤ sizeLine; decide), fun p hp => ⟨_, rfl, _, _, rfl, rfl, (by show (0 : Int) < 4; decide), p, _, _, _, rfl, rfl, SqL.of z03, hat, ?_⟩⟩
  refine ⟨_, rfl, _, _, rfl, rfl, ⟨by decide, by decide⟩, _, rfl, st, rfl, z68 (by omega), _, _, rfl, rfl, _, _, rfl, rfl, by omega, ?_⟩
  have s0 : 0 ≤ c / 48 % ((st.length : Int) + 1) := Int.emod_nonneg _ (by omega)
  have s1 : c / 48 % ((st.length : Int) + 1) ≤ (st.length : Int) := by
   have := Int.emod_lt_of_pos (c / 48) (show (0 : Int) < (st.length : Int) + 1 by omega)
   omega
  refine ⟨_, rfl, _, rfl, by omega, by omega, ?_⟩
  refine y0I (lo := 0) (n := m.toNat) (fun _ => true) (fun k => .str (z7h st (c / 48 % ((st.length : Int) + 1)) (c / 4 % 12) k)) (by omega) (fun k ys N k0 k1 hN => ?_) ?_
  ·have i0 := Int.emod_nonneg (c / 4 % 12 + k) (show (12 : Int) ≠ 0 by decide)
   have i1 := Int.emod_lt_of_pos (c / 4 % 12 + k) (show (0 : Int) < 12 by decide)
   have hsg : atI (("mM ~aA0.xX_9" : Str).cps.toList) ((c / 4 % 12 + k) % 12) = some (sgL.getD ((c / 4 % 12 + k) % 12).toNat 0) := by
    have ek : (c / 4 % 12 + k) % 12 = ((((c / 4 % 12 + k) % 12).toNat : Nat) : Int) := by omega
    have l1 : ((c / 4 % 12 + k) % 12).toNat < sgL.length := by rw [z8J]; omega
    have q1 : atI sgL ((((c / 4 % 12 + k) % 12).toNat : Nat) : Int) = some (sgL.getD ((c / 4 % 12 + k) % 12).toNat 0) := z1E (by
     rw [List.getD_eq_getElem?_getD, List.getElem?_eq_getElem l1]
     rfl)
    rw [<- ek] at q1
    exact q1
   have la : (cutS st none (some (c / 48 % ((st.length : Int) + 1)))).length ≤ 19 := by
    rw [<- z0L, y2C st s0 s1, List.length_take, z0L]
    omega
   have lb : (cutS st (some (c / 48 % ((st.length : Int) + 1))) none).length ≤ 19 := by
    rw [<- z0L, y2G st s0 s1, List.length_drop, z0L]
    omega
   have lc : ∀ (x : Nat), (⟨#[x]⟩ : Str).length = 1 := fun _ => rfl
   have lab : ∀ (x : Nat), (cutS st none (some (c / 48 % ((st.length : Int) + 1))) ++ (⟨#[x]⟩ : Str)).length ≤ 20 := fun x => by
    rw [<- z0L, z4H, List.length_append, z0L, z0L, lc]
    omega
   refine ⟨_, rfl, _, rfl, _, rfl, st, rfl, z68 (by omega), ?_⟩
   refine ⟨_, rfl, _, rfl, _, rfl, _, _, rfl, rfl, _, _, rfl, rfl, (by show (0 : Int) < 12; decide), _, _, _, rfl, rfl, (by decide +kernel), hsg, ?_⟩
   refine ⟨_, _, rfl, rfl, z68 (by rw [lc]; omega), ?_⟩
   refine ⟨_, rfl, _, rfl, _, rfl, st, rfl, z68 (by omega), _, _, rfl, rfl, z68 (by have := lab (sgL.getD ((c / 4 % 12 + k) % 12).toNat 0); omega), ?_⟩
   exact hN
  ·intro D hD
   rw [z96]
   refine q D ((upI 0 m.toNat).map (z7h st (c / 48 % ((st.length : Int) + 1)) (c / 4 % 12))) _ ((z02 hp _).free hD) ((z02 hp _).trans (z02 hD _)) ?_ (by rw [List.length_map, z0P]) (y2c hst s0 s1 t0 t1 (by omega))
   rw [z03, List.map_map]
   rfl
theorem z2M (ns : List Str) : (ns.map V.str).all z1j = true := by
 rw [List.all_map, List.all_eq_true]
 intro x _
 rfl
theorem z8l {ns : List Str} {k : Int} (h0 : 0 ≤ k) (h : k < (ns.length : Int)) : ∃ x, ns[k.toNat]? = some x /\ atI (ns.map V.str) k = some (.str x) := by
 have hk : k.toNat < ns.length := by omega
 have ek : k = ((k.toNat : Nat) : Int) := by omega
 have q : atI (ns.map V.str) ((k.toNat : Nat) : Int) = some (.str ns[k.toNat]) := z1E (by rw [List.getElem?_map, List.getElem?_eq_getElem hk]; rfl)
 rw [<- ek] at q
 exact ⟨_, List.getElem?_eq_getElem hk, q⟩
abbrev Row := List (Str × Int)
def z7y (p : Str × Int) : DV := .tup [.str p.1, .int p.2]
def rowD (r : Row) : DV := .tup (r.map z7y)
theorem y4x {xs : List V} : ∀ ys, HO.lst xs ≠ .tup ys := fun _ e => by cases e
structure Rws (nm : List Str) (rows : List Row) : Prop where
 sub : ∀ r ∈ rows, (r.map Prod.fst).Sublist nm
 val : ∀ r ∈ rows, ∀ p ∈ r, 0 ≤ p.2 /\ p.2 ≤ 1000000
def nmsD (s : List Str) : DV := .tup (s.map DV.str)
def dnI (hi : Int) (j : Nat) : List Int := (List.range j).map fun (k : Nat) => hi - (k : Int)
theorem y2A (hi : Int) (j : Nat) : dnI hi (j + 1) = dnI hi j ++ [hi - (j : Int)] := by
 unfold dnI
 rw [List.range_succ, List.map_append]
 rfl
theorem z8z (hi : Int) (j : Nat) : (dnI hi j).length = j := by unfold dnI; rw [List.length_map, List.length_range]
theorem z8d {hi : Int} {j : Nat} {x : Int} : x ∈ dnI hi j ↔ hi - j < x /\ x ≤ hi := by
 unfold dnI
 rw [List.mem_map]
 constructor
 ·rintro ⟨k, hk, rfl⟩
  have := List.mem_range.mp hk
  omega
 ·rintro ⟨h1, h2⟩
  exact ⟨(hi - x).toNat, List.mem_range.mpr (by omega), by omega⟩
def z3e (r : Row) : List Str := r.map Prod.fst
def z2G (rows : List Row) (n : Int) : Row := rows.getD (n - 1).toNat []
def z9F (rows : List Row) (k : Int) : DV := .tup [.int k, nmsD (z3e (z2G rows k))]
def z9A (n r : Int) : List Int := (dnI (n - 1) (n - 1).toNat).filter fun k => decide (n - k ≤ r)
def y2p (rows : List Row) (n r : Int) : DV := .tup ((z9A n r).map (z9F rows))
def z1r (rows : List Row) (n r : Int) : DV := .tup [.int n, rowD (z2G rows n), y2p rows n r]
theorem z7S {H : Hp} {rows : List Row} {us : List V} (h : z0d H (rows.map rowD) us) {k : Int} (k0 : 1 ≤ k) (k1 : k ≤ rows.length) : ∃ v, us[(k - 1).toNat]? = some v /\ atI us (k - 1) = some v /\ Tell H (rowD (z2G rows k)) v := by
 have hk : (k - 1).toNat < rows.length := by omega
 obtain ⟨v, e, t⟩ := h.get (k - 1).toNat (rowD (z2G rows k)) (by
  unfold z2G
  rw [List.getElem?_map, List.getD_eq_getElem?_getD, List.getElem?_eq_getElem hk]
  rfl)
 have ek : k - 1 = (((k - 1).toNat : Nat) : Int) := by omega
 exact ⟨v, e, by rw [ek]; exact z1E e, t⟩
theorem z3Q {H : Hp} : ∀ {r : Row} {xs : List V}, z0d H (r.map z7y) xs -> ∀ (i : Nat) (x : V), xs[i]? = some x -> ∃ (p : Str × Int) (a : Addr), r[i]? = some p /\ x = .ref a /\ H a = some (.tup [.str p.1, .int p.2]) := by
 intro r xs h i x e
 obtain ⟨d, e1, t⟩ := h.at i x e
 rw [List.getElem?_map] at e1
 cases er : r[i]? with
 | none => rw [er] at e1; cases e1
 | some p =>
  rw [er] at e1
  have e2 : z7y p = d := Option.some.inj e1
  subst e2
  obtain ⟨a, ys, rfl, h1, _, h2⟩ := z1e t
  obtain ⟨y1, r1, rfl, t1, h3⟩ := z1s h2
  obtain ⟨y2, r2, rfl, t2, h4⟩ := z1s h3
  have := z7q h4
  subst this
  rw [z7Y t1, z4V t2] at h1
  exact ⟨p, a, rfl, rfl, h1⟩
def y1q (K : PySem.W.Frag) : Sp := fun vs H Q _ => ∃ (lr : Addr) (us : List V) (rows : List Row) (n r : Int), vs = [.ref lr, .int n, .int r] /\ SqL K H lr us /\ z0d H (rows.map rowD) us /\ rows.length ≤ 900 /\ (∀ w ∈ rows, w.length ≤ 12) /\ 1 ≤ n /\ n ≤ rows.length /\
 ∀ (v : V) (H' : Hp), Same H H' -> Tell H' (z1r rows n r) v -> Q v H'
theorem y18 {rows : List Row} (h : ∀ w ∈ rows, w.length ≤ 12) (k : Int) : (z2G rows k).length ≤ 12 := by
 unfold z2G
 rw [List.getD_eq_getElem?_getD]
 cases e : rows[(k - 1).toNat]? with
 | none => exact Nat.zero_le _
 | some w => exact h w (List.mem_of_getElem? e)
theorem y2u (M : Bl mg) (F : Fun K "_law_issue" "_law_issue" z42 f fd) : FnOk P w K mg base CX0 1 f fd z3R (y1q K) := by
 have nd := z54.nd
 refine F.ok z54 (fun vs H Q E h => ?_) (fun cdv A outer s H vs Q E hr h => ?_)
 ·obtain ⟨lr, us, rows, n, r, rfl, _⟩ := h
  rfl
 obtain ⟨lr, us, rows, n, r, rfl, hS, hT, n0, n12, n1, n2, q⟩ := h
 refine ⟨_, (z04 (z0n (i := 3) nd rfl (Or.inl rfl) (z0R z01)) (z04 (z2E PassesOwn.never rfl (y0h rfl M.range (z00 (z0c z2J (pv 1) z05) (z00 z05 (z00 (z7i z4c z05) z01)))) (z0u (i := 4) nd rfl (Or.inl rfl)) (z06 (z0G (z0a op_le (z0c z2J (pv 1) (pv 4)) (pv 2) (z0g _)) (z06 (z0p (z2l PySem.F.plainAttrs_list PySem.F.slot_list_append PySem.F.type_list_append z0I (pv 3) (z00 (z1o (z00 (pv 4) (z00 (z0B z0A rfl M.tuple PyProof.Rows.boot_tuple (z00 (z2y ["_law_row_here"] [] [] rfl (z0E rfl (by decide +kernel) rfl (by decide +kernel) rfl rfl) (y2T (z14 z0z (pv 0) (z0c z2J (pv 4) z05) (fun _ _ => rfl))) (fun _ _ _ _ _ => (z0u (i := 0) (show ((["_law_row_here"] : List PySem.Str) ++ ([] : List PySem.Str)).Nodup from by decide +kernel) rfl (Or.inl rfl))) (z0M (by decide)) z0q (fun _ _ _ _ _ => z22) (fun _ _ _ _ _ => (z14 (r := rIxT K) z3b (pv 0) z05 (fun _ _ => rfl)))) z01)) z01))) z01)))) z0h))) (z06 (z0o (z1o (z00 (pv 1) (z00 (z0B z0A rfl M.tuple PyProof.Rows.boot_tuple (z00 (z14 z0z (pv 0) (z0c z2J (pv 1) z05) (fun _ _ => rfl)) z01)) (z00 (z0B z0A rfl M.tuple PyProof.Rows.boot_tuple (z00 (pv 3) z01)) z01)))))))), ?_⟩
 refine ⟨(by show 0 ≤ sizeLine; decide), fun lt hlt => ?_⟩
 refine ⟨_, rfl, _, _, rfl, rfl, _, rfl, n - 1, 0, rfl, ⟨by omega, by omega, by decide, by decide⟩, ?_⟩
 have e0 : (n - 1 - 0).toNat = (n - 1).toNat := by rw [Int.sub_zero]
 rw [e0]
 refine y2e (hi := n - 1) (n := (n - 1).toNat) (fun j σ H' => ∃ (zs : List V) (o : Option V), H' lt = some (.lst zs) /\ z0d H' (((dnI (n - 1) j).filter fun k => decide (n - k ≤ r)).map (z9F rows)) zs /\ Same H H' /\
  σ = [some (.ref lr), some (.int n), some (.int r), some (.ref lt), o]) ⟨[], _, z03, .nil, z02 hlt _, rfl⟩ (fun j σ H' hj hp => ?_) (fun σ H' hp => ?_)
 ·obtain ⟨zs, o, p1, p2, p3, rfl⟩ := hp
  have lz := p2.length
  rw [List.length_map] at lz
  have lf := List.length_filter_le (fun k => decide (n - k ≤ r)) (dnI (n - 1) j)
  rw [z8z] at lf
  have st : ((dnI (n - 1) (j + 1)).filter fun k => decide (n - k ≤ r)) = ((dnI (n - 1) j).filter fun k => decide (n - k ≤ r)) ++ (if decide (n - (n - 1 - (j : Int)) ≤ r) = true then [n - 1 - (j : Int)] else []) := by
   rw [y2A, List.filter_append, List.filter_cons]
   rfl
  refine ⟨_, rfl, _, rfl, _, _, rfl, rfl, _, rfl, _, _, rfl, rfl, _, rfl, ?_⟩
  refine ite2 (fun c => ?_) (fun c => ?_)
  ·rw [if_pos c] at st
   have hTk := z0d.keep p3 _ _ hT
   obtain ⟨v, ev, av, tv⟩ := z7S hTk (k := n - 1 - (j : Int)) (by omega) (by omega)
   obtain ⟨ra, xs, rfl, hra, lxs, txs⟩ := z1e tv
   have lrow := y18 n12 (n - 1 - (j : Int))
   have lx := txs.length
   rw [List.length_map] at lx
   refine ⟨_, rfl, .inl ⟨rfl, _, SqL.of p1⟩, _, rfl, _, rfl, _, rfl, _, _, rfl, rfl, lr, _, _, _, rfl, rfl, p3.seq hS, av, ra, rfl, ⟨_, SqT.of hra⟩, ?_⟩
   refine z71 (xs := xs) (fun i ys H2 => H2 = H' /\ ys = ((z3e (z2G rows (n - 1 - (j : Int)))).take i).map V.str) ⟨rfl, rfl⟩ (fun i ys H2 hi hp => ?_) (fun i x ys H2 hx hp => ?_) (fun ys H2 hp => ?_)
   ·obtain ⟨rfl, rfl⟩ := hp
    refine ⟨SqT.of hra, z0k ?_⟩
    rw [List.length_map, List.length_take]
    omega
   ·obtain ⟨rfl, rfl⟩ := hp
    obtain ⟨p, a, er, rfl, ha⟩ := z3Q txs i x hx
    refine ⟨_, rfl, a, _, _, _, rfl, rfl, SqT.of ha, rfl, rfl, ?_⟩
    have en : (z3e (z2G rows (n - 1 - (j : Int))))[i]? = some p.1 := by unfold z3e; rw [List.getElem?_map, er]; rfl
    rw [z0X en, List.map_append]
    rfl
   ·obtain ⟨rfl, rfl⟩ := hp
    have ll : (z3e (z2G rows (n - 1 - (j : Int)))).length = xs.length := by unfold z3e; rw [List.length_map]; exact lx.symm
    rw [<- ll, List.take_length]
    intro D hD
    refine ⟨D, _, rfl, .inl ⟨SqL.of z03, fun t ht => ⟨(by show 2 ≤ sizeLine; decide), fun t2 ht2 => ?_⟩⟩⟩
    have g1 := (z02 (H := H2) hD (.lst ((z3e (z2G rows (n - 1 - (j : Int)))).map V.str))).trans ((z02 ht (.tup ((z3e (z2G rows (n - 1 - (j : Int)))).map V.str))).trans (z02 ht2 (.tup [.int (n - 1 - (j : Int)), .ref t])))
    refine ⟨lt, zs, _, rfl, rfl, g1 _ _ p1, z0k (by omega), ?_⟩
    refine ⟨_, some (.int (n - 1 - (j : Int))), z03, ?_, z4m (p3.trans g1) hlt, rfl⟩
    rw [st, List.map_append]
    refine z0d.over (g1 _ _ p1) y4x _ _ (z0d.snoc (z0d.keep g1 _ _ p2) (z0v z03 (by show 2 ≤ 1000000; decide) (.cons (z1m _) (.cons ?_ .nil))))
    refine z0v (z02 ht2 _ _ _ z03) ?_ (z4I _)
    rw [List.length_map, ll]
    omega
  ·rw [if_neg c, List.append_nil] at st
   refine ⟨zs, some (.int (n - 1 - (j : Int))), p1, ?_, p3, rfl⟩
   rw [st]
   exact p2
 ·obtain ⟨zs, o, p1, p2, p3, rfl⟩ := hp
  have lz := p2.length
  rw [List.length_map] at lz
  have lf := List.length_filter_le (fun k => decide (n - k ≤ r)) (dnI (n - 1) (n - 1).toNat)
  rw [z8z] at lf
  have hTk := z0d.keep p3 _ _ hT
  obtain ⟨v, ev, av, tv⟩ := z7S hTk n1 n2
  obtain ⟨ra, xs, rfl, hra, lxs, txs⟩ := z1e tv
  refine ⟨_, rfl, _, rfl, _, rfl, _, _, rfl, rfl, lr, _, _, _, rfl, rfl, p3.seq hS, av, ra, xs, rfl, .inr ⟨SqT.of hra, ?_⟩⟩
  refine ⟨_, rfl, lt, _, rfl, .inl ⟨SqL.of p1, fun t ht => ⟨(by show 3 ≤ sizeLine; decide), fun t2 ht2 => ?_⟩⟩⟩
  have g1 := (z02 (H := H') ht (.tup zs)).trans (z02 ht2 (.tup [.int n, .ref ra, .ref t]))
  refine q _ _ (p3.trans g1) ?_
  refine z0v z03 (by show 3 ≤ 1000000; decide) (.cons (z1m _) (.cons (Tell.keep g1 _ _ tv) (.cons ?_ .nil)))
  refine z0v (z02 ht2 _ _ _ z03) ?_ (z0d.keep g1 _ _ p2)
  rw [List.length_map]
  show ((dnI (n - 1) (n - 1).toNat).filter fun k => decide (n - k ≤ r)).length ≤ 1000000
  omega
structure GoodN (zs : List Str) : Prop where
 lo : 1 ≤ zs.length
 hi : zs.length ≤ 12
 nd : zs.Nodup
def SqN (K : PySem.W.Frag) (H : Hp) (p : Addr) (zs : List Str) : Prop := SqL K H p (zs.map V.str) \/ SqT K H p (zs.map V.str)
theorem SqN.keep {K : PySem.W.Frag} {H H' : Hp} {p : Addr} {zs : List Str} (h : Same H H') (x : SqN K H p zs) : SqN K H' p zs := x.imp (fun q => h.seq q) fun q => z4z h q
def z6N (K : PySem.W.Frag) : Sp := fun vs H Q _ => ∃ (p : Addr) (zs : List Str), vs = [.ref p] /\ SqN K H p zs /\ GoodN zs /\ ∀ H', Same H H' -> Q .non H'
theorem z8w (M : Bl mg) (F : Fun K "refuse_bad_names" "refuse_bad_names" z1J f fd) : FnOk P w K mg base CX0 1 f fd z1M (z6N K) := by
 have nd := z2s.nd
 refine F.ok z2s (fun vs H Q E h => ?_) (fun cdv A outer s H vs Q E hr h => ?_)
 ·obtain ⟨p, zs, rfl, _⟩ := h
  rfl
 ·obtain ⟨p, zs, rfl, hp, g, k⟩ := h
  refine ⟨_, (z04 (z0G (z0a z3I (z08 z07 rfl M.len PySem.boot_len (z00 (pv 0) z01)) z05 (z0g _)) (z06 z1b) z0h) (z04 (z0G (z0a z2f (z08 z07 rfl M.len PySem.boot_len (z00 (pv 0) z01)) (z0U rfl M.MOST_NAMES) (z0g _)) (z06 z1b) z0h) (z06 (z0G (z0a z5I (z08 z2Q rfl M.len PySem.boot_len (z00 (z0B (z2D rfl) rfl M.set PyProof.Rows.boot_set (z00 (pv 0) z01)) z01)) (z08 z07 rfl M.len PySem.boot_len (z00 (pv 0) z01)) (z0g _)) (z06 z1b) z0h)))), ?_⟩
  have := g.lo
  have := g.hi
  have el : (zs.map V.str).length = zs.length := List.length_map _
  refine ⟨_, rfl, p, _, rfl, hp, _, _, rfl, rfl, _, rfl, ite2 (fun q => absurd (z11 q) (by omega)) fun _ => ?_⟩
  refine ⟨_, rfl, p, _, rfl, hp, _, _, rfl, rfl, _, rfl, ite2 (fun q => absurd (z11 q) (by omega)) fun _ => ?_⟩
  refine ⟨_, rfl, p, zs, rfl, hp, by omega, fun l hl => ⟨l, zs, rfl, z03, by omega, _, rfl, p, zs.map V.str, rfl, SqN.keep (z02 hl _) hp, rfl, _, rfl, ?_⟩⟩
  refine y2i ?_ (k _ (z02 hl _))
  rw [z8k g.nd, el]
def z6O : Sp := fun vs H Q _ => ∃ r : Int, vs = [.int r] /\ 0 ≤ r /\ r ≤ 10 /\ Q .non H
theorem z8m (M : Bl mg) (F : Fun K "refuse_bad_reach" "refuse_bad_reach" z1I f fd) : FnOk P w K mg base CX0 1 f fd z1K z6O := by
 have nd := z2t.nd
 refine F.ok z2t (fun vs H Q E h => ?_) (fun cdv A outer s H vs Q E hr h => ?_)
 ·obtain ⟨r, rfl, _⟩ := h
  rfl
 ·obtain ⟨r, rfl, r0, r1, k⟩ := h
  refine ⟨_, (z06 (z0G (PW.pt (z2L (z0a z3I (pv 0) z05 (z0g _)) (z1F (z0a z2f (pv 0) (z0U rfl M.MOST_REACH) (z0g _))))) (z06 z1b) z0h)), ?_⟩
  refine ⟨_, rfl, _, _, rfl, rfl, _, rfl, ite2 (fun q => absurd (z11 q) (by omega)) fun _ => ?_⟩
  exact ⟨_, rfl, _, _, rfl, rfl, _, rfl, ite2 (fun q => absurd (z11 q) (by omega)) fun _ => k⟩
def HdN (K : PySem.W.Frag) (H : Hp) (p : Addr) (zs : List Str) : Prop := SqL K H p (zs.map V.str) \/ H p = some (.tup (zs.map V.str))
theorem HdN.sq {K : PySem.W.Frag} {H : Hp} {p : Addr} {zs : List Str} (h : HdN K H p zs) : SqN K H p zs := h.imp id SqT.of
theorem HdN.keep {K : PySem.W.Frag} {H H' : Hp} {p : Addr} {zs : List Str} (s : Same H H') (h : HdN K H p zs) : HdN K H' p zs := h.imp (fun q => s.seq q) fun q => s _ _ q
def z4L (K : PySem.W.Frag) : Sp := fun vs H Q _ => ∃ (p : Addr) (zs : List Str) (r : Int), vs = [.ref p, .int r] /\ HdN K H p zs /\ GoodN zs /\ 0 ≤ r /\ r ≤ 10 /\ ∀ (l : Addr) (H' : Hp), Same H H' -> H' l = some (.tup (zs.map V.str)) -> Q (.ref l) H'
theorem z8n (M : Bl mg) (F : Fun K "bulletin_names" "bulletin_names" z2a f fd) (Grefuse_bad_names : Cal P w K mg base 1 "refuse_bad_names" z1M (z6N K)) (Grefuse_bad_reach : Cal P w K mg base 1 "refuse_bad_reach" z1K z6O) :
  FnOk P w K mg base CX0 2 f fd z1A (z4L K) := by
 have nd := z37.nd
 refine F.ok z37 (fun vs H Q E h => ?_) (fun cdv A outer s H vs Q E hr h => ?_)
 ·obtain ⟨p, zs, r, rfl, _⟩ := h
  rfl
 ·obtain ⟨p, zs, r, rfl, hp, g, r0, r1, k⟩ := h
  refine ⟨_, (z04 (z0p (z0t Grefuse_bad_names (rm hr) rfl (z00 (pv 0) z01))) (z04 (z0p (z0t Grefuse_bad_reach (rm hr) rfl (z00 (pv 1) z01))) (z06 (z0o (z0B z0A rfl M.tuple PyProof.Rows.boot_tuple (z00 (pv 0) z01)))))), ?_⟩
  refine ⟨_, rfl, p, zs, rfl, hp.sq, g, fun H1 s1 => ⟨_, rfl, r, rfl, r0, r1, _, rfl, p, zs.map V.str, rfl, ?_⟩⟩
  rcases hp.keep s1 with hq | hq
  ·exact .inl ⟨hq, fun l hl => k l _ (s1.trans (z02 hl _)) z03⟩
  ·exact .inr ⟨SqT.of hq, k p _ s1 hq⟩
def z0f (fp : List Addr) (H H' : Hp) : Prop := ∀ b o, H b = some o -> b ∉ fp -> H' b = some o
theorem z0f.of {fp : List Addr} {H H' : Hp} (h : Same H H') : z0f fp H H' := fun b o e _ => h b o e
theorem z0f.then {fp : List Addr} {H H1 H2 : Hp} (h : z0f fp H H1) (g : Same H1 H2) : z0f fp H H2 := fun b o e n => g b o (h b o e n)
def z36 (H : Hp) (fp : List Addr) : Prop := ∀ b ∈ fp, ∀ xs, H b ≠ some (.tup xs)
mutual
theorem Tell.but {fp : List Addr} {H H' : Hp} (s : z0f fp H H') (n : z36 H fp) : ∀ (d : DV) (x : V), Tell H d x -> Tell H' d x
 | .non, _, h => by unfold Tell at h ⊢; exact h
 | .bl _, _, h => by unfold Tell at h ⊢; exact h
 | .int _, _, h => by unfold Tell at h ⊢; exact h
 | .str _, _, h => by unfold Tell at h ⊢; exact h
 | .tup ds, _, h => by
  unfold Tell at h ⊢
  obtain ⟨a, xs, e, h1, h2, h3⟩ := h
  exact ⟨a, xs, e, s _ _ h1 (fun m => n a m xs h1), h2, z0d.but s n ds xs h3⟩
theorem z0d.but {fp : List Addr} {H H' : Hp} (s : z0f fp H H') (n : z36 H fp) : ∀ (ds : List DV) (xs : List V), z0d H ds xs -> z0d H' ds xs
 | [], _, h => by unfold z0d at h ⊢; exact h
 | d :: ds, _, h => by
  unfold z0d at h ⊢
  obtain ⟨x, r, e, h1, h2⟩ := h
  exact ⟨x, r, e, Tell.but s n d x h1, z0d.but s n ds r h2⟩
end
theorem z7X {H : Hp} {x dx b : Addr} {o u v : HO} (nx : H x = none) (ndx : H dx = none) (h : H b = some o) : upd (upd H dx u) x v b = some o := by
 rw [z0b (z0j h nx), z0b (z0j h ndx)]
 exact h
theorem z5r {H H1 : Hp} {C x dx : Addr} (s : Same H H1) (nx : H1 x = none) (ndx : H1 dx = none) : Same H (upd (upd H1 dx (.own x)) x (.ins C dx [])) := fun _ _ e => z7X nx ndx (s _ _ e)
theorem z5v {H H1 H2 : Hp} {x : Addr} (b : z0f [x] H1 H2) (m : Same H H1) (nx : H x = none) : Same H H2 := fun c o e => b c o (m c o e) (by
 rw [List.mem_singleton]
 exact z0j e nx)
theorem z4O {H H1 : Hp} {x dx b : Addr} (m : Same H H1) (nx : H x = none) (ndx : H dx = none) (h : b = x \/ b = dx \/ H1 b = none) : H b = none := by
 rcases h with rfl | rfl | h
 ·exact nx
 ·exact ndx
 ·exact m.free h
theorem y17 {fp fp' fp2 : List Addr} {H7 H' GW : Hp} (bt : z0f fp H7 H') (ff : ∀ b ∈ fp', b ∈ fp \/ H7 b = none) (gW : Same H' GW) (hf2 : ∀ b ∈ fp2, b ∈ fp' \/ GW b = none) : ∀ b ∈ fp2, b ∈ fp \/ H7 b = none := fun b m => (hf2 b m).elim (ff b) fun z => by
 cases e : H7 b with
 | none => exact .inr rfl
 | some o =>
  by_cases nb : b ∈ fp
  ·exact .inl nb
  ·rw [gW _ _ (bt b o e nb)] at z
   cases z
def z2V (had : List Int) : List Int := (upI 1 60).filter fun x => decide (x ∈ had)
def topL (had : List Int) : Int := (z2V had).getLastD 0
def addN (had : List Int) (n : Int) : List Int := if n ∈ had then had else had ++ [n]
theorem z9c {had : List Int} {n x : Int} : x ∈ addN had n ↔ x ∈ had \/ x = n := by
 unfold addN
 by_cases h : n ∈ had
 ·rw [if_pos h]
  exact ⟨.inl, fun q => q.elim id fun e => e ▸ h⟩
 ·rw [if_neg h, List.mem_append, List.mem_singleton]
theorem y0M {had : List Int} {x : Int} : x ∈ z2V had ↔ (1 ≤ x /\ x < 1 + 60) /\ x ∈ had := by
 unfold z2V
 rw [List.mem_filter, z1Z, decide_eq_true_eq]
 rfl
theorem z6E (had : List Int) : (z2V had).Pairwise (· < ·) := (z3y 1 60).filter _
theorem y0a (had : List Int) : (z2V had).length ≤ 60 := by
 have h := List.length_filter_le (fun x => decide (x ∈ had)) (upI 1 60)
 rw [z0P] at h
 exact h
theorem y1o {ns ms : List Int} (nd : ns.Nodup) (hall : ∀ x ∈ ns, 1 ≤ x /\ x ≤ 60) (hp : ms.Perm ns) (hs : ms.Pairwise (· ≤ ·)) : ms = z2V ns := by
 have n2 : ms.Nodup := hp.nodup_iff.mpr nd
 have lt : ms.Pairwise (· < ·) := by
  have := List.pairwise_and_iff.mpr ⟨hs, n2⟩
  exact this.imp fun h => by
   have := h.1
   have := h.2
   omega
 refine z4i lt (z6E _) fun x => ?_
 rw [y0M, hp.mem_iff]
 exact ⟨fun h => ⟨by have := hall x h; omega, h⟩, fun h => h.2⟩
abbrev ShP := Hp -> Addr -> List Addr -> List Str -> Int -> (Int -> DV) -> List Int -> Prop
structure ShOk (C : Addr) (ms : List Str) (Sh : ShP) : Prop where
 ins : ∀ {H p fp zs r iss had}, Sh H p fp zs r iss had -> ∃ dx fs, H p = some (.ins C dx fs) /\ ∀ m ∈ ms, fs.lookup m = none
 own : ∀ {H p fp zs r iss had}, Sh H p fp zs r iss had -> ∀ b ∈ fp, ∃ o, H b = some o /\ ∀ xs, o ≠ .tup xs
 keep : ∀ {H H' p fp gp zs r iss had}, Sh H p fp zs r iss had -> z0f gp H H' -> (∀ b ∈ gp, b ∉ fp) -> z36 H gp -> Sh H' p fp zs r iss had
theorem ShOk.same {C : Addr} {ms : List Str} {Sh : ShP} (O : ShOk C ms Sh) {H H' : Hp} {p : Addr} {fp : List Addr} {zs : List Str} {r : Int} {iss : Int -> DV} {had : List Int} (h : Sh H p fp zs r iss had) (s : Same H H') : Sh H' p fp zs r iss had :=
 O.keep (gp := []) h (.of s) (fun _ q => by cases q) fun _ q => by cases q
theorem ShOk.noTup {C : Addr} {ms : List Str} {Sh : ShP} (O : ShOk C ms Sh) {H : Hp} {p : Addr} {fp : List Addr} {zs : List Str} {r : Int} {iss : Int -> DV} {had : List Int} (h : Sh H p fp zs r iss had) : z36 H fp := fun b m xs e => by
 obtain ⟨o, e1, n⟩ := O.own h b m
 rw [e1] at e
 exact n xs (Option.some.inj e)
def z9j (K : PySem.W.Frag) (C : Addr) (Sh : ShP) : Sp := fun vs H Q _ => ∃ (x dx pn : Addr) (zs : List Str) (r : Int), vs = [.ref x, .ref pn, .int r] /\ H x = some (.ins C dx []) /\ dx ≠ x /\ H dx = some (.own x) /\ HdN K H pn zs /\ GoodN zs /\ 0 ≤ r /\ r ≤ 10 /\
 ∀ (fp : List Addr) (H' : Hp), (∀ b ∈ fp, b = x \/ b = dx \/ H b = none) -> z0f [x] H H' -> (∀ iss, Sh H' x fp zs r iss []) -> Q .non H'
def y4A (Sh : ShP) : Sp := fun vs H Q _ => ∃ (p : Addr) (v : V) (fp : List Addr) (zs : List Str) (r : Int) (iss : Int -> DV) (had : List Int) (n : Int) (ds : List DV), vs = [.ref p, v] /\ Sh H p fp zs r iss had /\ Tell H (iss n) v /\ iss n = .tup (.int n :: ds) /\ 1 ≤ n /\ n ≤ 60 /\
 ∀ (fp' : List Addr) (H' : Hp), (∀ b ∈ fp', b ∈ fp \/ H b = none) -> z0f fp H H' -> Sh H' p fp' zs r iss (addN had n) -> Q (.bl (decide (n ∉ had))) H'
def z8u (Sh : ShP) : Sp := fun vs H Q _ => ∃ (p : Addr) (fp : List Addr) (zs : List Str) (r : Int) (iss : Int -> DV) (had : List Int), vs = [.ref p] /\ Sh H p fp zs r iss had /\
 ∀ (l : Addr) (H' : Hp), Same H H' -> H' l = some (.tup ((z2V had).map V.int)) -> Q (.ref l) H'
def z9V (Sh : ShP) : Sp := fun vs H Q _ => ∃ (p : Addr) (fp : List Addr) (zs : List Str) (r : Int) (iss : Int -> DV) (had : List Int), vs = [.ref p] /\ Sh H p fp zs r iss had /\ ∀ H', Same H H' -> Q (.int (topL had)) H'
def ShD (K : PySem.W.Frag) (C : Addr) : ShP := fun H p fp zs r iss had => ∃ (dx pn pd : Addr) (fs : List (Str × V)) (kvs : List (Key × V)), fp = [p, dx, pd] /\ H p = some (.ins C dx fs) /\ H dx = some (.own p) /\ H pn = some (.tup (zs.map V.str)) /\ H pd = some (.dK kvs) /\
 fs.lookup ("names" : Str) = some (V.ref pn) /\ fs.lookup ("reach" : Str) = some (V.int r) /\ fs.lookup ("issues" : Str) = some (V.ref pd) /\ (∀ m ∈ (["put", "had", "latest", "rows_of", "tail_of"] : List Str), fs.lookup m = none) /\
 kvs.map (·.1) = had.map Sum.inl /\ had.Nodup /\ (∀ n ∈ had, 1 ≤ n /\ n ≤ 60) /\ (∀ n v, (Sum.inl n, v) ∈ kvs -> Tell H (iss n) v) /\ GoodN zs /\ 0 ≤ r /\ r ≤ 10
theorem ShD.ins {K : PySem.W.Frag} {C : Addr} {H : Hp} {p : Addr} {fp : List Addr} {zs : List Str} {r : Int} {iss : Int -> DV} {had : List Int} (h : ShD K C H p fp zs r iss had) : ∃ dx fs, H p = some (.ins C dx fs) /\ ∀ m ∈ (["put", "had", "latest", "rows_of", "tail_of"] : List Str), fs.lookup m = none := by
 obtain ⟨dx, pn, pd, fs, kvs, e, h1, h2, h3, h4, l1, l2, l3, lm, _⟩ := h
 exact ⟨dx, fs, h1, lm⟩
theorem shOk {K : PySem.W.Frag} {C : Addr} : ShOk C ["put", "had", "latest"] (ShD K C) := by
 refine ⟨fun h => ?_, fun h b hb => ?_, fun h s out nt => ?_⟩
 ·obtain ⟨dx, fs, h1, lm⟩ := ShD.ins h
  refine ⟨dx, fs, h1, fun m hm => lm m ?_⟩
  simp only [List.mem_cons, List.not_mem_nil, or_false] at hm ⊢
  rcases hm with h | h | h <;> simp [h]
 ·obtain ⟨dx, pn, pd, fs, kvs, rfl, h1, h2, h3, h4, _⟩ := h
  rcases List.mem_cons.mp hb with rfl | hb
  ·exact ⟨_, h1, fun xs z => by cases z⟩
  rcases List.mem_cons.mp hb with rfl | hb
  ·exact ⟨_, h2, fun xs z => by cases z⟩
  rw [List.mem_singleton.mp hb]
  exact ⟨_, h4, fun xs z => by cases z⟩
 ·obtain ⟨dx, pn, pd, fs, kvs, rfl, h1, h2, h3, h4, l1, l2, l3, lm, kk, nd, all, tl, g⟩ := h
  exact ⟨dx, pn, pd, fs, kvs, rfl, s _ _ h1 (fun m => out _ m (by simp)), s _ _ h2 (fun m => out _ m (by simp)), s _ _ h3 (fun m => nt _ m _ h3), s _ _ h4 (fun m => out _ m (by simp)), l1, l2, l3, lm, kk, nd, all, fun n v hv => Tell.but s nt _ _ (tl n v hv), g⟩
theorem y0P {CShelf : Addr} (M : Bl mg) (T : TxShelf K mg CShelf) (F : Fun K "__init__" "Shelf.__init__" z2c f fd) (Gbulletin_names : Cal P w K mg base 2 "bulletin_names" z1A (z4L K)) :
  FnOk P w K mg base CX0 3 f fd z2d (z9j K CShelf (ShD K CShelf)) := by
 have nd := z3d.nd
 refine F.ok z3d (fun vs H Q E h => ?_) (fun cdv A outer s H vs Q E hr h => ?_)
 ·obtain ⟨x, dx, pn, zs, r, rfl, _⟩ := h
  rfl
 obtain ⟨x, dx, pn, zs, r, rfl, hx, ne, hdx, hn, g, r0, r1, k⟩ := h
 refine ⟨_, (z04 (z4t (pv 0) (z0t Gbulletin_names (rm hr) rfl (z00 (pv 1) (z00 (pv 2) z01))) rfl) (z04 (z4t (pv 0) (pv 2) rfl) (z06 (z4t (pv 0) y22 rfl)))), ?_⟩
 refine ⟨_, rfl, _, rfl, pn, zs, r, rfl, hn, g, r0, r1, fun l H1 s1 e1 => ?_⟩
 refine ⟨_, rfl, x, CShelf, dx, [], rfl, s1 _ _ hx, T.cl, T.n_names, by decide, ?_⟩
 have z1 := z1h "names" (.ref l) []
 have z2 := z1h "reach" (.int r) (putF "names" (.ref l) [])
 have z0 : ([] : List (Str × V)).length = 0 := rfl
 refine ⟨_, rfl, _, rfl, x, CShelf, dx, _, rfl, z03, T.cl, T.n_reach, (by omega), ?_⟩
 rw [z77]
 intro pd hd
 have nx : x ≠ pd := z0j z03 hd
 have ndd : dx ≠ pd := z0j (show upd H1 x _ dx = some _ by rw [z0b ne]; exact s1 _ _ hdx) hd
 have nl : l ≠ x := z4A e1 (s1 _ _ hx) (fun z => by cases z)
 have nlp : l ≠ pd := z0j (show upd H1 x _ l = some _ by rw [z0b nl]; exact e1) hd
 have dfr : H1 pd = none := by rw [z0b (Ne.symm nx)] at hd; exact hd
 refine ⟨_, rfl, x, CShelf, dx, _, rfl, (by rw [z0b nx, z03]), T.cl, T.n_issues, (by omega), ?_⟩
 refine k [x, dx, pd] _ (fun b hb => ?_) (fun b o e nb => ?_) (fun iss => ⟨dx, l, pd, _, [], rfl, z03, ?_, ?_, ?_, ?_, ?_, ?_, ?_, rfl, .nil, fun _ q => (nomatch q), fun _ _ q => (nomatch q), g, r0, r1⟩)
 ·simp only [List.mem_cons, List.not_mem_nil, or_false] at hb
  rcases hb with rfl | rfl | rfl
  ·exact .inl rfl
  ·exact .inr (.inl rfl)
  ·exact .inr (.inr (s1.free dfr))
 ·rw [List.mem_singleton] at nb
  rw [z0b nb, z0b (z0j e (s1.free dfr)), z0b nb]
  exact s1 _ _ e
 ·rw [z0b ne, z0b ndd, z0b ne]
  exact s1 _ _ hdx
 ·rw [z0b nl, z0b nlp, z0b nl]
  exact e1
 ·rw [z0b (Ne.symm nx), z03]
 ·rw [z0e, if_neg (by decide +kernel), z0e, if_neg (by decide +kernel), z0e, if_pos rfl]
 ·rw [z0e, if_neg (by decide +kernel), z0e, if_pos rfl]
 ·rw [z0e, if_pos rfl]
 ·intro m hm
  simp only [List.mem_cons, List.not_mem_nil, or_false] at hm
  rcases hm with rfl | rfl | rfl | rfl | rfl <;> rw [z0e, if_neg (by decide +kernel), z0e, if_neg (by decide +kernel), z0e, if_neg (by decide +kernel)] <;> rfl
theorem y4D {α : Type} [DecidableEq α] : ∀ {l1 l2 : List α}, l1.Nodup -> (∀ x ∈ l1, x ∈ l2) -> l1.length ≤ l2.length
 | [], _, _, _ => Nat.zero_le _
 | x :: r, l2, nd, sub => by
  rw [List.nodup_cons] at nd
  have hx := sub x List.mem_cons_self
  have := y4D (l1 := r) (l2 := l2.erase x) nd.2 fun y hy => (List.mem_erase_of_ne (fun (e : y = x) => nd.1 (e ▸ hy))).mpr (sub y (List.mem_cons_of_mem _ hy))
  rw [List.length_erase_of_mem hx] at this
  have h0 := List.length_pos_of_mem hx
  rw [List.length_cons]
  omega
theorem z73 {had : List Int} (nd : had.Nodup) (all : ∀ n ∈ had, 1 ≤ n /\ n ≤ 60) : had.length ≤ 60 := by
 have h := y4D (l2 := upI 1 60) nd fun n hn => z1Z.mpr (by have := all n hn; omega)
 rw [z0P] at h
 exact h
theorem y0T {kvs : List (Key × V)} {had : List Int} (kk : kvs.map (·.1) = had.map Sum.inl) (n : Int) : (valV kvs (Sum.inl n)).isSome = decide (n ∈ had) := by
 rw [<- z5l]
 have e : (kvs.any fun kv => decide (kv.1 = Sum.inl n)) = (kvs.map (·.1)).any fun k => decide (k = Sum.inl n) := by rw [List.any_map]; rfl
 rw [e, kk, List.any_map]
 by_cases h : n ∈ had
 ·rw [decide_eq_true h, List.any_eq_true]
  exact ⟨n, h, decide_eq_true rfl⟩
 ·rw [decide_eq_false h, List.any_eq_false]
  intro m hm z
  have e := of_decide_eq_true z
  cases e
  exact h hm
theorem y4i {CShelf : Addr} (M : Bl mg) (T : TxShelf K mg CShelf) (F : Fun K "put" "Shelf.put" z4D f fd) : FnOk P w K mg base CX0 1 f fd z4N (y4A (ShD K CShelf)) := by
 have nd := z5S.nd
 refine F.ok z5S (fun vs H Q E h => ?_) (fun cdv A outer s H vs Q E hr h => ?_)
 ·obtain ⟨p, v, fp, zs, r, iss, had, n, ds, rfl, _⟩ := h
  rfl
 obtain ⟨p, v, fp, zs, r, iss, had, n, ds, rfl, sh, tv, en, n1, n2, k⟩ := h
 have hu := y15 hr
 refine ⟨_, (z04 (z0n (i := 2) nd rfl (Or.inl rfl) (z14 z3b (pv 1) z05 (fun _ _ => rfl))) (z04 (z0G (y1a (y2W hu (pv 2) (z0s (pv 0) rfl))) (z06 (z0o z3J)) z0h) (z04 (y35 hu (z0s (pv 0) rfl) (pv 2) (pv 1) rfl) (z06 (z0o z3J))))), ?_⟩
 obtain ⟨dx, pn, pd, fs, kvs, rfl, h1, h2, h3, h4, l1, l2, l3, lm, kk, ndh, all, tl, g, r0, r1⟩ := sh
 rw [en] at tv
 obtain ⟨a, us, rfl, ea, _, tu⟩ := z1e tv
 obtain ⟨x0, ur, rfl, t0, _⟩ := z1s tu
 cases z4V t0
 refine ⟨_, rfl, a, _, _, _, rfl, rfl, SqT.of ea, z1E rfl, ?_⟩
 refine ⟨_, rfl, _, rfl, p, CShelf, dx, fs, _, rfl, h1, T.cl, T.n_issues, l3, pd, _, rfl, DGet.k (k := Sum.inl n) h4, ?_⟩
 refine ⟨_, rfl, ?_⟩
 rw [y0T kk]
 have fr : ∀ b ∈ [p, dx, pd], ∃ o, H b = some o := fun b hb => by
  simp only [List.mem_cons, List.not_mem_nil, or_false] at hb
  rcases hb with rfl | rfl | rfl
  ·exact ⟨_, h1⟩
  ·exact ⟨_, h2⟩
  ·exact ⟨_, h4⟩
 refine ite2 (fun c => ?_) (fun c => ?_)
 ·have c' := z11 c
  have e := k [p, dx, pd] H (fun b hb => .inl hb) (fun b o e _ => e) ⟨dx, pn, pd, fs, kvs, rfl, h1, h2, h3, h4, l1, l2, l3, lm, by unfold addN; rw [if_pos c']; exact kk, by unfold addN; rw [if_pos c']; exact ndh, fun m hm => ?_, tl, g, r0, r1⟩
  ·rw [decide_eq_false (fun z => z c')] at e
   exact e
  ·unfold addN at hm
   rw [if_pos c'] at hm
   exact all m hm
 ·have c' := z6p c
  have lk : kvs.length ≤ 60 := by
   have e2 := congrArg List.length kk
   rw [List.length_map, List.length_map] at e2
   have := z73 ndh all
   omega
  have en' : valV kvs (Sum.inl n : Key) = none := by
   have := y0T kk n
   rw [decide_eq_false c'] at this
   cases e : valV kvs (Sum.inl n : Key) with
   | none => rfl
   | some v => rw [e] at this; cases this
  refine ⟨_, rfl, _, rfl, p, CShelf, dx, fs, _, rfl, h1, T.cl, T.n_issues, l3, _, rfl, pd, _, rfl, DPut.k (k := Sum.inl n) h4 (z0k (by omega)), ?_⟩
  rw [y1V _ en']
  have np : p ≠ pd := z4A h1 h4 (fun z => by cases z)
  have nx : dx ≠ pd := z4A h2 h4 (fun z => by cases z)
  have nn : pn ≠ pd := z4A h3 h4 (fun z => by cases z)
  have e := k [p, dx, pd] (upd H pd (.dK (kvs ++ [(Sum.inl n, .ref a)]))) (fun b hb => .inl hb) (fun b o e nb => by rw [z0b (fun z => nb (by rw [z]; simp))]; exact e)
   ⟨dx, pn, pd, fs, _, rfl, by rw [z0b np]; exact h1, by rw [z0b nx]; exact h2, by rw [z0b nn]; exact h3, z03, l1, l2, l3, lm, ?_, ?_, fun m hm => ?_, fun m v hv => ?_, g, r0, r1⟩
  ·rw [decide_eq_true c'] at e
   exact e
  ·unfold addN
   rw [if_neg c', List.map_append, List.map_append, kk]
   rfl
  ·unfold addN
   rw [if_neg c', List.nodup_append]
   exact ⟨ndh, by simp, fun x hx y hy z => by rw [List.mem_singleton] at hy; subst hy; subst z; exact c' hx⟩
  ·rcases z9c.mp hm with h | rfl
   ·exact all m h
   ·omega
  ·refine Tell.over h4 (fun _ z => by cases z) _ _ ?_
   rcases List.mem_append.mp hv with h | h
   ·exact tl m v h
   ·rw [List.mem_singleton] at h
    cases h
    rw [en]
    exact tv
theorem y2j {CShelf : Addr} (M : Bl mg) (T : TxShelf K mg CShelf) (F : Fun K "had" "Shelf.had" z4F f fd) : FnOk P w K mg base CX0 1 f fd z3G (z8u (ShD K CShelf)) := by
 have nd := z5t.nd
 refine F.ok z5t (fun vs H Q E h => ?_) (fun cdv A outer s H vs Q E hr h => ?_)
 ·obtain ⟨p, fp, zs, r, iss, had, rfl, _⟩ := h
  rfl
 obtain ⟨p, fp, zs, r, iss, had, rfl, sh, k⟩ := h
 refine ⟨_, (z06 (z0o (z0B z0A rfl M.tuple PyProof.Rows.boot_tuple (z00 (z08 (z5g rfl) rfl M.sorted PyProof.Rows.boot_sorted (z00 (z0s (pv 0) rfl) z01)) z01)))), ?_⟩
 obtain ⟨dx, pn, pd, fs, kvs, rfl, h1, h2, h3, h4, l1, l2, l3, lm, kk, ndh, all, tl, g, r0, r1⟩ := sh
 refine ⟨_, rfl, p, CShelf, dx, fs, _, rfl, h1, T.cl, T.n_issues, l3, pd, kvs, had, rfl, h4, kk, Nat.lt_of_le_of_lt (z73 ndh all) (by decide), fun l ms hl hp hs => ?_⟩
 rw [y1o ndh all hp hs]
 exact ⟨l, _, rfl, .inl ⟨SqL.of z03, fun t ht => k t _ ((z02 hl _).trans (z02 ht _)) z03⟩⟩
theorem y26 {had : List Int} {m : Int} (hm : m ∈ z2V had) (hb : ∀ y ∈ z2V had, y ≤ m) : m = topL had := by
 unfold topL
 have ne : z2V had ≠ [] := fun z => by rw [z] at hm; cases hm
 have e : (z2V had).getLastD 0 = (z2V had).getLast ne := by rw [List.getLastD_eq_getLast?, List.getLast?_eq_some_getLast ne] <;> rfl
 rw [e]
 have h1 := hb _ (List.getLast_mem ne)
 have d : z2V had = (z2V had).dropLast ++ [(z2V had).getLast ne] := (List.dropLast_concat_getLast ne).symm
 have rs := z6E had
 rw [d] at hm rs
 rcases List.mem_append.mp hm with h | h
 ·have := (List.pairwise_append.mp rs).2.2 m h _ (List.mem_singleton.mpr rfl)
  omega
 ·exact List.mem_singleton.mp h
theorem y0A {CShelf : Addr} (M : Bl mg) (T : TxShelf K mg CShelf) (F : Fun K "latest" "Shelf.latest" z2P f fd) (GShelf_had : MCal P w K mg base 1 CShelf "had" z3G (z8u (ShD K CShelf))) : FnOk P w K mg base CX0 2 f fd z4f (z9V (ShD K CShelf)) := by
 have nd := z3N.nd
 refine F.ok z3N (fun vs H Q E h => ?_) (fun cdv A outer s H vs Q E hr h => ?_)
 ·obtain ⟨p, fp, zs, r, iss, had, rfl, _⟩ := h
  rfl
 obtain ⟨p, fp, zs, r, iss, had, rfl, sh, k⟩ := h
 refine ⟨_, (z06 (z0o (y3A rfl rfl M.max (z00 (z2R GShelf_had (rm hr) (pv 0)) z01) (y3k z05 y3Y)))), ?_⟩
 obtain ⟨dx, fs, h1, lm⟩ := shOk.ins sh
 refine ⟨_, rfl, p, dx, fs, rfl, h1, lm _ (by simp), p, fp, zs, r, iss, had, rfl, sh, fun l H1 s1 e1 => ?_⟩
 refine ⟨l, z2V had, _, rfl, rfl, .inr (SqT.of e1), fun z => ?_, fun m hm hb => ?_⟩
 ·have e : topL had = 0 := by unfold topL; rw [z]; rfl
  have := k H1 s1
  rw [e] at this
  exact this
 ·rw [y26 hm hb]
  exact k H1 s1
theorem y1J {ds : List DV} {n : Nat} (h : ∀ d ∈ ds, d.deep ≤ n) : DV.deeps ds ≤ n := by
 induction ds with
 | nil => unfold DV.deeps; exact Nat.zero_le _
 | cons d r ih =>
  unfold DV.deeps
  exact Nat.max_le.mpr ⟨h d List.mem_cons_self, ih fun x hx => h x (List.mem_cons_of_mem _ hx)⟩
theorem z1G {ds : List DV} {n : Nat} (h : ∀ d ∈ ds, d.deep ≤ n) : (DV.tup ds).deep ≤ n + 1 := by
 unfold DV.deep
 exact Nat.succ_le_succ (y1J h)
theorem z29 (i : Int) (n : Nat) : (DV.int i).deep ≤ n := by unfold DV.deep; exact Nat.zero_le _
theorem z3z (i : Str) (n : Nat) : (DV.str i).deep ≤ n := by unfold DV.deep; exact Nat.zero_le _
theorem y2s (s : List Str) : (nmsD s).deep ≤ 1 := z1G fun d hd => by
 obtain ⟨x, _, rfl⟩ := List.mem_map.mp hd
 exact z3z _ _
theorem z6v {rows : List Row} {j : Nat} {k : Int} (h0 : 1 ≤ k) (h : k ≤ j) : z2G (rows.take j) k = z2G rows k := by
 unfold z2G
 have hk : (k - 1).toNat < j := by omega
 rw [List.getD_eq_getElem?_getD, List.getD_eq_getElem?_getD, List.getElem?_take, if_pos hk]
theorem z8f {rows : List Row} {j : Nat} {n r : Int} (h0 : 1 ≤ n) (h : n ≤ j) : z1r (rows.take j) n r = z1r rows n r := by
 unfold z1r y2p
 rw [z6v h0 h]
 have e : (z9A n r).map (z9F (rows.take j)) = (z9A n r).map (z9F rows) := List.map_congr_left fun k hk => by
  unfold z9A at hk
  rw [List.mem_filter, z8d] at hk
  unfold z9F
  rw [z6v (by omega) (by omega)]
 rw [e]
abbrev OfP := Hp -> Addr -> List Addr -> List Str -> Int -> List Row -> Prop
structure OfOk (C : Addr) (ms : List Str) (Of : OfP) : Prop where
 ins : ∀ {H p fp zs r rows}, Of H p fp zs r rows -> ∃ dx fs, H p = some (.ins C dx fs) /\ ∀ m ∈ ms, fs.lookup m = none
 own : ∀ {H p fp zs r rows}, Of H p fp zs r rows -> ∀ b ∈ fp, ∃ o, H b = some o /\ ∀ xs, o ≠ .tup xs
 keep : ∀ {H H' p fp gp zs r rows}, Of H p fp zs r rows -> z0f gp H H' -> (∀ b ∈ gp, b ∉ fp) -> z36 H gp -> Of H' p fp zs r rows
theorem OfOk.same {C : Addr} {ms : List Str} {Of : OfP} (O : OfOk C ms Of) {H H' : Hp} {p : Addr} {fp : List Addr} {zs : List Str} {r : Int} {rows : List Row} (h : Of H p fp zs r rows) (s : Same H H') : Of H' p fp zs r rows :=
 O.keep (gp := []) h (.of s) (fun _ q => by cases q) fun _ q => by cases q
theorem OfOk.noTup {C : Addr} {ms : List Str} {Of : OfP} (O : OfOk C ms Of) {H : Hp} {p : Addr} {fp : List Addr} {zs : List Str} {r : Int} {rows : List Row} (h : Of H p fp zs r rows) : z36 H fp := fun b m xs e => by
 obtain ⟨o, e1, n⟩ := O.own h b m
 rw [e1] at e
 exact n xs (Option.some.inj e)
def z79 (K : PySem.W.Frag) (H : Hp) (fp : List Addr) (u : V) (p : Str × Int) : Prop := ∃ a, u = .ref a /\ (SqL K H a [.str p.1, .int p.2] \/ SqT K H a [.str p.1, .int p.2]) /\ a ∉ fp
def z9a (K : PySem.W.Frag) (H : Hp) (fp : List Addr) (v : V) (pr : Row) : Prop := ∃ a us, v = .ref a /\ SqP K H a us /\ a ∉ fp /\ Paired (z79 K H fp) us pr
def z0T (zs : List Str) (pr : Row) : Row := zs.filterMap fun z => pr.find? fun p => decide (p.1 = z)
structure GoodR (zs : List Str) (pr : Row) : Prop where
 nd : (pr.map Prod.fst).Nodup
 sub : ∀ p ∈ pr, p.1 ∈ zs
 val : ∀ p ∈ pr, 0 ≤ p.2 /\ p.2 ≤ 1000000
def z9h (K : PySem.W.Frag) (C : Addr) (Of : OfP) : Sp := fun vs H Q _ => ∃ (x dx pn : Addr) (zs : List Str) (r : Int), vs = [.ref x, .ref pn, .int r] /\ H x = some (.ins C dx []) /\ dx ≠ x /\ H dx = some (.own x) /\ HdN K H pn zs /\ GoodN zs /\ 0 ≤ r /\ r ≤ 10 /\
 ∀ (fp : List Addr) (H' : Hp), (∀ b ∈ fp, b = x \/ b = dx \/ H b = none) -> z0f [x] H H' -> Of H' x fp zs r [] -> Q .non H'
def z48 (K : PySem.W.Frag) (Of : OfP) : Sp := fun vs H Q _ => ∃ (p : Addr) (v : V) (fp : List Addr) (zs : List Str) (r : Int) (rows : List Row) (pr : Row), vs = [.ref p, v] /\ Of H p fp zs r rows /\ z9a K H fp v pr /\ GoodR zs pr /\ pr.length ≤ 12 /\ rows.length < 60 /\
 ∀ (fp' : List Addr) (H' : Hp), (∀ b ∈ fp', b ∈ fp \/ H b = none) -> z0f fp H H' -> Of H' p fp' zs r (rows ++ [z0T zs pr]) -> Q (.int (rows.length + 1)) H'
def z6t (Of : OfP) : Sp := fun vs H Q _ => ∃ (p : Addr) (fp : List Addr) (zs : List Str) (r : Int) (rows : List Row), vs = [.ref p] /\ Of H p fp zs r rows /\ ∀ H', Same H H' -> Q (.int rows.length) H'
def z1D (Of : OfP) : Sp := fun vs H Q _ => ∃ (p : Addr) (fp : List Addr) (zs : List Str) (r : Int) (rows : List Row) (n : Int), vs = [.ref p, .int n] /\ Of H p fp zs r rows /\ 1 ≤ n /\ n ≤ rows.length /\
 ∀ (v : V) (H' : Hp), Same H H' -> Tell H' (z1r rows n r) v -> Q v H'
theorem z8S {zs : List Str} : z0T zs [] = [] := by
 unfold z0T
 induction zs with
 | nil => rfl
 | cons z r ih => rw [List.filterMap_cons]; exact ih
theorem z2p {z : Str} {zs : List Str} {pr : Row} : z0T (z :: zs) pr = (match pr.find? fun p => decide (p.1 = z) with | some p => p :: z0T zs pr | none => z0T zs pr) := by
 unfold z0T
 rw [List.filterMap_cons]
 cases pr.find? fun p => decide (p.1 = z) <;> rfl
theorem z5a {p : Str × Int} {w : Row} : ∀ {zs : List Str}, p.1 ∉ zs -> z0T zs (p :: w) = z0T zs w
 | [], _ => rfl
 | y :: ys, h => by
  rw [List.mem_cons, not_or] at h
  rw [z2p, z2p, List.find?_cons, decide_eq_false h.1, z5a h.2]
theorem z41 : ∀ {zs : List Str} {w : Row}, zs.Nodup -> (w.map Prod.fst).Sublist zs -> z0T zs w = w
 | [], w, _, h => by
  have : w.map Prod.fst = [] := List.sublist_nil.mp h
  rw [List.map_eq_nil_iff] at this
  rw [this]
  rfl
 | z :: zs, w, nd, h => by
  rw [List.nodup_cons] at nd
  generalize e : w.map Prod.fst = l at h
  cases h with
  | cons _ h =>
   subst e
   have no : w.find? (fun p => decide (p.1 = z)) = none := List.find?_eq_none.mpr fun p hp => by
    have : p.1 ∈ zs := h.subset (List.mem_map_of_mem hp)
    intro e
    exact nd.1 (of_decide_eq_true e ▸ this)
   rw [z2p, no]
   exact z41 nd.2 h
  | cons_cons _ h =>
   cases w with
   | nil => cases e
   | cons p w =>
    rw [List.map_cons] at e
    injection e with e1 e2
    subst e2
    rw [z2p, List.find?_cons, decide_eq_true e1, z5a (by rw [e1]; exact nd.1), z41 nd.2 h]
def tsN (n : Int) (j : Nat) : List Int := (dnI n j).filter fun k => decide (1 ≤ k)
def tsP (ss : List (List Str)) (k : Int) : DV := .tup [.int k, nmsD (ss.getD (k - 1).toNat [])]
def tsD (ss : List (List Str)) (r : Int) : DV := .tup ((tsN ss.length r.toNat).map (tsP ss))
theorem y3u (n : Int) (j : Nat) : (tsN n j).length ≤ j := by
 have h := List.length_filter_le (fun k => decide (1 ≤ k)) (dnI n j)
 rw [z8z] at h
 exact h
def y0K (K : PySem.W.Frag) : Sp := fun vs H Q _ => ∃ (p : Addr) (xs : List V) (ss : List (List Str)) (r : Int), vs = [.ref p, .int r] /\ (SqL K H p xs \/ SqT K H p xs) /\ z0d H (ss.map nmsD) xs /\ ss.length ≤ 59 /\ (∀ s ∈ ss, s.length ≤ 12) /\ 0 ≤ r /\ r ≤ 10 /\
 ∀ (v : V) (H' : Hp), Same H H' -> Tell H' (tsD ss r) v -> Q v H'
def z7L : Sp := fun vs H Q _ => ∃ n r : Int, vs = [.int n, .int r] /\ 1 ≤ n /\ n ≤ 60 /\ 0 ≤ r /\ r ≤ 10 /\
 ∀ (l : Addr) (H' : Hp), Same H H' -> H' l = some (.tup (((upI 1 60).filter fun x => decide (x ≤ n) && decide (n - x ≤ r)).map V.int)) -> Q (.ref l) H'
theorem z9B {n r : Int} (h1 : 1 ≤ n) (h2 : n ≤ 60) (h3 : 0 ≤ r) (h4 : r ≤ 10) :
  rngV (if n - r > 1 then n - r else 1) (n + 1 - (if n - r > 1 then n - r else 1)).toNat = ((upI 1 60).filter fun x => decide (x ≤ n) && decide (n - x ≤ r)).map V.int := by
 rw [y37]
 refine congrArg (List.map V.int) (z4i (z3y _ _) ((z3y _ _).filter _) fun x => ?_)
 rw [List.mem_filter, z1Z, z1Z, Bool.and_eq_true, decide_eq_true_eq, decide_eq_true_eq]
 split <;> omega
theorem z9Z (M : Bl mg) (F : Fun K "reached_by" "reached_by" z45 f fd) : FnOk P w K mg base CX0 1 f fd z40 z7L := by
 have nd := z57.nd
 refine F.ok z57 (fun vs H Q E h => ?_) (fun cdv A outer s H vs Q E hr h => ?_)
 ·obtain ⟨n, r, rfl, _⟩ := h
  rfl
 obtain ⟨n, r, rfl, h1, h2, h3, h4, q⟩ := h
 refine ⟨_, (z06 (z0o (z0B (z6a rfl) rfl M.tuple PyProof.Rows.boot_tuple (z00 (z0B y0U rfl M.range PyProof.Rows.boot_range (z00 (z08 (z86 rfl) rfl M.max PyProof.Rows.boot_max (z00 z05 (z00 (z0c z2J (pv 0) (pv 1)) z01))) (z00 (z0c z13 (pv 0) z05) z01))) z01)))), ?_⟩
 refine ⟨_, rfl, _, rfl, _, _, rfl, rfl, _, _, rfl, _, rfl, _, _, rfl, rfl, _, _, rfl, fun p hp => ?_⟩
 refine ⟨p, _, _, rfl, z03, ⟨?_, ?_, ?_, ?_⟩, ?_, fun l hl => ?_⟩
 ·split <;> omega
 ·split <;> omega
 ·omega
 ·omega
 ·split <;> omega
 ·refine q l _ ((z02 hp _).trans (z02 hl _)) ?_
  rw [z03, z9B h1 h2 h3 h4]
theorem z5L (hi : Int) (j : Nat) : (dnI hi j).Pairwise (· > ·) := by
 unfold dnI
 rw [List.pairwise_map]
 exact List.pairwise_lt_range.imp fun h => by omega
theorem z5T {n : Int} {j : Nat} {x : Int} : x ∈ tsN n j ↔ 1 ≤ x /\ n - j < x /\ x ≤ n := by
 unfold tsN
 rw [List.mem_filter, z8d, decide_eq_true_eq]
 omega
theorem y3f (n : Int) (j : Nat) : (tsN n j).reverse.Pairwise (· < ·) := by
 rw [List.pairwise_reverse]
 exact ((z5L n j).filter _).imp fun h => h
theorem y0Y {n r : Int} (h0 : 0 ≤ n) (h1 : n ≤ 59) (r0 : 0 ≤ r) (r1 : r ≤ 10) : ((upI 1 60).filter fun x => decide (x ≤ n + 1) && decide (n + 1 - x ≤ r)) = (tsN n r.toNat).reverse ++ [n + 1] := by
 refine z4i ((z3y _ _).filter _) (List.pairwise_append.mpr ⟨y3f _ _, List.pairwise_singleton _ _, fun x hx y hy => ?_⟩) fun x => ?_
 ·rw [List.mem_reverse, z5T] at hx
  rw [List.mem_singleton] at hy
  omega
 ·rw [List.mem_filter, z1Z, Bool.and_eq_true, decide_eq_true_eq, decide_eq_true_eq, List.mem_append, List.mem_reverse, z5T, List.mem_singleton]
  omega
theorem y3i (M : Bl mg) (F : Fun K "tail_for" "tail_for" z5R f fd) (Greached_by : Cal P w K mg base 1 "reached_by" z40 z7L) : FnOk P w K mg base CX0 2 f fd z4a (y0K K) := by
 have nd := z6I.nd
 refine F.ok z6I (fun vs H Q E h => ?_) (fun cdv A outer s H vs Q E hr h => ?_)
 ·obtain ⟨p, xs, ss, r, rfl, _⟩ := h
  rfl
 obtain ⟨p, xs, ss, r, rfl, hS, tS, l60, l12, r0, r1, k⟩ := h
 refine ⟨_, (z04 (z0n (i := 2) nd rfl (Or.inl rfl) (z0c z13 (z08 z07 rfl M.len PySem.boot_len (z00 (pv 0) z01)) z05)) (z04 (z0n (i := 3) nd rfl (Or.inl rfl) (z2m y2V (z0t Greached_by (rm hr) rfl (z00 (pv 2) (z00 (pv 1) z01))) z3m (z3u (z7i z4c z05)))) (z06 (z0o (z0B z0A rfl M.tuple PyProof.Rows.boot_tuple (z00 (z2y ["earlier"] ["sets"] [0] rfl (z0E rfl (by decide +kernel) rfl (by decide +kernel) rfl rfl) (y4y rfl M.reversed (z00 (pv 3) z01)) (fun _ _ _ _ _ => (z0u (i := 0) (show ((["earlier"] : List PySem.Str) ++ (["sets"] : List PySem.Str)).Nodup from by decide +kernel) rfl (Or.inl rfl))) (z0M (by decide)) z0q (fun _ _ _ _ _ => z22) (fun _ _ _ _ _ => (z1o (z00 (pv 0) (z00 (z0B (z6e (K := K) rfl) rfl M.tuple PyProof.Rows.boot_tuple (z00 (z14 (r := rIx K) y4o (pv 1) (z0c z2J (pv 0) z05) (fun _ _ => rfl)) z01)) z01))))) z01)))))), ?_⟩
 have lx : xs.length = ss.length := by rw [tS.length, List.length_map]
 have lx' : (xs.length : Int) = ss.length := by omega
 refine ⟨_, rfl, p, xs, rfl, hS, _, _, rfl, rfl, ?_⟩
 refine ⟨_, rfl, _, rfl, (xs.length : Int) + 1, r, rfl, by omega, by omega, r0, r1, fun l H1 s1 e1 => ?_⟩
 rw [lx', y0Y (by omega) (by omega) r0 r1] at e1
 have eL : (((tsN ss.length r.toNat).reverse ++ [(ss.length : Int) + 1]).map V.int).length = (tsN ss.length r.toNat).length + 1 := by
  rw [List.length_map, List.length_append, List.length_reverse]
  rfl
 have sx : HT.sIx (((tsN ss.length r.toNat).reverse ++ [(ss.length : Int) + 1]).map V.int).length (((tsN ss.length r.toNat).reverse ++ [(ss.length : Int) + 1]).map V.int).length (some (-1)) = (tsN ss.length r.toNat).length := by
  rw [eL]
  show (if (-1 : Int) < 0 then (-1 + (((tsN ss.length r.toNat).length + 1 : Nat) : Int)).toNat else min (-1 : Int).toNat ((tsN ss.length r.toNat).length + 1)) = _
  rw [if_pos (by decide)]
  omega
 have cut : cutV (((tsN ss.length r.toNat).reverse ++ [(ss.length : Int) + 1]).map V.int) none (some (-1)) = (tsN ss.length r.toNat).reverse.map V.int := by
  unfold cutV
  rw [sx]
  show List.take ((tsN ss.length r.toNat).length - 0) (List.drop 0 _) = _
  rw [List.drop_zero, Nat.sub_zero, List.map_append, List.take_left' (by rw [List.length_map, List.length_reverse])]
 refine ⟨_, rfl, -1, rfl, l, _, rfl, SqT.of e1, ?_, fun a ha => ?_⟩
 ·rintro ⟨_, z⟩
  rw [sx, eL] at z
  omega
 rw [cut]
 have s2 := s1.trans (z02 ha (.tup ((tsN ss.length r.toNat).reverse.map V.int)))
 have e2 : upd H1 a (.tup ((tsN ss.length r.toNat).reverse.map V.int)) a = some (.tup ((tsN ss.length r.toNat).reverse.map V.int)) := z03
 generalize upd H1 a (.tup ((tsN ss.length r.toNat).reverse.map V.int)) = H2 at s2 e2
 have le := y3u ss.length r.toNat
 have lr : ((tsN ss.length r.toNat).reverse.map V.int).length = (tsN ss.length r.toNat).length := by rw [List.length_map, List.length_reverse]
 refine ⟨_, rfl, a, _, rfl, SqT.of e2, ?_⟩
 refine y2z (fun i ys H' => Same H2 H' /\ z0d H' (((tsN ss.length r.toNat).take i).map (tsP ss)) ys) ⟨Same.refl _, by rw [List.take_zero]; exact .nil⟩ (fun i ys H' hi hp => ?_) (fun i x ys H' hx hp => ?_) (fun ys H' hp => ?_)
 ·obtain ⟨g, t⟩ := hp
  refine ⟨SqT.of (g _ _ e2), z0k ?_⟩
  rw [t.length, List.length_map, List.length_take]
  omega
 ·obtain ⟨g, t⟩ := hp
  rw [<- List.map_reverse, List.reverse_reverse, List.getElem?_map] at hx
  obtain ⟨m, hm, rfl⟩ := Option.map_eq_some_iff.mp hx
  have hb := z5T.mp (List.mem_of_getElem? hm)
  have hk : (m - 1).toNat < ss.length := by omega
  have t2 := z0d.keep (s2.trans g) _ _ tS
  obtain ⟨v, ev, tv⟩ := t2.get (m - 1).toNat (nmsD (ss.getD (m - 1).toNat [])) (by
   rw [List.getElem?_map, List.getD_eq_getElem?_getD, List.getElem?_eq_getElem hk]
   rfl)
  have av : atI xs (m - 1) = some v := by
   have e : m - 1 = (((m - 1).toNat : Nat) : Int) := by omega
   rw [e]
   exact z1E ev
  obtain ⟨b, us, rfl, eb, _, _⟩ := z1e tv
  refine ⟨_, rfl, _, rfl, _, rfl, _, _, rfl, rfl, ?_⟩
  have go : ∀ (z : Tell H' (nmsD (ss.getD (m - 1).toNat [])) (.ref b)), y2D K [.ref b] H' fun x H3 => [V.int m, x].length ≤ sizeLine /\ ∀ q, H3 q = none -> Same H2 (upd H3 q (.tup [.int m, x])) /\ z0d (upd H3 q (.tup [.int m, x])) (((tsN ss.length r.toNat).take (i + 1)).map (tsP ss)) (ys ++ [.ref q]) := fun z =>
   ⟨b, us, rfl, .inr ⟨SqT.of eb, by show 2 ≤ sizeLine; decide, fun q hq => ⟨g.trans (z02 hq _), by
    rw [List.take_add_one, hm, List.map_append]
    exact z0d.snoc (z0d.keep (z02 hq _) _ _ t) (z0v z03 (by show 2 ≤ 1000000; decide) (.cons (z1m _) (.cons (Tell.keep (z02 hq _) _ _ z) .nil)))⟩⟩⟩
  rcases hS with hS | hS
  ·exact .inl ⟨p, xs, _, .ref b, rfl, rfl, (s2.trans g).seq hS, av, go tv⟩
  ·exact .inr (.inl ⟨p, xs, _, .ref b, rfl, rfl, z4z (s2.trans g) hS, av, go tv⟩)
 ·obtain ⟨g, t⟩ := hp
  rw [lr, List.take_length] at t
  intro D hD
  refine ⟨D, ys, rfl, .inl ⟨SqL.of z03, fun q hq => k _ _ (s2.trans (g.trans ((z02 hD _).trans (z02 hq _)))) (z0v z03 ?_ (z0d.keep ((z02 hD _).trans (z02 hq _)) _ _ t))⟩⟩
  rw [List.length_map]
  omega
def kvR (p : Str × Int) : Key × V := (Sum.inr p.1, .int p.2)
def y10 (K : PySem.W.Frag) : Sp := fun vs H Q _ => ∃ (p : Addr) (zs : List Str) (z : Str), vs = [.ref p, .str z] /\ SqN K H p zs /\ z ∈ zs /\ Q .non H
theorem z4d (x : Str) (ns : List Str) : inV (.str x) (ns.map V.str) = decide (x ∈ ns) := by
 unfold inV
 rw [Bool.eq_iff_iff, List.any_map, List.any_eq_true, decide_eq_true_eq]
 constructor
 ·rintro ⟨y, hy, e⟩
  have : y = x := by simpa [eqV] using e
  exact this ▸ hy
 ·intro h
  exact ⟨x, h, by simp [eqV]⟩
theorem y2N (M : Bl mg) (F : Fun K "refuse_unknown_name" "refuse_unknown_name" z15 f fd) : FnOk P w K mg base CX0 1 f fd z0F (y10 K) := by
 have nd := z0W.nd
 refine F.ok z0W (fun vs H Q E h => ?_) (fun cdv A outer s H vs Q E hr h => ?_)
 ·obtain ⟨p, zs, z, rfl, _⟩ := h
  rfl
 obtain ⟨p, zs, z, rfl, hp, hz, k⟩ := h
 refine ⟨_, (z06 (z0G (z0a z2n (pv 1) (pv 0) (by with_unfolding_all rfl)) (z06 z1b) z0h)), ?_⟩
 refine ⟨_, rfl, _, rfl, p, _, rfl, hp, rfl, z2M zs, _, rfl, ?_⟩
 rw [if_pos rfl, z4d, decide_eq_true hz]
 exact ite2 (fun c => absurd c (by decide)) fun _ => k
def z4x : Sp := fun vs H Q _ => ∃ v : Int, vs = [.int v] /\ 0 ≤ v /\ v ≤ 1000000 /\ Q .non H
theorem z7z (M : Bl mg) (F : Fun K "refuse_bad_value" "refuse_bad_value" z1n f fd) : FnOk P w K mg base CX0 1 f fd z0O z4x := by
 have nd := z1a.nd
 refine F.ok z1a (fun vs H Q E h => ?_) (fun cdv A outer s H vs Q E hr h => ?_)
 ·obtain ⟨r, rfl, _⟩ := h
  rfl
 obtain ⟨r, rfl, r0, r1, k⟩ := h
 refine ⟨_, (z06 (z0G (PW.pt (z2L (z0a z3I (pv 0) z05 (z0g _)) (z1F (z0a z2f (pv 0) (z0U rfl M.MOST_VALUE) (z0g _))))) (z06 z1b) z0h)), ?_⟩
 refine ⟨_, rfl, _, _, rfl, rfl, _, rfl, ite2 (fun q => absurd (z11 q) (by omega)) fun _ => ?_⟩
 exact ⟨_, rfl, _, _, rfl, rfl, _, rfl, ite2 (fun q => absurd (z11 q) (by omega)) fun _ => k⟩
def z1i (K : PySem.W.Frag) (H : Hp) (u : V) (p : Str × Int) : Prop := ∃ a, u = .ref a /\ (SqL K H a [.str p.1, .int p.2] \/ SqT K H a [.str p.1, .int p.2])
theorem z1i.keep {K : PySem.W.Frag} {H H' : Hp} (s : Same H H') : ∀ {us : List V} {pr : Row}, Paired (z1i K H) us pr -> Paired (z1i K H') us pr
 | _, _, .nil => .nil
 | _, _, .cons ⟨a, e, h⟩ t => .cons ⟨a, e, h.imp (fun q => s.seq q) fun q => z4z s q⟩ (z1i.keep s t)
theorem z1i.at {K : PySem.W.Frag} {H : Hp} : ∀ {us : List V} {pr : Row}, Paired (z1i K H) us pr -> ∀ (i : Nat) (x : V), us[i]? = some x -> ∃ p, pr[i]? = some p /\ z1i K H x p
 | _, _, .nil, i, x, e => by simp at e
 | _, _, .cons r t, 0, x, e => by
  simp at e
  subst e
  exact ⟨_, rfl, r⟩
 | _, _, .cons r t, i + 1, x, e => by
  obtain ⟨y, h1, h2⟩ := z1i.at t i x (by simpa using e)
  exact ⟨y, by simpa using h1, h2⟩
theorem z1i.pairs {K : PySem.W.Frag} {H : Hp} : ∀ {us : List V} {pr : Row}, Paired (z1i K H) us pr -> Paired (y3D K H) us (pr.map kvR)
 | _, _, .nil => .nil
 | _, _, .cons ⟨a, e, h⟩ t => .cons ⟨a, e, h⟩ (z1i.pairs t)
theorem z1i.of {K : PySem.W.Frag} {H : Hp} {fp : List Addr} : ∀ {us : List V} {pr : Row}, Paired (z79 K H fp) us pr -> Paired (z1i K H) us pr
 | _, _, .nil => .nil
 | _, _, .cons ⟨a, e, h, _⟩ t => .cons ⟨a, e, h⟩ (z1i.of t)
theorem SqP.or {K : PySem.W.Frag} {H : Hp} {a : Addr} {us : List V} (h : SqP K H a us) : SqL K H a us \/ SqT K H a us := h.imp id SqT.of
theorem SqP.keep {K : PySem.W.Frag} {H H' : Hp} {a : Addr} {us : List V} (s : Same H H') (h : SqP K H a us) : SqP K H' a us := h.imp (fun q => s.seq q) fun q => s _ _ q
def z3t (K : PySem.W.Frag) : Sp := fun vs H Q _ => ∃ (pn a : Addr) (zs : List Str) (us : List V) (pr : Row), vs = [.ref pn, .ref a] /\ SqN K H pn zs /\ SqP K H a us /\ Paired (z1i K H) us pr /\ GoodR zs pr /\ pr.length ≤ 12 /\ ∀ H', Same H H' -> Q .non H'
theorem z6C (M : Bl mg) (F : Fun K "refuse_bad_rows" "refuse_bad_rows" z1u f fd) (Grefuse_unknown_name : Cal P w K mg base 1 "refuse_unknown_name" z0F (y10 K))
  (Grefuse_bad_value : Cal P w K mg base 1 "refuse_bad_value" z0O z4x) : FnOk P w K mg base CX0 2 f fd z0V (z3t K) := by
 have nd := z1l.nd
 refine F.ok z1l (fun vs H Q E h => ?_) (fun cdv A outer s H vs Q E hr h => ?_)
 ·obtain ⟨pn, a, zs, us, pr, rfl, _⟩ := h
  rfl
 obtain ⟨pn, a, zs, us, pr, rfl, hn, ha, hp, g, l12, k⟩ := h
 refine ⟨_, (z04 (z4J (i := 2) ["name", "value"] [] [] rfl nd rfl (Or.inl rfl) (z0E rfl (by decide +kernel) rfl (by decide +kernel) rfl rfl) (z7R (pv 1)) (fun _ _ _ _ _ => (z7n (K := K) (n := 2) rfl rfl (z1Q (z0u (i := 0) (show ((["name", "value"] : List PySem.Str) ++ ([] : List PySem.Str)).Nodup from by decide +kernel) rfl (Or.inl rfl)) (z1Q (z0u (i := 1) (show ((["name", "value"] : List PySem.Str) ++ ([] : List PySem.Str)).Nodup from by decide +kernel) rfl (Or.inl rfl)) z5P)))) (y1l (z3A (z0M (by decide)) z0q (z3A (z0M (by decide)) z0q z8i z25) (z1y z0q z25))) (z9t (z1y z0q (z1y z0q z25))) (fun _ _ _ _ _ => z22) (fun _ _ _ _ _ => (pv 0))) (z04 (z2E PassesOwn.never rfl (z21 (pv 2)) (z0u (i := 3) nd rfl (Or.inl rfl)) (z06 (z0p (z0t Grefuse_unknown_name (rm hr) rfl (z00 (pv 0) (z00 (pv 3) z01)))))) (z04 (z0G (z0a z5I (z08 z2Q rfl M.len PySem.boot_len (z00 (z0B (z2D rfl) rfl M.set PyProof.Rows.boot_set (z00 (pv 2) z01)) z01)) (z08 z07 rfl M.len PySem.boot_len (z00 (pv 2) z01)) (z0g _)) (z06 z1b) z0h) (z06 (z2E PassesOwn.never rfl (z7R (pv 1)) (z7n (K := K) (n := 2) rfl rfl (z1Q (z0u (i := 3) nd rfl (Or.inl rfl)) (z1Q (z0u (i := 4) nd rfl (Or.inl rfl)) z5P))) (z06 (z0p (z0t Grefuse_bad_value (rm hr) rfl (z00 (pv 4) z01))))))))), ?_⟩
 obtain ⟨t, ht⟩ := SqS.of (SqP.or ha)
 have lu : us.length = pr.length := hp.length
 refine ⟨_, rfl, a, t, rfl, ⟨_, ht⟩, ?_⟩
 refine z7l (xs := us) (fun i ys H' => H' = H /\ ys = ((pr.take i).map Prod.fst).map V.str) ⟨rfl, rfl⟩ (fun i ys H' hi hq => ?_) (fun i x ys H' hx hq => ?_) (fun ys H' hq => ?_)
 ·obtain ⟨rfl, rfl⟩ := hq
  refine ⟨ht, z0k ?_⟩
  rw [List.length_map, List.length_map, List.length_take]
  omega
 ·obtain ⟨rfl, rfl⟩ := hq
  obtain ⟨p, ep, b, rfl, hb⟩ := z1i.at hp i x hx
  refine ⟨b, _, rfl, hb, rfl, _, _, rfl, _, _, rfl, rfl, ?_⟩
  refine ⟨_, rfl, rfl, ?_⟩
  rw [z0X ep, List.map_append, List.map_append]
  rfl
 obtain ⟨rfl, rfl⟩ := hq
 rw [lu, List.take_length]
 intro D hD
 have s1 := z02 hD (.lst ((pr.map Prod.fst).map V.str))
 have e1 : upd H' D (.lst ((pr.map Prod.fst).map V.str)) D = some (.lst ((pr.map Prod.fst).map V.str)) := z03
 generalize upd H' D (.lst ((pr.map Prod.fst).map V.str)) = H1 at s1 e1
 have hn1 := SqN.keep s1 hn
 have ht1 := SqS.keep s1 ht
 have hp1 := z1i.keep s1 hp
 refine ⟨_, rfl, D, rfl, ⟨_, SqL.of e1⟩, z3C (K := K) (a := D) (xs := (pr.map Prod.fst).map V.str) (fun i σ H2 => ∃ o : Option V, H2 = H1 /\ σ = [some (.ref pn), some (.ref a), some (.ref D), o, none]) ⟨none, rfl, rfl⟩ (fun i σ H2 _ ⟨_, e, _⟩ => e ▸ SqL.of e1) (fun i x σ H2 hx hq => ?_) (fun σ H2 hq => ?_)⟩
 ·obtain ⟨o, rfl, rfl⟩ := hq
  rw [List.getElem?_map] at hx
  obtain ⟨z, ez, rfl⟩ := Option.map_eq_some_iff.mp hx
  have hz : z ∈ zs := by
   obtain ⟨p, hpm, rfl⟩ := List.mem_map.mp (List.mem_of_getElem? ez)
   exact g.sub p hpm
  exact ⟨_, rfl, _, rfl, pn, zs, z, rfl, hn1, hz, _, rfl, rfl⟩
 obtain ⟨o, rfl, rfl⟩ := hq
 have lf : (pr.map Prod.fst).length = pr.length := List.length_map _
 refine ⟨_, rfl, D, pr.map Prod.fst, rfl, .inl (SqL.of e1), by omega, fun l hl => ⟨l, pr.map Prod.fst, rfl, z03, by omega, _, rfl, D, _, rfl, .inl (SqL.of (z02 hl _ _ _ e1)), rfl, _, rfl, ?_⟩⟩
 refine y2i (by rw [z8k g.nd, List.length_map (f := V.str)]) ?_
 have s2 := s1.trans (z02 hl (SetT P w l (pr.map Prod.fst)))
 have ht2 := SqS.keep (z02 hl (SetT P w l (pr.map Prod.fst))) ht1
 have hp2 := z1i.keep (z02 hl (SetT P w l (pr.map Prod.fst))) hp1
 refine ⟨_, rfl, a, t, rfl, ⟨_, ht2⟩, ?_⟩
 refine y16 (xs := us) (fun i σ H3 => ∃ o1 o2 : Option V, H3 = upd H2 l (SetT P w l (pr.map Prod.fst)) /\ σ = [some (.ref pn), some (.ref a), some (.ref D), o1, o2]) ⟨_, _, rfl, rfl⟩ (fun i σ H3 _ ⟨_, _, e, _⟩ => e ▸ ht2) (fun i x σ H3 hx hq => ?_) (fun σ H3 hq => ?_)
 ·obtain ⟨o1, o2, rfl, rfl⟩ := hq
  obtain ⟨p, ep, b, rfl, hb⟩ := z1i.at hp2 i x hx
  have hv := g.val p (List.mem_of_getElem? ep)
  refine ⟨b, _, rfl, hb, rfl, _, _, rfl, _, _, rfl, rfl, ?_⟩
  exact ⟨_, rfl, p.2, rfl, hv.1, hv.2, _, _, rfl, rfl⟩
 ·obtain ⟨o1, o2, rfl, rfl⟩ := hq
  exact k _ s2
def z60 (K : PySem.W.Frag) : Sp := fun vs H Q _ => ∃ (pn a : Addr) (zs : List Str) (us : List V) (pr : Row), vs = [.ref pn, .ref a] /\ SqN K H pn zs /\ zs.length ≤ 12 /\ SqP K H a us /\ Paired (z1i K H) us pr /\ (pr.map Prod.fst).Nodup /\ pr.length ≤ 12 /\ ∀ (v : V) (H' : Hp), Same H H' -> Tell H' (rowD (z0T zs pr)) v -> Q v H'
theorem z7o {z : Str} : ∀ {pr : Row}, valV (pr.map kvR) (Sum.inr z : Key) = (pr.find? fun p => decide (p.1 = z)).map fun p => V.int p.2
 | [] => rfl
 | p :: w => by
  rw [List.map_cons, List.find?_cons]
  by_cases e : p.1 = z
  ·rw [z5k (show (kvR p).1 = Sum.inr z by unfold kvR; rw [e]), decide_eq_true e]
   rfl
  ·rw [z5o (show ¬ (kvR p).1 = Sum.inr z from fun q => e (Sum.inr.inj q)), decide_eq_false e]
   exact z7o
theorem z7w (zs : List Str) (z : Str) (pr : Row) : z0T (zs ++ [z]) pr = z0T zs pr ++ (match pr.find? fun p => decide (p.1 = z) with | some p => [p] | none => []) := by
 unfold z0T
 rw [List.filterMap_append, List.filterMap_cons]
 cases pr.find? fun p => decide (p.1 = z) <;> rfl
theorem z44 (zs : List Str) (pr : Row) : (z0T zs pr).length ≤ zs.length := List.length_filterMap_le _ _
theorem z9x (M : Bl mg) (F : Fun K "rows_in_order" "rows_in_order" z2z f fd) : FnOk P w K mg base CX0 1 f fd z1S (z60 K) := by
 have nd := z3j.nd
 refine F.ok z3j (fun vs H Q E h => ?_) (fun cdv A outer s H vs Q E hr h => ?_)
 ·obtain ⟨pn, a, zs, us, pr, rfl, _⟩ := h
  rfl
 obtain ⟨pn, a, zs, us, pr, rfl, hn, z12, ha, hp, ndr, l12, k⟩ := h
 have hu := y15 hr
 refine ⟨_, (z04 (z0n (i := 2) nd rfl (Or.inr rfl) (z0B (z7x (K := K) rfl rfl) rfl M.dict PyProof.Rows.boot_dict (z00 (pv 1) z01))) (z06 (z0o (z0B z0A rfl M.tuple PyProof.Rows.boot_tuple (z00 (z2y ["name"] ["values"] [2] rfl (z0E rfl (by decide +kernel) rfl (by decide +kernel) rfl rfl) (z7R (pv 0)) (fun _ _ _ _ _ => (z0u (i := 0) (show ((["name"] : List PySem.Str) ++ (["values"] : List PySem.Str)).Nodup from by decide +kernel) rfl (Or.inl rfl))) (z0M (by decide)) z0q (fun _ _ _ _ _ => (z7e (y1a (y2W hu (pv 0) (pv 1))))) (fun _ _ _ _ _ => (z1o (z00 (pv 0) (z00 (y3h hu (pv 1) (pv 0) (fun _ _ => rfl)) z01))))) z01))))), ?_⟩
 have lu : us.length = pr.length := hp.length
 refine ⟨_, rfl, a, us, pr.map kvR, rfl, ha, z1i.pairs hp, by omega, ?_, fun d hd => ?_⟩
 ·have e : (pr.map kvR).map (·.1) = (pr.map Prod.fst).map Sum.inr := by rw [List.map_map, List.map_map]; rfl
  rw [e, List.nodup_iff_pairwise_ne, List.pairwise_map]
  exact (List.nodup_iff_pairwise_ne.mp ndr).imp fun h e => h (Sum.inr.inj e)
 have s1 := z02 hd (.dK (pr.map kvR))
 have e1 : upd H d (.dK (pr.map kvR)) d = some (.dK (pr.map kvR)) := z03
 generalize upd H d (.dK (pr.map kvR)) = H1 at s1 e1
 obtain ⟨t, ht⟩ := SqS.of (SqN.keep s1 hn)
 refine ⟨_, rfl, pn, t, rfl, ⟨_, ht⟩, ?_⟩
 refine z7l (xs := zs.map V.str) (fun i ys H' => Same H1 H' /\ z0d H' ((z0T (zs.take i) pr).map z7y) ys) ⟨Same.refl _, by rw [List.take_zero]; exact .nil⟩ (fun i ys H' hi hq => ?_) (fun i x ys H' hx hq => ?_) (fun ys H' hq => ?_)
 ·obtain ⟨g, t'⟩ := hq
  refine ⟨SqS.keep g ht, z0k ?_⟩
  have := z44 (zs.take i) pr
  rw [List.length_take] at this
  rw [t'.length, List.length_map]
  omega
 ·obtain ⟨g, t'⟩ := hq
  rw [List.getElem?_map] at hx
  obtain ⟨z, ez, rfl⟩ := Option.map_eq_some_iff.mp hx
  refine ⟨_, rfl, _, rfl, d, _, rfl, DGet.k (k := Sum.inr z) (g _ _ e1), _, rfl, ?_⟩
  rw [z7o, z0X ez, z7w]
  cases ev : pr.find? fun p => decide (p.1 = z) with
  | none =>
   refine iteF ⟨g, ?_⟩
   rw [List.append_nil]
   exact t'
  | some p =>
   have ep : p.1 = z := by
    have := List.find?_some ev
    exact of_decide_eq_true this
   refine iteT ⟨_, rfl, _, rfl, _, rfl, d, _, rfl, (show DGet _ d (kV (Sum.inr z)) (some (V.int p.2)) by rw [<- show valV (pr.map kvR) (Sum.inr z : Key) = some (V.int p.2) by rw [z7o, ev]; rfl]; exact DGet.k (g _ _ e1)), (by show 2 ≤ sizeLine; decide), fun q hq => ⟨g.trans (z02 hq _), ?_⟩⟩
   rw [List.map_append]
   refine z0d.snoc (z0d.keep (z02 hq _) _ _ t') ?_
   rw [<- ep]
   exact z0v z03 (by show 2 ≤ 1000000; decide) (.cons (z0x _) (.cons (z1m _) .nil))
 ·obtain ⟨g, t'⟩ := hq
  rw [List.length_map, List.take_length] at t'
  intro D hD
  refine ⟨D, ys, rfl, .inl ⟨SqL.of z03, fun q hq => k _ _ (s1.trans (g.trans ((z02 hD _).trans (z02 hq _)))) (z0v z03 ?_ (z0d.keep ((z02 hD _).trans (z02 hq _)) _ _ t'))⟩⟩
  have := z44 zs pr
  rw [List.length_map]
  omega
def z8I : Sp := fun vs H Q _ => ∃ (a : Addr) (xs : List V) (w : Row), vs = [.ref a] /\ H a = some (.tup xs) /\ z0d H (w.map z7y) xs /\ w.length ≤ 12 /\ ∀ (l : Addr) (H' : Hp), Same H H' -> H' l = some (.tup ((z3e w).map V.str)) -> Q (.ref l) H'
theorem y1U (M : Bl mg) (F : Fun K "names_of_rows" "names_of_rows" z2A f fd) : FnOk P w K mg base CX0 1 f fd z1T z8I := by
 have nd := z3g.nd
 refine F.ok z3g (fun vs H Q E h => ?_) (fun cdv A outer s H vs Q E hr h => ?_)
 ·obtain ⟨a, xs, w, rfl, _⟩ := h
  rfl
 obtain ⟨a, xs, w, rfl, ha, tw, l12, k⟩ := h
 refine ⟨_, (z06 (z0o (z0B z0A rfl M.tuple PyProof.Rows.boot_tuple (z00 (z2y ["name", "value"] [] [] rfl (z0E rfl (by decide +kernel) rfl (by decide +kernel) rfl rfl) (y2T (pv 0)) (fun _ _ _ _ _ => (y3p (K := K) (n := 2) rfl rfl (z1Q (z0u (i := 0) (show ((["name", "value"] : List PySem.Str) ++ ([] : List PySem.Str)).Nodup from by decide +kernel) rfl (Or.inl rfl)) (z1Q (z0u (i := 1) (show ((["name", "value"] : List PySem.Str) ++ ([] : List PySem.Str)).Nodup from by decide +kernel) rfl (Or.inl rfl)) z5P)))) (y3G (z3A (z0M (by decide)) z0q (z3A (z0M (by decide)) z0q z8i z25) (z1y z0q z25))) (y2f (z1y z0q (z1y z0q z25))) (fun _ _ _ _ _ => z22) (fun _ _ _ _ _ => (pv 0))) z01)))), ?_⟩
 have lx : xs.length = w.length := by rw [tw.length, List.length_map]
 refine ⟨_, rfl, a, rfl, ⟨_, SqT.of ha⟩, ?_⟩
 refine z71 (xs := xs) (fun i ys H' => H' = H /\ ys = (z3e (w.take i)).map V.str) ⟨rfl, rfl⟩ (fun i ys H' hi hq => ?_) (fun i x ys H' hx hq => ?_) (fun ys H' hq => ?_)
 ·obtain ⟨rfl, rfl⟩ := hq
  refine ⟨SqT.of ha, z0k ?_⟩
  unfold z3e
  rw [List.length_map, List.length_map, List.length_take]
  omega
 ·obtain ⟨rfl, rfl⟩ := hq
  obtain ⟨p, b, ep, rfl, hb⟩ := z3Q tw i x hx
  refine ⟨b, _, rfl, SqT.of hb, rfl, _, _, rfl, _, _, rfl, rfl, ?_⟩
  refine ⟨_, rfl, rfl, ?_⟩
  unfold z3e
  rw [z0X ep, List.map_append, List.map_append]
  rfl
 ·obtain ⟨rfl, rfl⟩ := hq
  rw [lx, List.take_length]
  intro D hD
  exact ⟨D, _, rfl, .inl ⟨SqL.of z03, fun q hq => k q _ ((z02 hD _).trans (z02 hq _)) z03⟩⟩
def OfD (K : PySem.W.Frag) (C : Addr) : OfP := fun H p fp zs r rows => ∃ (dx pn pl : Addr) (fs : List (Str × V)) (xs : List V), fp = [p, dx, pl] /\ H p = some (.ins C dx fs) /\ H dx = some (.own p) /\ H pn = some (.tup (zs.map V.str)) /\ H pl = some (.lst xs) /\
 fs.lookup ("names" : Str) = some (V.ref pn) /\ fs.lookup ("reach" : Str) = some (V.int r) /\ fs.lookup ("written" : Str) = some (V.ref pl) /\ (∀ m ∈ (["refuse_writing", "write", "latest", "issue"] : List Str), fs.lookup m = none) /\
 z0d H ((upI 1 rows.length).map fun n => z1r rows n r) xs /\ rows.length ≤ 60 /\ (∀ w ∈ rows, w.length ≤ 12) /\ GoodN zs /\ 0 ≤ r /\ r ≤ 10
theorem ofOk {K : PySem.W.Frag} {C : Addr} : OfOk C ["write", "latest", "issue"] (OfD K C) := by
 refine ⟨fun h => ?_, fun h b hb => ?_, fun h s out nt => ?_⟩
 ·obtain ⟨dx, pn, pl, fs, xs, e, h1, h2, h3, h4, l1, l2, l3, lm, _⟩ := h
  refine ⟨dx, fs, h1, fun m hm => lm m ?_⟩
  simp only [List.mem_cons, List.not_mem_nil, or_false] at hm ⊢
  rcases hm with h | h | h <;> simp [h]
 ·obtain ⟨dx, pn, pl, fs, xs, rfl, h1, h2, h3, h4, _⟩ := h
  rcases List.mem_cons.mp hb with rfl | hb
  ·exact ⟨_, h1, fun xs z => by cases z⟩
  rcases List.mem_cons.mp hb with rfl | hb
  ·exact ⟨_, h2, fun xs z => by cases z⟩
  rw [List.mem_singleton.mp hb]
  exact ⟨_, h4, fun xs z => by cases z⟩
 ·obtain ⟨dx, pn, pl, fs, xs, rfl, h1, h2, h3, h4, l1, l2, l3, lm, tl, g⟩ := h
  exact ⟨dx, pn, pl, fs, xs, rfl, s _ _ h1 (fun m => out _ m (by simp)), s _ _ h2 (fun m => out _ m (by simp)), s _ _ h3 (fun m => nt _ m _ h3), s _ _ h4 (fun m => out _ m (by simp)), l1, l2, l3, lm, z0d.but s nt _ _ tl, g⟩
theorem y0G {COffice : Addr} (M : Bl mg) (T : TxOffice K mg COffice) (F : Fun K "__init__" "Office.__init__" z23 f fd) (Gbulletin_names : Cal P w K mg base 2 "bulletin_names" z1A (z4L K)) :
  FnOk P w K mg base CX0 3 f fd z1Y (z9h K COffice (OfD K COffice)) := by
 have nd := z2N.nd
 refine F.ok z2N (fun vs H Q E h => ?_) (fun cdv A outer s H vs Q E hr h => ?_)
 ·obtain ⟨x, dx, pn, zs, r, rfl, _⟩ := h
  rfl
 obtain ⟨x, dx, pn, zs, r, rfl, hx, ne, hdx, hn, g, r0, r1, k⟩ := h
 refine ⟨_, (z04 (z4t (pv 0) (z0t Gbulletin_names (rm hr) rfl (z00 (pv 1) (z00 (pv 2) z01))) rfl) (z04 (z4t (pv 0) (pv 2) rfl) (z06 (z4t (pv 0) (z0R z01) rfl)))), ?_⟩
 refine ⟨_, rfl, _, rfl, pn, zs, r, rfl, hn, g, r0, r1, fun l H1 s1 e1 => ?_⟩
 refine ⟨_, rfl, x, COffice, dx, [], rfl, s1 _ _ hx, T.cl, T.n_names, by decide, ?_⟩
 have z1 := z1h "names" (.ref l) []
 have z2 := z1h "reach" (.int r) (putF "names" (.ref l) [])
 have z0 : ([] : List (Str × V)).length = 0 := rfl
 refine ⟨_, rfl, _, rfl, x, COffice, dx, _, rfl, z03, T.cl, T.n_reach, (by omega), ?_⟩
 rw [z77]
 refine ⟨(by show 0 ≤ sizeLine; decide), fun pd hd => ?_⟩
 have nx : x ≠ pd := z0j z03 hd
 have ndd : dx ≠ pd := z0j (show upd H1 x _ dx = some _ by rw [z0b ne]; exact s1 _ _ hdx) hd
 have nl : l ≠ x := z4A e1 (s1 _ _ hx) (fun z => by cases z)
 have nlp : l ≠ pd := z0j (show upd H1 x _ l = some _ by rw [z0b nl]; exact e1) hd
 have dfr : H1 pd = none := by rw [z0b (Ne.symm nx)] at hd; exact hd
 refine ⟨_, rfl, x, COffice, dx, _, rfl, (by rw [z0b nx, z03]), T.cl, T.n_written, (by omega), ?_⟩
 refine k [x, dx, pd] _ (fun b hb => ?_) (fun b o e nb => ?_) ⟨dx, l, pd, _, [], rfl, z03, ?_, ?_, ?_, ?_, ?_, ?_, ?_, .nil, by decide, fun _ q => (nomatch q), g, r0, r1⟩
 ·simp only [List.mem_cons, List.not_mem_nil, or_false] at hb
  rcases hb with rfl | rfl | rfl
  ·exact .inl rfl
  ·exact .inr (.inl rfl)
  ·exact .inr (.inr (s1.free dfr))
 ·rw [List.mem_singleton] at nb
  rw [z0b nb, z0b (z0j e (s1.free dfr)), z0b nb]
  exact s1 _ _ e
 ·rw [z0b ne, z0b ndd, z0b ne]
  exact s1 _ _ hdx
 ·rw [z0b nl, z0b nlp, z0b nl]
  exact e1
 ·rw [z0b (Ne.symm nx), z03]
 ·rw [z0e, if_neg (by decide +kernel), z0e, if_neg (by decide +kernel), z0e, if_pos rfl]
 ·rw [z0e, if_neg (by decide +kernel), z0e, if_pos rfl]
 ·rw [z0e, if_pos rfl]
 ·intro m hm
  simp only [List.mem_cons, List.not_mem_nil, or_false] at hm
  rcases hm with rfl | rfl | rfl | rfl <;> rw [z0e, if_neg (by decide +kernel), z0e, if_neg (by decide +kernel), z0e, if_neg (by decide +kernel)] <;> rfl
theorem z8t {COffice : Addr} (M : Bl mg) (T : TxOffice K mg COffice) (F : Fun K "latest" "Office.latest" z2v f fd) : FnOk P w K mg base CX0 1 f fd z2w (z6t (OfD K COffice)) := by
 have nd := z3q.nd
 refine F.ok z3q (fun vs H Q E h => ?_) (fun cdv A outer s H vs Q E hr h => ?_)
 ·obtain ⟨p, fp, zs, r, rows, rfl, _⟩ := h
  rfl
 obtain ⟨p, fp, zs, r, rows, rfl, of, k⟩ := h
 refine ⟨_, (z06 (z0o (z08 z07 rfl M.len PySem.boot_len (z00 (z0s (pv 0) rfl) z01)))), ?_⟩
 obtain ⟨dx, pn, pl, fs, xs, rfl, h1, h2, h3, h4, l1, l2, l3, lm, tl, r60, w12, g, r0, r1⟩ := of
 have lx : xs.length = rows.length := by rw [tl.length, List.length_map, z0P]
 refine ⟨_, rfl, p, COffice, dx, fs, _, rfl, h1, T.cl, T.n_written, l3, pl, xs, rfl, .inl (SqL.of h4), ?_⟩
 rw [lx]
 exact k H (Same.refl _)
theorem z6Q {COffice : Addr} (M : Bl mg) (T : TxOffice K mg COffice) (F : Fun K "issue" "Office.issue" z27 f fd) : FnOk P w K mg base CX0 1 f fd z0K (z1D (OfD K COffice)) := by
 have nd := z1P.nd
 refine F.ok z1P (fun vs H Q E h => ?_) (fun cdv A outer s H vs Q E hr h => ?_)
 ·obtain ⟨p, fp, zs, r, rows, n, rfl, _⟩ := h
  rfl
 obtain ⟨p, fp, zs, r, rows, n, rfl, of, n1, n2, k⟩ := h
 refine ⟨_, (z04 (z0G (PW.pt (z2L (z0a z3I (pv 1) z05 (z0g _)) (z1F (z0a z2f (pv 1) (z08 z07 rfl M.len PySem.boot_len (z00 (z0s (pv 0) rfl) z01)) (z0g _))))) (z06 z1b) z0h) (z06 (z0o (z14 z0z (z0s (pv 0) rfl) (z0c z2J (pv 1) z05) (fun _ _ => rfl))))), ?_⟩
 obtain ⟨dx, pn, pl, fs, xs, rfl, h1, h2, h3, h4, l1, l2, l3, lm, tl, r60, w12, g, r0, r1⟩ := of
 have lx : xs.length = rows.length := by rw [tl.length, List.length_map, z0P]
 refine ⟨_, rfl, _, _, rfl, rfl, _, rfl, ite2 (fun q => absurd (z11 q) (by omega)) fun _ => ?_⟩
 refine ⟨_, rfl, _, rfl, p, COffice, dx, fs, _, rfl, h1, T.cl, T.n_written, l3, pl, xs, rfl, .inl (SqL.of h4), _, _, rfl, rfl, _, rfl, ite2 (fun q => absurd (z11 q) (by omega)) fun _ => ?_⟩
 have hk : (n - 1).toNat < rows.length := by omega
 obtain ⟨v, ev, tv⟩ := tl.get (n - 1).toNat (z1r rows n r) (by
  unfold upI
  rw [List.getElem?_map, List.getElem?_map, List.getElem?_range hk]
  show some (z1r rows (1 + ((n - 1).toNat : Int)) r) = _
  rw [show (1 : Int) + ((n - 1).toNat : Int) = n by omega])
 have av : atI xs (n - 1) = some v := by
  rw [show n - 1 = (((n - 1).toNat : Nat) : Int) by omega]
  exact z1E ev
 exact ⟨_, rfl, p, COffice, dx, fs, _, rfl, h1, T.cl, T.n_written, l3, _, rfl, _, _, rfl, rfl, pl, xs, _, v, rfl, rfl, SqL.of h4, av, k v H (Same.refl _) tv⟩
def z1W (K : PySem.W.Frag) (Of : OfP) : Sp := fun vs H Q _ => ∃ (p a : Addr) (fp : List Addr) (zs : List Str) (r : Int) (rows : List Row) (us : List V) (pr : Row), vs = [.ref p, .ref a] /\ Of H p fp zs r rows /\ SqP K H a us /\ Paired (z1i K H) us pr /\ GoodR zs pr /\ pr.length ≤ 12 /\ rows.length < 60 /\ ∀ H', Same H H' -> Q .non H'
theorem z6j {COffice : Addr} (M : Bl mg) (T : TxOffice K mg COffice) (F : Fun K "refuse_writing" "Office.refuse_writing" z0Q f fd) (Grefuse_bad_rows : Cal P w K mg base 2 "refuse_bad_rows" z0V (z3t K)) :
  FnOk P w K mg base CX0 3 f fd z0m (z1W K (OfD K COffice)) := by
 have nd := z0N.nd
 refine F.ok z0N (fun vs H Q E h => ?_) (fun cdv A outer s H vs Q E hr h => ?_)
 ·obtain ⟨p, a, fp, zs, r, rows, us, pr, rfl, _⟩ := h
  rfl
 obtain ⟨p, a, fp, zs, r, rows, us, pr, rfl, of, ha, hp, g', l12, l60, k⟩ := h
 refine ⟨_, (z04 (z0G (z0a z8q (z08 z07 rfl M.len PySem.boot_len (z00 (z0s (pv 0) rfl) z01)) (z0U rfl M.MOST_NUMBERS) (z0g _)) (z06 z1b) z0h) (z06 (z0p (z0t Grefuse_bad_rows (rm hr) rfl (z00 (z0s (pv 0) rfl) (z00 (pv 1) z01)))))), ?_⟩
 obtain ⟨dx, pn, pl, fs, xs, rfl, h1, h2, h3, h4, l1, l2, l3, lm, tl, r60, w12, g, r0, r1⟩ := of
 have lx : xs.length = rows.length := by rw [tl.length, List.length_map, z0P]
 refine ⟨_, rfl, p, COffice, dx, fs, _, rfl, h1, T.cl, T.n_written, l3, pl, xs, rfl, .inl (SqL.of h4), _, _, rfl, rfl, _, rfl, ite2 (fun q => absurd (z11 q) (by omega)) fun _ => ?_⟩
 exact ⟨_, rfl, p, COffice, dx, fs, _, rfl, h1, T.cl, T.n_names, l1, _, rfl, pn, a, zs, us, pr, rfl, .inr (SqT.of h3), ha, hp, g', l12, fun H' s => k H' s⟩
theorem z8T (rows : List Row) (x : Row) {n r : Int} (n1 : 1 ≤ n) (n2 : n ≤ rows.length) : z1r (rows ++ [x]) n r = z1r rows n r := by
 have e := z8f (rows := rows ++ [x]) (j := rows.length) (r := r) n1 n2
 rw [List.take_left] at e
 exact e.symm
theorem y0c (m : Nat) (r : Int) (r0 : 0 ≤ r) : z9A ((m : Int) + 1) r = tsN m r.toNat := by
 have falls : ∀ {l1 l2 : List Int}, l1.Pairwise (· > ·) -> l2.Pairwise (· > ·) -> (∀ x, x ∈ l1 ↔ x ∈ l2) -> l1 = l2 := fun {l1 l2} p1 p2 h => by
  have e := z4i (l1 := l1.reverse) (l2 := l2.reverse) (List.pairwise_reverse.mpr p1) (List.pairwise_reverse.mpr p2) fun x => by rw [List.mem_reverse, List.mem_reverse]; exact h x
  have e2 := congrArg List.reverse e
  rw [List.reverse_reverse, List.reverse_reverse] at e2
  exact e2
 refine falls ((z5L _ _).filter _) ((z5L _ _).filter _) fun x => ?_
 rw [z5T]
 unfold z9A
 rw [List.mem_filter, z8d, decide_eq_true_eq]
 omega
theorem y02 (rows : List Row) (x : Row) (r : Int) (r0 : 0 ≤ r) : y2p (rows ++ [x]) ((rows.length : Int) + 1) r = tsD (rows.map z3e) r := by
 unfold y2p tsD
 rw [y0c _ _ r0, List.length_map]
 congr 1
 refine List.map_congr_left fun k hk => ?_
 have hk := z5T.mp hk
 unfold z9F tsP z2G
 have h1 : (k - 1).toNat < rows.length := by omega
 rw [List.getD_eq_getElem?_getD, List.getD_eq_getElem?_getD, List.getElem?_append_left h1, List.getElem?_map, List.getElem?_eq_getElem h1]
 rfl
theorem z6B {COffice : Addr} (M : Bl mg) (T : TxOffice K mg COffice) (F : Fun K "write" "Office.write" z28 f fd) (GOffice_refuse_writing : MCal P w K mg base 3 COffice "refuse_writing" z0m (z1W K (OfD K COffice)))
  (Gnames_of_rows : Cal P w K mg base 1 "names_of_rows" z1T z8I) (Grows_in_order : Cal P w K mg base 1 "rows_in_order" z1S (z60 K)) (Gtail_for : Cal P w K mg base 2 "tail_for" z4a (y0K K)) :
  FnOk P w K mg base CX0 4 f fd z1B (z48 K (OfD K COffice)) := by
 have nd := z1R.nd
 refine F.ok z1R (fun vs H Q E h => ?_) (fun cdv A outer s H vs Q E hr h => ?_)
 ·obtain ⟨p, v, fp, zs, r, rows, pr, rfl, _⟩ := h
  rfl
 obtain ⟨p, v, fp, zs, r, rows, pr, rfl, of, ⟨a, us, rfl, ha, na, hp⟩, gr, l12, l60, k⟩ := h
 refine ⟨_, (z04 (z0p (z1x GOffice_refuse_writing (rm hr) (pv 0) (z00 (pv 1) z01))) (z04 (z0n (i := 2) nd rfl (Or.inl rfl) (z0c z13 (z08 z07 rfl M.len PySem.boot_len (z00 (z0s (pv 0) rfl) z01)) z05)) (z04 (z4J (i := 3) ["issue"] [] [] rfl nd rfl (Or.inl rfl) (z0E rfl (by decide +kernel) rfl (by decide +kernel) rfl rfl) (z21 (z0s (pv 0) rfl)) (fun _ _ _ _ _ => (z0u (i := 0) (show ((["issue"] : List PySem.Str) ++ ([] : List PySem.Str)).Nodup from by decide +kernel) rfl (Or.inl rfl))) (z0M (by decide)) z0q (fun _ _ _ _ _ => z22) (fun _ _ _ _ _ => (z0t Gnames_of_rows (rm hr) rfl (z00 (z14 (r := rIxT K) z3b (pv 0) z05 (fun _ _ => rfl)) z01)))) (z04 (z0p (z2l PySem.F.plainAttrs_list PySem.F.slot_list_append PySem.F.type_list_append z0I (z0s (pv 0) rfl) (z00 (z1o (z00 (pv 2) (z00 (z0t Grows_in_order (rm hr) rfl (z00 (z0s (pv 0) rfl) (z00 (pv 1) z01))) (z00 (z0t Gtail_for (rm hr) rfl (z00 (pv 3) (z00 (z0s (pv 0) rfl) z01))) z01)))) z01))) (z06 (z0o (pv 2))))))), ?_⟩
 have hp' := z1i.of hp
 obtain ⟨dx, pn, pl, fs, xs, rfl, h1, h2, h3, h4, l1, l2, l3, lm, tl, r60, w12, g, r0, r1⟩ := id of
 have lx : xs.length = rows.length := by rw [tl.length, List.length_map, z0P]
 refine ⟨_, rfl, p, dx, fs, rfl, h1, lm _ (by simp), _, rfl, p, a, _, zs, r, rows, us, pr, rfl, of, ha, hp', gr, l12, l60, fun H1 s1 => ?_⟩
 refine ⟨_, rfl, p, COffice, dx, fs, _, rfl, s1 _ _ h1, T.cl, T.n_written, l3, pl, xs, rfl, .inl (SqL.of (s1 _ _ h4)), _, _, rfl, rfl, ?_⟩
 refine ⟨_, rfl, p, COffice, dx, fs, _, rfl, s1 _ _ h1, T.cl, T.n_written, l3, pl, rfl, ⟨_, SqL.of (s1 _ _ h4)⟩, ?_⟩
 refine z2j (xs := xs) (fun i ys H' => Same H1 H' /\ z0d H' (((rows.take i).map z3e).map nmsD) ys) ⟨Same.refl _, by rw [List.take_zero]; exact .nil⟩ (fun i ys H' hi hq => ?_) (fun i x ys H' hx hq => ?_) (fun ys H' hq => ?_)
 ·obtain ⟨gg, t⟩ := hq
  refine ⟨SqL.of (gg _ _ (s1 _ _ h4)), z0k ?_⟩
  rw [t.length, List.length_map, List.length_map, List.length_take]
  omega
 ·obtain ⟨gg, t⟩ := hq
  have hi : i < rows.length := by
   have := (List.getElem?_eq_some_iff.mp hx).1
   omega
  obtain ⟨d, ed, td⟩ := tl.at i x hx
  unfold upI at ed
  rw [List.getElem?_map, List.getElem?_map, List.getElem?_range hi] at ed
  have ed' : z1r rows (1 + (i : Int)) r = d := Option.some.inj ed
  subst ed'
  have ew : z2G rows (1 + (i : Int)) = rows[i] := by
   unfold z2G
   rw [show (1 + (i : Int) - 1).toNat = i by omega, List.getD_eq_getElem?_getD, List.getElem?_eq_getElem hi]
   rfl
  obtain ⟨b, bs, rfl, eb, _, tb⟩ := z1e td
  obtain ⟨x0, ur, rfl, t0, tb⟩ := z1s tb
  obtain ⟨x1, ur, rfl, t1, tb⟩ := z1s tb
  rw [ew] at t1
  obtain ⟨c, cs, rfl, ec, _, tc⟩ := z1e t1
  refine ⟨_, rfl, b, _, _, _, rfl, rfl, SqT.of (gg _ _ (s1 _ _ eb)), z1E rfl, c, cs, rows[i], rfl, gg _ _ (s1 _ _ ec), z0d.keep (s1.trans gg) _ _ tc, w12 _ (List.getElem_mem hi), fun l H2 s2 e2 => ⟨gg.trans s2, ?_⟩⟩
  rw [z0X (List.getElem?_eq_getElem hi), List.map_append, List.map_append]
  refine z0d.snoc (z0d.keep s2 _ _ t) (z0v e2 ?_ (z4I _))
  have := w12 _ (List.getElem_mem hi)
  unfold z3e
  rw [List.length_map, List.length_map]
  omega
 obtain ⟨gg, t⟩ := hq
 rw [lx, List.take_length] at t
 intro D hD
 have s2 := s1.trans (gg.trans (z02 hD (.lst ys)))
 have eD : upd H' D (.lst ys) D = some (.lst ys) := z03
 have t2 := z0d.keep (z02 hD (.lst ys)) _ _ t
 generalize upd H' D (.lst ys) = H2 at s2 eD t2
 have l60' : ((rows.map z3e)).length ≤ 59 := by rw [List.length_map]; omega
 refine ⟨_, rfl, p, COffice, dx, fs, _, rfl, s2 _ _ h1, T.cl, T.n_written, l3, .inl ⟨rfl, _, SqL.of (s2 _ _ h4)⟩, ?_⟩
 refine ⟨_, rfl, _, rfl, p, COffice, dx, fs, _, rfl, s2 _ _ h1, T.cl, T.n_names, l1, _, rfl, pn, a, zs, us, pr, rfl, .inr (SqT.of (s2 _ _ h3)), g.hi, SqP.keep s2 ha, z1i.keep s2 hp', gr.nd, l12, fun v1 H3 s3 tv1 => ?_⟩
 have s23 := s2.trans s3
 refine ⟨_, rfl, _, rfl, p, COffice, dx, fs, _, rfl, s23 _ _ h1, T.cl, T.n_reach, l2, D, ys, rows.map z3e, r, rfl, .inl (SqL.of (s3 _ _ eD)), z0d.keep s3 _ _ t2, l60', ?_, r0, r1, fun v2 H4 s4 tv2 => ?_⟩
 ·intro w' hw'
  obtain ⟨w0, hw0, rfl⟩ := List.mem_map.mp hw'
  have := w12 w0 hw0
  unfold z3e
  rw [List.length_map]
  exact this
 refine ⟨(by show 3 ≤ sizeLine; decide), fun q hq => ?_⟩
 have s24 := s23.trans (s4.trans (z02 hq (.tup [V.int ((xs.length : Int) + 1), v1, v2])))
 have eq' : upd H4 q (.tup [V.int ((xs.length : Int) + 1), v1, v2]) q = some (.tup [V.int ((xs.length : Int) + 1), v1, v2]) := z03
 have tv1' := Tell.keep (s4.trans (z02 hq (.tup [V.int ((xs.length : Int) + 1), v1, v2]))) _ _ tv1
 have tv2' := Tell.keep (z02 hq (.tup [V.int ((xs.length : Int) + 1), v1, v2])) _ _ tv2
 generalize upd H4 q (.tup [V.int ((xs.length : Int) + 1), v1, v2]) = H5 at s24 eq' tv1' tv2'
 refine ⟨pl, xs, .ref q, rfl, rfl, s24 _ _ h4, z0k (by omega), ?_⟩
 refine ⟨_, rfl, ?_⟩
 have np : p ≠ pl := z4A h1 h4 (fun z => by cases z)
 have nx : dx ≠ pl := z4A h2 h4 (fun z => by cases z)
 have nn : pn ≠ pl := z4A h3 h4 (fun z => by cases z)
 have h5 := s24 _ _ h4
 have e := k [p, dx, pl] (upd H5 pl (.lst (xs ++ [.ref q]))) (fun b hb => .inl hb) (fun b o e nb => by rw [z0b (fun z => nb (by rw [z]; simp))]; exact s24 _ _ e)
  ⟨dx, pn, pl, fs, _, rfl, by rw [z0b np]; exact s24 _ _ h1, by rw [z0b nx]; exact s24 _ _ h2, by rw [z0b nn]; exact s24 _ _ h3, z03, l1, l2, l3, lm, ?_, ?_, ?_, g, r0, r1⟩
 ·rw [<- lx] at e
  exact e
 ·refine z0d.over h5 (fun _ z => by cases z) _ _ ?_
  rw [List.length_append, List.length_singleton, z5n, List.map_append]
  have e1 : (upI 1 rows.length).map (fun n => z1r (rows ++ [z0T zs pr]) n r) = (upI 1 rows.length).map fun n => z1r rows n r := List.map_congr_left fun n hn => by
   have := z1Z.mp hn
   exact z8T rows _ (by omega) (by omega)
  rw [e1]
  refine z0d.snoc (z0d.keep s24 _ _ tl) ?_
  have en : (1 : Int) + (rows.length : Int) = (rows.length : Int) + 1 := by omega
  have er : z2G (rows ++ [z0T zs pr]) ((rows.length : Int) + 1) = z0T zs pr := by
   unfold z2G
   rw [show ((rows.length : Int) + 1 - 1).toNat = rows.length by omega, List.getD_eq_getElem?_getD, List.getElem?_concat_length]
   rfl
  show Tell H5 (z1r (rows ++ [z0T zs pr]) (1 + (rows.length : Int)) r) (.ref q)
  unfold z1r
  rw [en, er, y02 rows _ r r0]
  rw [lx] at eq'
  exact z0v eq' (by show 3 ≤ 1000000; decide) (.cons (z1m _) (.cons tv1' (.cons tv2' .nil)))
 ·rw [List.length_append, List.length_singleton]
  omega
 ·intro w' hw'
  rcases List.mem_append.mp hw' with hw' | hw'
  ·exact w12 w' hw'
  ·rw [List.mem_singleton] at hw'
   rw [hw']
   exact Nat.le_trans (z44 zs pr) g.hi
abbrev Deed := Option Int × Int
def z1z : Deed -> List V
 | (none, n) => [.str "write", .int n]
 | (some r, n) => [.str "deliver", .int r, .int n]
def z1p (H : Hp) (u : V) (d : Deed) : Prop := ∃ b, u = .ref b /\ H b = some (.tup (z1z d))
theorem z0Y {H : Hp} {us : List V} {log : List Deed} (h : Paired (z1p H) us log) : us.length = log.length := by
 induction h with
 | nil => rfl
 | cons _ _ ih => rw [List.length_cons, List.length_cons, ih]
def gotL (log : List Deed) (rd : Int) : List Int := log.foldl (fun acc d => if d.1 = some rd then addN acc d.2 else acc) []
theorem z8a (log : List Deed) (d : Deed) (rd : Int) : gotL (log ++ [d]) rd = if d.1 = some rd then addN (gotL log rd) d.2 else gotL log rd := by
 unfold gotL
 rw [List.foldl_append]
 rfl
theorem y1F {log : List Deed} {rd n : Int} : n ∈ gotL log rd ↔ ((some rd, n) : Deed) ∈ log := by
 have go : ∀ (log : List Deed) (acc : List Int), n ∈ log.foldl (fun acc d => if d.1 = some rd then addN acc d.2 else acc) acc ↔ n ∈ acc \/ ((some rd, n) : Deed) ∈ log := by
  intro log
  induction log with
  | nil => intro acc; exact ⟨.inl, fun h => h.elim id fun q => (nomatch q)⟩
  | cons d log ih =>
   intro acc
   rw [List.foldl_cons, ih, List.mem_cons]
   obtain ⟨a, m⟩ := d
   by_cases c : a = some rd
   ·subst c
    rw [if_pos rfl, z9c, or_assoc]
    exact or_congr Iff.rfl (or_congr ⟨fun e => by rw [e], fun e => congrArg Prod.snd e⟩ Iff.rfl)
   ·rw [if_neg c]
    exact or_congr Iff.rfl ⟨.inr, fun h => h.elim (fun e => absurd (congrArg Prod.fst e).symm c) id⟩
 unfold gotL
 rw [go]
 exact ⟨fun h => h.elim (fun q => (nomatch q)) id, .inr⟩
abbrev BkP := Hp -> Addr -> List Addr -> List Str -> Int -> Int -> List Row -> List Deed -> Prop
structure BkOk (C : Addr) (ms : List Str) (Bk : BkP) : Prop where
 ins : ∀ {H p fp zs r k rows log}, Bk H p fp zs r k rows log -> ∃ dx fs, H p = some (.ins C dx fs) /\ ∀ m ∈ ms, fs.lookup m = none
 own : ∀ {H p fp zs r k rows log}, Bk H p fp zs r k rows log -> ∀ b ∈ fp, ∃ o, H b = some o /\ ∀ xs, o ≠ .tup xs
 keep : ∀ {H H' p fp gp zs r k rows log}, Bk H p fp zs r k rows log -> z0f gp H H' -> (∀ b ∈ gp, b ∉ fp) -> z36 H gp -> Bk H' p fp zs r k rows log
theorem BkOk.same {C : Addr} {ms : List Str} {Bk : BkP} (O : BkOk C ms Bk) {H H' : Hp} {p : Addr} {fp : List Addr} {zs : List Str} {r k : Int} {rows : List Row} {log : List Deed} (h : Bk H p fp zs r k rows log) (s : Same H H') : Bk H' p fp zs r k rows log :=
 O.keep (gp := []) h (.of s) (fun _ q => by cases q) fun _ q => by cases q
theorem BkOk.noTup {C : Addr} {ms : List Str} {Bk : BkP} (O : BkOk C ms Bk) {H : Hp} {p : Addr} {fp : List Addr} {zs : List Str} {r k : Int} {rows : List Row} {log : List Deed} (h : Bk H p fp zs r k rows log) : z36 H fp := fun b m xs e => by
 obtain ⟨o, e1, n⟩ := O.own h b m
 rw [e1] at e
 exact n xs (Option.some.inj e)
def z9o (K : PySem.W.Frag) (C : Addr) (Bk : BkP) : Sp := fun vs H Q _ => ∃ (x dx pn : Addr) (zs : List Str) (r k : Int), vs = [.ref x, .ref pn, .int r, .int k] /\ H x = some (.ins C dx []) /\ dx ≠ x /\ H dx = some (.own x) /\ HdN K H pn zs /\ GoodN zs /\ 0 ≤ r /\ r ≤ 10 /\ 1 ≤ k /\ k ≤ 10 /\
 ∀ (fp : List Addr) (H' : Hp), (∀ b ∈ fp, b = x \/ b = dx \/ H b = none) -> z0f [x] H H' -> Bk H' x fp zs r k [] [] -> Q .non H'
def z49 (K : PySem.W.Frag) (Bk : BkP) : Sp := fun vs H Q _ => ∃ (p : Addr) (v : V) (fp : List Addr) (zs : List Str) (r k : Int) (rows : List Row) (log : List Deed) (pr : Row), vs = [.ref p, v] /\ Bk H p fp zs r k rows log /\ z9a K H fp v pr /\ GoodR zs pr /\ pr.length ≤ 12 /\ rows.length < 60 /\ log.length < 400 /\
 ∀ (fp' : List Addr) (H' : Hp), (∀ b ∈ fp', b ∈ fp \/ H b = none) -> z0f fp H H' -> Bk H' p fp' zs r k (rows ++ [z0T zs pr]) (log ++ [(none, (rows.length : Int) + 1)]) -> Q (.int (rows.length + 1)) H'
def z30 (Bk : BkP) : Sp := fun vs H Q _ => ∃ (p : Addr) (fp : List Addr) (zs : List Str) (r k : Int) (rows : List Row) (log : List Deed) (rd n : Int), vs = [.ref p, .int rd, .int n] /\ Bk H p fp zs r k rows log /\ 1 ≤ rd /\ rd ≤ k /\ 1 ≤ n /\ n ≤ rows.length /\ log.length < 400 /\
 ∀ (H' : Hp), z0f fp H H' -> Bk H' p fp zs r k rows (log ++ [(some rd, n)]) -> Q (.bl (decide (((some rd, n) : Deed) ∉ log))) H'
def z8c (Bk : BkP) : Sp := fun vs H Q _ => ∃ (p : Addr) (fp : List Addr) (zs : List Str) (r k : Int) (rows : List Row) (log : List Deed), vs = [.ref p] /\ Bk H p fp zs r k rows log /\ Q (.int log.length) H
def dedV : Option Nat -> V
 | none => .non
 | some d => .int d
def z4r (Bk : BkP) (Sh : ShP) : Sp := fun vs H Q _ => ∃ (p : Addr) (fp : List Addr) (zs : List Str) (r k : Int) (rows : List Row) (log : List Deed) (rd : Int) (o : Option Nat), vs = [.ref p, .int rd, dedV o] /\ Bk H p fp zs r k rows log /\ 1 ≤ rd /\ rd ≤ k /\ (∀ d, o = some d -> d ≤ log.length) /\
 ∀ (x : Addr) (fq : List Addr) (H' : Hp), (∀ b ∈ fq, H b = none) -> Same H H' -> Sh H' x fq zs r (fun n => z1r rows n r) (gotL (log.take (o.getD log.length)) rd) -> Q (.ref x) H'
theorem DeedsAt.but {fp : List Addr} {H H' : Hp} {us : List V} {log : List Deed} (s : z0f fp H H') (n : z36 H fp) (h : Paired (z1p H) us log) : Paired (z1p H') us log :=
 L2.Paired.mapP h fun u d ⟨b, e, q⟩ => ⟨b, e, s _ _ q fun m => n b m _ q⟩
structure BkIn (K : PySem.W.Frag) (CB CO : Addr) (H : Hp) (p dx po pd : Addr) (fs : List (Str × V)) (fo : List Addr) (us : List V) (zs : List Str) (r k : Int) (rows : List Row) (log : List Deed) : Prop where
 hp : H p = some (.ins CB dx fs)
 hdx : H dx = some (.own p)
 of : OfD K CO H po fo zs r rows
 hd : H pd = some (.lst us)
 ds : Paired (z1p H) us log
 npo : p ∉ fo
 ndo : dx ∉ fo
 ndn : pd ∉ fo
 lo : fs.lookup ("office" : Str) = some (V.ref po)
 lr : fs.lookup ("readers" : Str) = some (V.int k)
 ld : fs.lookup ("done" : Str) = some (V.ref pd)
 lm : ∀ m ∈ (["refuse_unknown_reader", "refuse_further_deed", "write", "deliver", "latest", "issue", "deeds", "deed", "shelf"] : List Str), fs.lookup m = none
 l4 : log.length ≤ 400
 in1 : ∀ d ∈ log, 1 ≤ d.2 /\ d.2 ≤ rows.length
 k1 : 1 ≤ k
 k10 : k ≤ 10
def BkD (K : PySem.W.Frag) (CB CO : Addr) : BkP := fun H p fp zs r k rows log => ∃ (dx po pd : Addr) (fs : List (Str × V)) (fo : List Addr) (us : List V), fp = p :: dx :: pd :: fo /\ BkIn K CB CO H p dx po pd fs fo us zs r k rows log
theorem bkOk {K : PySem.W.Frag} {CB CO : Addr} : BkOk CB ["write", "deliver", "latest", "issue", "deeds", "deed", "shelf"] (BkD K CB CO) := by
 refine ⟨fun h => ?_, fun h b hb => ?_, fun h s out nt => ?_⟩
 ·obtain ⟨dx, po, pd, fs, fo, us, rfl, B⟩ := h
  refine ⟨dx, fs, B.hp, fun m hm => B.lm m ?_⟩
  exact List.mem_cons_of_mem _ (List.mem_cons_of_mem _ hm)
 ·obtain ⟨dx, po, pd, fs, fo, us, rfl, B⟩ := h
  rcases List.mem_cons.mp hb with rfl | hb
  ·exact ⟨_, B.hp, fun xs z => by cases z⟩
  rcases List.mem_cons.mp hb with rfl | hb
  ·exact ⟨_, B.hdx, fun xs z => by cases z⟩
  rcases List.mem_cons.mp hb with rfl | hb
  ·exact ⟨_, B.hd, fun xs z => by cases z⟩
  exact ofOk.own B.of b hb
 ·obtain ⟨dx, po, pd, fs, fo, us, rfl, B⟩ := h
  exact ⟨dx, po, pd, fs, fo, us, rfl, { B with
   hp := s _ _ B.hp fun m => out _ m (by simp)
   hdx := s _ _ B.hdx fun m => out _ m (by simp)
   of := ofOk.keep B.of s (fun b m z => out b m (by simp [z])) nt
   hd := s _ _ B.hd fun m => out _ m (by simp)
   ds := DeedsAt.but s nt B.ds }⟩
def z4S : Sp := fun vs H Q _ => ∃ k : Int, vs = [.int k] /\ 1 ≤ k /\ k ≤ 10 /\ Q .non H
theorem z6Y (M : Bl mg) (F : Fun K "refuse_bad_readers" "refuse_bad_readers" z1w f fd) : FnOk P w K mg base CX0 1 f fd z1v z4S := by
 have nd := z24.nd
 refine F.ok z24 (fun vs H Q E h => ?_) (fun cdv A outer s H vs Q E hr h => ?_)
 ·obtain ⟨r, rfl, _⟩ := h
  rfl
 ·obtain ⟨r, rfl, r0, r1, k⟩ := h
  refine ⟨_, (z06 (z0G (PW.pt (z2L (z0a z3I (pv 0) z05 (z0g _)) (z1F (z0a z2f (pv 0) (z0U rfl M.MOST_READERS) (z0g _))))) (z06 z1b) z0h)), ?_⟩
  refine ⟨_, rfl, _, _, rfl, rfl, _, rfl, ite2 (fun q => absurd (z11 q) (by omega)) fun _ => ?_⟩
  exact ⟨_, rfl, _, _, rfl, rfl, _, rfl, ite2 (fun q => absurd (z11 q) (by omega)) fun _ => k⟩
def z1N (Bk : BkP) : Sp := fun vs H Q _ => ∃ (p : Addr) (fp : List Addr) (zs : List Str) (r k : Int) (rows : List Row) (log : List Deed) (rd : Int), vs = [.ref p, .int rd] /\ Bk H p fp zs r k rows log /\ 1 ≤ rd /\ rd ≤ k /\ Q .non H
theorem z4Y {CBook COffice : Addr} (M : Bl mg) (T : TxBook K mg CBook) (F : Fun K "refuse_unknown_reader" "Book.refuse_unknown_reader" z0C f fd) : FnOk P w K mg base CX0 1 f fd z0l (z1N (BkD K CBook COffice)) := by
 have nd := z0y.nd
 refine F.ok z0y (fun vs H Q E h => ?_) (fun cdv A outer s H vs Q E hr h => ?_)
 ·obtain ⟨p, fp, zs, r, k, rows, log, rd, rfl, _⟩ := h
  rfl
 obtain ⟨p, fp, zs, r, k, rows, log, rd, rfl, ⟨dx, po, pd, fs, fo, us, rfl, B⟩, r1, r2, q⟩ := h
 refine ⟨_, (z06 (z0G (PW.pt (z2L (z0a z3I (pv 1) z05 (z0g _)) (z1F (z0a z2f (pv 1) (z0s (pv 0) rfl) (z0g _))))) (z06 z1b) z0h)), ?_⟩
 refine ⟨_, rfl, _, _, rfl, rfl, _, rfl, ite2 (fun q => absurd (z11 q) (by omega)) fun _ => ?_⟩
 exact ⟨_, rfl, _, rfl, p, CBook, dx, fs, _, rfl, B.hp, T.cl, T.n_readers, B.lr, _, _, rfl, rfl, _, rfl, ite2 (fun q => absurd (z11 q) (by omega)) fun _ => q⟩
def z1U (Bk : BkP) : Sp := fun vs H Q _ => ∃ (p : Addr) (fp : List Addr) (zs : List Str) (r k : Int) (rows : List Row) (log : List Deed), vs = [.ref p] /\ Bk H p fp zs r k rows log /\ log.length < 400 /\ Q .non H
theorem z6y {CBook COffice : Addr} (M : Bl mg) (T : TxBook K mg CBook) (F : Fun K "refuse_further_deed" "Book.refuse_further_deed" z0J f fd) : FnOk P w K mg base CX0 1 f fd z0i (z1U (BkD K CBook COffice)) := by
 have nd := z0H.nd
 refine F.ok z0H (fun vs H Q E h => ?_) (fun cdv A outer s H vs Q E hr h => ?_)
 ·obtain ⟨p, fp, zs, r, k, rows, log, rfl, _⟩ := h
  rfl
 obtain ⟨p, fp, zs, r, k, rows, log, rfl, ⟨dx, po, pd, fs, fo, us, rfl, B⟩, l4, q⟩ := h
 refine ⟨_, (z06 (z0G (z0a z8q (z08 z07 rfl M.len PySem.boot_len (z00 (z0s (pv 0) rfl) z01)) (z0U rfl M.MOST_DEEDS) (z0g _)) (z06 z1b) z0h)), ?_⟩
 have lu := z0Y B.ds
 exact ⟨_, rfl, p, CBook, dx, fs, _, rfl, B.hp, T.cl, T.n_done, B.ld, pd, us, rfl, .inl (SqL.of B.hd), _, _, rfl, rfl, _, rfl, ite2 (fun q => absurd (z11 q) (by omega)) fun _ => q⟩
theorem z9L {CBook COffice : Addr} (M : Bl mg) (T : TxBook K mg CBook) (F : Fun K "deeds" "Book.deeds" z3T f fd) : FnOk P w K mg base CX0 1 f fd z3P (z8c (BkD K CBook COffice)) := by
 have nd := z4Z.nd
 refine F.ok z4Z (fun vs H Q E h => ?_) (fun cdv A outer s H vs Q E hr h => ?_)
 ·obtain ⟨p, fp, zs, r, k, rows, log, rfl, _⟩ := h
  rfl
 obtain ⟨p, fp, zs, r, k, rows, log, rfl, ⟨dx, po, pd, fs, fo, us, rfl, B⟩, q⟩ := h
 refine ⟨_, (z06 (z0o (z08 z07 rfl M.len PySem.boot_len (z00 (z0s (pv 0) rfl) z01)))), ?_⟩
 have lu := z0Y B.ds
 refine ⟨_, rfl, p, CBook, dx, fs, _, rfl, B.hp, T.cl, T.n_done, B.ld, pd, us, rfl, .inl (SqL.of B.hd), ?_⟩
 rw [lu]
 exact q
theorem y0O {CBook COffice : Addr} (M : Bl mg) (T : TxBook K mg CBook) (F : Fun K "__init__" "Book.__init__" z2x f fd) (GOffice : Mkr P w K mg base 3 COffice "Office" z1Y (z9h K COffice (OfD K COffice)))
  (Grefuse_bad_readers : Cal P w K mg base 1 "refuse_bad_readers" z1v z4S) : FnOk P w K mg base CX0 6 f fd z2C (z9o K CBook (BkD K CBook COffice)) := by
 have nd := z3n.nd
 refine F.ok z3n (fun vs H Q E h => ?_) (fun cdv A outer s H vs Q E hr h => ?_)
 ·obtain ⟨x, dx, pn, zs, r, k, rfl, _⟩ := h
  rfl
 obtain ⟨x, dx, pn, zs, r, k, rfl, hx, ne, hdx, hn, g, r0, r1, k1, k10, q⟩ := h
 refine ⟨_, (z04 (z4t (pv 0) (y1d GOffice (rm hr) rfl (z00 (pv 1) (z00 (pv 2) z01))) rfl) (z04 (z0p (z0t Grefuse_bad_readers (rm hr) rfl (z00 (pv 3) z01))) (z04 (z4t (pv 0) (pv 3) rfl) (z06 (z4t (pv 0) (z0R z01) rfl))))), ?_⟩
 refine ⟨_, rfl, _, rfl, fun po dxo nx ndx neo => ?_⟩
 have m1 := z5r (C := COffice) (Same.refl H) nx ndx
 refine ⟨po, dxo, pn, zs, r, rfl, z03, neo, by rw [z0b neo, z03], HdN.keep m1 hn, g, r0, r1, fun fo H1 ff sb of => ⟨rfl, ?_⟩⟩
 have s1 : Same H H1 := z5v sb m1 nx
 have f1 : ∀ b ∈ fo, H b = none := fun b hb => z4O m1 nx ndx (ff b hb)
 refine ⟨_, rfl, x, CBook, dx, [], rfl, s1 _ _ hx, T.cl, T.n_office, by decide, ?_⟩
 have z1 := z1h "office" (.ref po) []
 have z2 := z1h "readers" (.int k) (putF "office" (.ref po) [])
 have z0 : ([] : List (Str × V)).length = 0 := rfl
 refine ⟨_, rfl, k, rfl, k1, k10, ?_⟩
 refine ⟨_, rfl, _, rfl, x, CBook, dx, _, rfl, z03, T.cl, T.n_readers, (by omega), ?_⟩
 rw [z77]
 refine ⟨(by show 0 ≤ sizeLine; decide), fun pd hd => ?_⟩
 have nxp : x ≠ pd := z0j z03 hd
 have dfr : H1 pd = none := by rw [z0b (Ne.symm nxp)] at hd; exact hd
 have ndd : dx ≠ pd := z0j (s1 _ _ hdx) dfr
 have out : ∀ {b : Addr} {o : HO}, H b = some o -> b ∉ fo := fun e m => by rw [f1 _ m] at e; cases e
 refine ⟨_, rfl, x, CBook, dx, _, rfl, (by rw [z0b nxp, z03]), T.cl, T.n_done, (by omega), ?_⟩
 have sx : z0f [x] H1 (upd (upd (upd H1 x (.ins CBook dx (putF "readers" (.int k) (putF "office" (.ref po) [])))) pd (.lst [])) x (.ins CBook dx (putF "done" (.ref pd) (putF "readers" (.int k) (putF "office" (.ref po) []))))) := fun b o e nb => by
  rw [List.mem_singleton] at nb
  rw [z0b nb, z0b (z0j e dfr), z0b nb]
  exact e
 refine q (x :: dx :: pd :: fo) _ (fun b hb => ?_) (fun b o e nb => sx b o (s1 _ _ e) nb) ⟨dx, po, pd, _, fo, [], rfl, ⟨z03, ?_, ?_, ?_, .nil, out hx, out hdx, ?_, ?_, ?_, ?_, ?_, by decide, fun _ q => (nomatch q), k1, k10⟩⟩
 ·rcases List.mem_cons.mp hb with rfl | hb
  ·exact .inl rfl
  rcases List.mem_cons.mp hb with rfl | hb
  ·exact .inr (.inl rfl)
  rcases List.mem_cons.mp hb with rfl | hb
  ·exact .inr (.inr (s1.free dfr))
  ·exact .inr (.inr (f1 b hb))
 ·exact sx _ _ (s1 _ _ hdx) (by rw [List.mem_singleton]; exact ne)
 ·refine ofOk.keep of sx (fun b m => ?_) fun b m xs e => ?_
  ·rw [List.mem_singleton.mp m]
   exact out hx
  ·rw [List.mem_singleton.mp m, s1 _ _ hx] at e
   cases e
 ·rw [z0b (Ne.symm nxp), z03]
 ·intro m
  obtain ⟨o, e, _⟩ := ofOk.own of pd m
  rw [dfr] at e
  cases e
 ·rw [z0e, if_neg (by decide +kernel), z0e, if_neg (by decide +kernel), z0e, if_pos rfl]
 ·rw [z0e, if_neg (by decide +kernel), z0e, if_pos rfl]
 ·rw [z0e, if_pos rfl]
 ·intro m hm
  simp only [List.mem_cons, List.not_mem_nil, or_false] at hm
  rcases hm with rfl | rfl | rfl | rfl | rfl | rfl | rfl | rfl | rfl <;> rw [z0e, if_neg (by decide +kernel), z0e, if_neg (by decide +kernel), z0e, if_neg (by decide +kernel)] <;> rfl
theorem y2S {K : PySem.W.Frag} {CB CO : Addr} {H H1 : Hp} {p dx po pd t : Addr} {fs : List (Str × V)} {fo fo' : List Addr} {us : List V} {zs : List Str} {r k : Int} {rows rows' : List Row} {log : List Deed} {d : Deed} (B : BkIn K CB CO H p dx po pd fs fo us zs r k rows log)
  (sb : z0f fo H H1) (of : OfD K CO H1 po fo' zs r rows') (ff : ∀ b ∈ fo', b ∈ fo \/ H b = none) (ht : H1 t = some (.tup (z1z d))) (hl : rows.length ≤ rows'.length) (hd1 : 1 ≤ d.2 /\ d.2 ≤ rows'.length) (l4 : log.length < 400) :
  z0f (p :: dx :: pd :: fo) H (upd H1 pd (.lst (us ++ [.ref t]))) /\ BkD K CB CO (upd H1 pd (.lst (us ++ [.ref t]))) p (p :: dx :: pd :: fo') zs r k rows' (log ++ [d]) := by
 have ntf : z36 H fo := ofOk.noTup B.of
 have hd' := sb _ _ B.hd B.ndn
 have out : ∀ {b : Addr} {o : HO}, H b = some o -> b ∉ fo -> b ∉ fo' := fun e n m => (ff _ m).elim n fun z => by rw [z] at e; cases e
 have s2 : z0f [pd] H1 (upd H1 pd (.lst (us ++ [.ref t]))) := fun b o e nb => by
  rw [List.mem_singleton] at nb
  rw [z0b nb]
  exact e
 have nt2 : z36 H1 [pd] := fun b m xs e => by
  rw [List.mem_singleton.mp m, hd'] at e
  cases e
 have npd : p ≠ pd := z4A B.hp B.hd (fun z => by cases z)
 have ndd : dx ≠ pd := z4A B.hdx B.hd (fun z => by cases z)
 refine ⟨fun b o e nb => ?_, dx, po, pd, fs, fo', us ++ [.ref t], rfl, { B with
  hp := by rw [z0b npd]; exact sb _ _ B.hp B.npo
  hdx := by rw [z0b ndd]; exact sb _ _ B.hdx B.ndo
  of := ofOk.keep of s2 (fun b m => by rw [List.mem_singleton.mp m]; exact out B.hd B.ndn) nt2
  hd := z03
  ds := ?_
  npo := out B.hp B.npo
  ndo := out B.hdx B.ndo
  ndn := out B.hd B.ndn
  l4 := by rw [List.length_append]; exact l4
  in1 := fun x hx => ?_ }⟩
 ·rw [List.mem_cons, List.mem_cons, List.mem_cons, not_or, not_or, not_or] at nb
  rw [z0b nb.2.2.1]
  exact sb _ _ e nb.2.2.2
 ·exact Paired.snoc (DeedsAt.but s2 nt2 (DeedsAt.but sb ntf B.ds)) ⟨t, rfl, s2 _ _ ht fun m => nt2 t m _ ht⟩
 ·rcases List.mem_append.mp hx with hx | hx
  ·have := B.in1 x hx
   omega
  ·rw [List.mem_singleton.mp hx]
   exact hd1
theorem z6P {CBook COffice : Addr} (M : Bl mg) (T : TxBook K mg CBook) (F : Fun K "write" "Book.write" z2T f fd) (GOffice_refuse_writing : MCal P w K mg base 3 COffice "refuse_writing" z0m (z1W K (OfD K COffice)))
  (GOffice_write : MCal P w K mg base 4 COffice "write" z1B (z48 K (OfD K COffice))) (GBook_refuse_further_deed : MCal P w K mg base 1 CBook "refuse_further_deed" z0i (z1U (BkD K CBook COffice))) :
  FnOk P w K mg base CX0 5 f fd z2e (z49 K (BkD K CBook COffice)) := by
 have nd := z2u.nd
 refine F.ok z2u (fun vs H Q E h => ?_) (fun cdv A outer s H vs Q E hr h => ?_)
 ·obtain ⟨p, v, fp, zs, r, k, rows, log, pr, rfl, _⟩ := h
  rfl
 obtain ⟨p, v, fp, zs, r, k, rows, log, pr, rfl, bk, ⟨a, vs, rfl, ha, na, hpr⟩, gr, l12, l60, l4, q⟩ := h
 refine ⟨_, (z04 (z0p (z1x GOffice_refuse_writing (rm hr) (z0s (pv 0) rfl) (z00 (pv 1) z01))) (z04 (z0p (z2R GBook_refuse_further_deed (rm hr) (pv 0))) (z04 (z0n (i := 2) nd rfl (Or.inl rfl) (z1x GOffice_write (rm hr) (z0s (pv 0) rfl) (z00 (pv 1) z01))) (z04 (z0p (z2l PySem.F.plainAttrs_list PySem.F.slot_list_append PySem.F.type_list_append z0I (z0s (pv 0) rfl) (z00 (z1o (z00 (z2F rfl M.WRITE) (z00 (pv 2) z01))) z01))) (z06 (z0o (pv 2))))))), ?_⟩
 obtain ⟨dx, po, pd, fs, fo, us, rfl, B⟩ := id bk
 have no : ∀ {b : Addr}, b ∉ p :: dx :: pd :: fo -> b ∉ fo := fun n m => n (by simp [m])
 have hand : Paired (z79 K H fo) vs pr := L2.Paired.mapP hpr fun u x ⟨b, e, q, n⟩ => ⟨b, e, q, no n⟩
 obtain ⟨dxo, pno, plo, fso, xso, efo, h1, h2, h3, h4, l1, l2, l3, lmo, _⟩ := id B.of
 refine ⟨_, rfl, p, CBook, dx, fs, _, rfl, B.hp, T.cl, T.n_office, B.lo, po, dxo, fso, rfl, h1, lmo _ (by simp), _, rfl, po, a, fo, zs, r, rows, vs, pr, rfl, B.of, ha, z1i.of hand, gr, l12, l60, fun H1 s1 => ?_⟩
 refine ⟨_, rfl, p, dx, fs, rfl, s1 _ _ B.hp, B.lm _ (by simp), p, _, zs, r, k, rows, log, rfl, bkOk.same bk s1, l4, ?_⟩
 have ha1 : z9a K H1 fo (.ref a) pr := ⟨a, vs, rfl, SqP.keep s1 ha, no na, L2.Paired.mapP hand fun u x ⟨b, e, q, n⟩ => ⟨b, e, q.imp (fun z => s1.seq z) fun z => z4z s1 z, n⟩⟩
 refine ⟨_, rfl, p, CBook, dx, fs, _, rfl, s1 _ _ B.hp, T.cl, T.n_office, B.lo, po, dxo, fso, rfl, s1 _ _ h1, lmo _ (by simp), _, rfl, po, .ref a, fo, zs, r, rows, pr, rfl, ofOk.same B.of s1, ha1, gr, l12, l60, fun fo' H2 ff sb of2 => ?_⟩
 have sb2 : z0f fo H H2 := fun b o e n => sb _ _ (s1 _ _ e) n
 have lu := z0Y B.ds
 refine ⟨_, rfl, p, CBook, dx, fs, _, rfl, sb2 _ _ B.hp B.npo, T.cl, T.n_done, B.ld, .inl ⟨rfl, _, SqL.of (sb2 _ _ B.hd B.ndn)⟩, ?_⟩
 refine ⟨_, rfl, (by show 2 ≤ sizeLine; decide), fun t ht => ⟨pd, us, _, rfl, rfl, z02 ht _ _ _ (sb2 _ _ B.hd B.ndn), z0k (by omega), ?_⟩⟩
 have s3 := z02 ht (.tup [V.str "write", V.int ((rows.length : Int) + 1)])
 have et : upd H2 t (.tup [V.str "write", V.int ((rows.length : Int) + 1)]) t = some (.tup (z1z (none, (rows.length : Int) + 1))) := z03
 have sb3 : z0f fo H (upd H2 t (.tup [V.str "write", V.int ((rows.length : Int) + 1)])) := fun b o e n => s3 _ _ (sb2 _ _ e n)
 have of3 := ofOk.same of2 s3
 obtain ⟨g1, g2⟩ := y2S B sb3 of3 (fun b m => (ff b m).imp id fun z => s1.free z) et (by rw [List.length_append]; omega) ⟨by show (1 : Int) ≤ rows.length + 1; omega, by show ((rows.length : Int) + 1) ≤ _; rw [List.length_append]; exact Int.le_refl _⟩ l4
 refine ⟨_, rfl, q (p :: dx :: pd :: fo') _ (fun b hb => ?_) g1 g2⟩
 rcases List.mem_cons.mp hb with rfl | hb
 ·exact .inl (by simp)
 rcases List.mem_cons.mp hb with rfl | hb
 ·exact .inl (by simp)
 rcases List.mem_cons.mp hb with rfl | hb
 ·exact .inl (by simp)
 exact (ff b hb).imp (fun z => by simp [z]) fun z => s1.free z
theorem y1A (d : Deed) (rd n : Int) : z2H (z1z d) (z1z (some rd, n)) = decide (d = (some rd, n)) := by
 obtain ⟨a, m⟩ := d
 cases a with
 | none =>
  rw [decide_eq_false (fun e => by cases e)]
  rfl
 | some r =>
  show (eqV (.str "deliver") (.str "deliver") && (eqV (.int r) (.int rd) && (eqV (.int m) (.int n) && true))) = _
  rw [z7p rfl, Bool.true_and, Bool.and_true, Bool.eq_iff_iff, Bool.and_eq_true, decide_eq_true_eq]
  show (r == rd) = true /\ (m == n) = true ↔ _
  rw [beq_iff_eq, beq_iff_eq]
  exact ⟨fun h => by rw [h.1, h.2], fun h => by cases h; exact ⟨rfl, rfl⟩⟩
theorem z9d (log : List Deed) (rd n : Int) : (!(log.map z1z).any fun ys => z2H ys (z1z (some rd, n))) = decide (((some rd, n) : Deed) ∉ log) := by
 rw [List.any_map, Bool.eq_iff_iff, Bool.not_eq_true', decide_eq_true_eq, List.any_eq_false]
 refine ⟨fun h m => h _ m ?_, fun h d hd e => h ?_⟩
 ·show z2H _ _ = true
  rw [y1A]
  exact decide_eq_true rfl
 ·have e' : z2H (z1z d) (z1z (some rd, n)) = true := e
  rw [y1A] at e'
  rw [<- of_decide_eq_true e']
  exact hd
theorem z4v (d : Deed) : (z1z d).all z1j = true := by
 obtain ⟨a, m⟩ := d
 cases a <;> rfl
theorem z5f {CBook COffice : Addr} (M : Bl mg) (T : TxBook K mg CBook) (F : Fun K "deliver" "Book.deliver" z26 f fd) (GOffice_issue : MCal P w K mg base 1 COffice "issue" z0K (z1D (OfD K COffice)))
  (GBook_refuse_unknown_reader : MCal P w K mg base 1 CBook "refuse_unknown_reader" z0l (z1N (BkD K CBook COffice))) (GBook_refuse_further_deed : MCal P w K mg base 1 CBook "refuse_further_deed" z0i (z1U (BkD K CBook COffice))) :
  FnOk P w K mg base CX0 5 f fd z1C (z30 (BkD K CBook COffice)) := by
 have nd := z1O.nd
 refine F.ok z1O (fun vs H Q E h => ?_) (fun cdv A outer s H vs Q E hr h => ?_)
 ·obtain ⟨p, fp, zs, r, k, rows, log, rd, n, rfl, _⟩ := h
  rfl
 obtain ⟨p, fp, zs, r, k, rows, log, rd, n, rfl, bk, r1, r2, n1, n2, l4, q⟩ := h
 have hu := y15 hr
 refine ⟨_, (z04 (z0p (z1x GOffice_issue (rm hr) (z0s (pv 0) rfl) (z00 (pv 2) z01))) (z04 (z0p (z1x GBook_refuse_unknown_reader (rm hr) (pv 0) (z00 (pv 1) z01))) (z04 (z0p (z2R GBook_refuse_further_deed (rm hr) (pv 0))) (z04 (z0n (i := 3) nd rfl (Or.inl rfl) (z1o (z00 (z2F rfl M.DELIVER) (z00 (pv 1) (z00 (pv 2) z01))))) (z04 (z0n (i := 4) nd rfl (Or.inl rfl) (z7m (z5s hu) (pv 3) (z0s (pv 0) rfl) (by with_unfolding_all rfl))) (z04 (z0p (z2l PySem.F.plainAttrs_list PySem.F.slot_list_append PySem.F.type_list_append z0I (z0s (pv 0) rfl) (z00 (pv 3) z01))) (z06 (z0o (pv 4))))))))), ?_⟩
 obtain ⟨dx, po, pd, fs, fo, us, rfl, B⟩ := id bk
 obtain ⟨dxo, pno, plo, fso, xso, efo, h1, h2, h3, h4, l1, l2, l3, lmo, _⟩ := id B.of
 refine ⟨_, rfl, p, CBook, dx, fs, _, rfl, B.hp, T.cl, T.n_office, B.lo, po, dxo, fso, rfl, h1, lmo _ (by simp), _, rfl, po, fo, zs, r, rows, n, rfl, B.of, n1, n2, fun v H1 s1 _ => ?_⟩
 have bk1 := bkOk.same bk s1
 refine ⟨_, rfl, p, dx, fs, rfl, s1 _ _ B.hp, B.lm _ (by simp), _, rfl, p, _, zs, r, k, rows, log, rd, rfl, bk1, r1, r2, ?_⟩
 refine ⟨_, rfl, p, dx, fs, rfl, s1 _ _ B.hp, B.lm _ (by simp), p, _, zs, r, k, rows, log, rfl, bk1, l4, ?_⟩
 refine ⟨_, rfl, _, rfl, (by show 3 ≤ sizeLine; decide), fun t ht => ?_⟩
 have s2 := s1.trans (z02 ht (.tup [V.str "deliver", V.int rd, V.int n]))
 have et : upd H1 t (.tup [V.str "deliver", V.int rd, V.int n]) t = some (.tup (z1z (some rd, n))) := z03
 generalize upd H1 t (.tup [V.str "deliver", V.int rd, V.int n]) = H2 at s2 et
 have lu := z0Y B.ds
 have prs : Paired (fun u ys => ∃ b, u = .ref b /\ SqT K H2 b ys /\ ys.all z1j = true) us (log.map z1z) := by
  have go : ∀ {us : List V} {log : List Deed}, Paired (z1p H) us log -> Paired (fun u ys => ∃ b, u = .ref b /\ SqT K H2 b ys /\ ys.all z1j = true) us (log.map z1z) := by
   intro us log h
   induction h with
   | nil => exact .nil
   | cons h t ih =>
    obtain ⟨b, e, q⟩ := h
    exact .cons ⟨b, e, SqT.of (s2 _ _ q), z4v _⟩ ih
  exact go B.ds
 refine ⟨_, rfl, _, rfl, p, CBook, dx, fs, _, rfl, s2 _ _ B.hp, T.cl, T.n_done, B.ld, t, pd, _, us, _, rfl, rfl, SqT.of et, z4v _, SqL.of (s2 _ _ B.hd), prs, ?_⟩
 rw [z9d]
 refine ⟨_, rfl, p, CBook, dx, fs, _, rfl, s2 _ _ B.hp, T.cl, T.n_done, B.ld, .inl ⟨rfl, _, SqL.of (s2 _ _ B.hd)⟩, _, rfl, pd, us, _, rfl, rfl, s2 _ _ B.hd, z0k (by omega), ?_⟩
 obtain ⟨g1, g2⟩ := y2S B (.of s2) (ofOk.same B.of s2) (fun b m => .inl m) et (Nat.le_refl _) ⟨n1, n2⟩ l4
 exact ⟨_, rfl, q _ g1 g2⟩
def y30 : Deed -> DV
 | (none, n) => .tup [.str "write", .int n]
 | (some r, n) => .tup [.str "deliver", .int r, .int n]
theorem z84 {H : Hp} {u : V} {d : Deed} (h : z1p H u d) : Tell H (y30 d) u := by
 obtain ⟨b, rfl, e⟩ := h
 obtain ⟨a, n⟩ := d
 cases a with
 | none => exact z0v e (by show 2 ≤ 1000000; decide) (.cons (z0x _) (.cons (z1m _) .nil))
 | some r => exact z0v e (by show 3 ≤ 1000000; decide) (.cons (z0x _) (.cons (z1m _) (.cons (z1m _) .nil)))
theorem z7J {H : Hp} : ∀ {us : List V} {log : List Deed}, Paired (z1p H) us log -> ∀ (i : Nat) (d : Deed), log[i]? = some d -> ∃ u, us[i]? = some u /\ z1p H u d := by
 intro us log h
 induction h with
 | nil => intro i d e; simp at e
 | cons h t ih =>
  intro i d e
  cases i with
  | zero =>
   simp at e
   subst e
   exact ⟨_, rfl, h⟩
  | succ i =>
   obtain ⟨u, q1, q2⟩ := ih i d (by simpa using e)
   exact ⟨u, by simpa using q1, q2⟩
def z6w (Bk : BkP) : Sp := fun vs H Q _ => ∃ (p : Addr) (fp : List Addr) (zs : List Str) (r k : Int) (rows : List Row) (log : List Deed), vs = [.ref p] /\ Bk H p fp zs r k rows log /\ ∀ H', Same H H' -> Q (.int rows.length) H'
def z5W (Bk : BkP) : Sp := fun vs H Q _ => ∃ (p : Addr) (fp : List Addr) (zs : List Str) (r k : Int) (rows : List Row) (log : List Deed) (n : Int), vs = [.ref p, .int n] /\ Bk H p fp zs r k rows log /\ 1 ≤ n /\ n ≤ rows.length /\
 ∀ (v : V) (H' : Hp), Same H H' -> Tell H' (z1r rows n r) v -> Q v H'
def z7f (Bk : BkP) : Sp := fun vs H Q _ => ∃ (p : Addr) (fp : List Addr) (zs : List Str) (r k : Int) (rows : List Row) (log : List Deed) (i : Nat) (d : Deed), vs = [.ref p, .int ((i : Int) + 1)] /\ Bk H p fp zs r k rows log /\ log[i]? = some d /\
 ∀ v, Tell H (y30 d) v -> Q v H
theorem z8H {CBook COffice : Addr} (M : Bl mg) (T : TxBook K mg CBook) (F : Fun K "latest" "Book.latest" z3r f fd) (GOffice_latest : MCal P w K mg base 1 COffice "latest" z2w (z6t (OfD K COffice))) : FnOk P w K mg base CX0 2 f fd z3l (z6w (BkD K CBook COffice)) := by
 have nd := z4w.nd
 refine F.ok z4w (fun vs H Q E h => ?_) (fun cdv A outer s H vs Q E hr h => ?_)
 ·obtain ⟨p, fp, zs, r, k, rows, log, rfl, _⟩ := h
  rfl
 obtain ⟨p, fp, zs, r, k, rows, log, rfl, ⟨dx, po, pd, fs, fo, us, rfl, B⟩, q⟩ := h
 refine ⟨_, (z06 (z0o (z2R GOffice_latest (rm hr) (z0s (pv 0) rfl)))), ?_⟩
 obtain ⟨dxo, pno, plo, fso, xso, efo, h1, h2, h3, h4, l1, l2, l3, lmo, _⟩ := id B.of
 exact ⟨_, rfl, p, CBook, dx, fs, _, rfl, B.hp, T.cl, T.n_office, B.lo, po, dxo, fso, rfl, h1, lmo _ (by simp), po, fo, zs, r, rows, rfl, B.of, q⟩
theorem z6q {CBook COffice : Addr} (M : Bl mg) (T : TxBook K mg CBook) (F : Fun K "issue" "Book.issue" z2W f fd) (GOffice_issue : MCal P w K mg base 1 COffice "issue" z0K (z1D (OfD K COffice))) : FnOk P w K mg base CX0 2 f fd z2Y (z5W (BkD K CBook COffice)) := by
 have nd := z2o.nd
 refine F.ok z2o (fun vs H Q E h => ?_) (fun cdv A outer s H vs Q E hr h => ?_)
 ·obtain ⟨p, fp, zs, r, k, rows, log, n, rfl, _⟩ := h
  rfl
 obtain ⟨p, fp, zs, r, k, rows, log, n, rfl, ⟨dx, po, pd, fs, fo, us, rfl, B⟩, n1, n2, q⟩ := h
 refine ⟨_, (z06 (z0o (z1x GOffice_issue (rm hr) (z0s (pv 0) rfl) (z00 (pv 1) z01)))), ?_⟩
 obtain ⟨dxo, pno, plo, fso, xso, efo, h1, h2, h3, h4, l1, l2, l3, lmo, _⟩ := id B.of
 exact ⟨_, rfl, p, CBook, dx, fs, _, rfl, B.hp, T.cl, T.n_office, B.lo, po, dxo, fso, rfl, h1, lmo _ (by simp), _, rfl, po, fo, zs, r, rows, n, rfl, B.of, n1, n2, q⟩
theorem z7C {CBook COffice : Addr} (M : Bl mg) (T : TxBook K mg CBook) (F : Fun K "deed" "Book.deed" z3F f fd) : FnOk P w K mg base CX0 1 f fd z3D (z7f (BkD K CBook COffice)) := by
 have nd := z2X.nd
 refine F.ok z2X (fun vs H Q E h => ?_) (fun cdv A outer s H vs Q E hr h => ?_)
 ·obtain ⟨p, fp, zs, r, k, rows, log, i, d, rfl, _⟩ := h
  rfl
 obtain ⟨p, fp, zs, r, k, rows, log, i, d, rfl, ⟨dx, po, pd, fs, fo, us, rfl, B⟩, ed, q⟩ := h
 refine ⟨_, (z04 (z0G (PW.pt (z2L (z0a z3I (pv 1) z05 (z0g _)) (z1F (z0a z2f (pv 1) (z08 z07 rfl M.len PySem.boot_len (z00 (z0s (pv 0) rfl) z01)) (z0g _))))) (z06 z1b) z0h) (z06 (z0o (z14 z0z (z0s (pv 0) rfl) (z0c z2J (pv 1) z05) (fun _ _ => rfl))))), ?_⟩
 have lu := z0Y B.ds
 have hi := (List.getElem?_eq_some_iff.mp ed).1
 obtain ⟨u, eu, du⟩ := z7J B.ds i d ed
 have av : atI us ((i : Int) + 1 - 1) = some u := by
  rw [Int.add_sub_cancel]
  exact z1E eu
 refine ⟨_, rfl, _, _, rfl, rfl, _, rfl, ite2 (fun q => absurd (z11 q) (by omega)) fun _ => ?_⟩
 refine ⟨_, rfl, _, rfl, p, CBook, dx, fs, _, rfl, B.hp, T.cl, T.n_done, B.ld, pd, us, rfl, .inl (SqL.of B.hd), _, _, rfl, rfl, _, rfl, ite2 (fun q => absurd (z11 q) (by omega)) fun _ => ?_⟩
 exact ⟨_, rfl, p, CBook, dx, fs, _, rfl, B.hp, T.cl, T.n_done, B.ld, _, rfl, _, _, rfl, rfl, pd, us, _, u, rfl, rfl, SqL.of B.hd, av, q u (z84 du)⟩
theorem y0X {xs : List V} {k : Nat} (h : k ≤ xs.length) : cutV xs none (some (k : Int)) = xs.take k := by
 unfold cutV
 have e1 : HT.sIx xs.length 0 none = 0 := rfl
 have e2 : HT.sIx xs.length xs.length (some (k : Int)) = k := by
  rw [HT.y0d, Nat.min_eq_left h]
 rw [e1, e2, List.drop_zero, Nat.sub_zero]
theorem z90 {H : Hp} : ∀ {us : List V} {log : List Deed}, Paired (z1p H) us log -> ∀ (c i : Nat) (u : V), (us.take c)[i]? = some u -> ∃ d, (log.take c)[i]? = some d /\ z1p H u d := by
 intro us log h
 induction h with
 | nil => intro c i u e; rw [List.take_nil] at e; simp at e
 | cons h t ih =>
  intro c i u e
  cases c with
  | zero => simp at e
  | succ c =>
   rw [List.take_succ_cons] at e ⊢
   cases i with
   | zero =>
    simp at e
    subst e
    exact ⟨_, rfl, h⟩
   | succ i =>
    obtain ⟨d, q1, q2⟩ := ih c i u (by simpa using e)
    exact ⟨d, by simpa using q1, q2⟩
theorem y23 (d : Deed) (rd : Int) : z2H ((z1z d).take 2) [.str "deliver", .int rd] = decide (d.1 = some rd) := by
 obtain ⟨a, m⟩ := d
 cases a with
 | none =>
  rw [decide_eq_false (fun e => by cases e)]
  rfl
 | some r =>
  show (eqV (.str "deliver") (.str "deliver") && (eqV (.int r) (.int rd) && true)) = _
  rw [z7p rfl, Bool.true_and, Bool.and_true, Bool.eq_iff_iff, decide_eq_true_eq]
  show (r == rd) = true ↔ _
  rw [beq_iff_eq]
  exact ⟨fun h => by rw [h], fun h => Option.some.inj h⟩
theorem z6s {CBook COffice CShelf T0 : Addr} {items : Array Value} (M : Bl mg) (T : TxBook K mg CBook) (TO : TxOffice K mg COffice) (F : FunD K "shelf" "Book.shelf" z3W f fd T0 items) (GOffice_issue : MCal P w K mg base 1 COffice "issue" z0K (z1D (OfD K COffice)))
  (GBook_refuse_unknown_reader : MCal P w K mg base 1 CBook "refuse_unknown_reader" z0l (z1N (BkD K CBook COffice))) (GShelf : Mkr P w K mg base 3 CShelf "Shelf" z2d (z9j K CShelf (ShD K CShelf)))
  (GShelf_put : MCal P w K mg base 1 CShelf "put" z4N (y4A (ShD K CShelf))) : FnOk P w K mg base CX0 6 f fd z2g (z4r (BkD K CBook COffice) (ShD K CShelf)) := by
 have nd := z4T.nd
 refine F.ok z4T (fun vs H Q E h => ?_) (fun cdv A outer s H vs Q E hr h => ?_)
 ·obtain ⟨p, fp, zs, r, k, rows, log, rd, o, rfl, _⟩ := h
  rfl
 obtain ⟨p, fp, zs, r, k, rows, log, rd, o, rfl, bk, r1, r2, od, q⟩ := h
 refine ⟨_, (z04 (z0n (i := 3) nd rfl (Or.inl rfl) (z6U (y1a (y1r (pv 2))) (z08 z07 rfl M.len PySem.boot_len (z00 (z0s (pv 0) rfl) z01)) (pv 2))) (z04 (z0G (PW.pt (z2L (z0a z3I (pv 3) z05 (z0g _)) (z1F (z0a z2f (pv 3) (z08 z07 rfl M.len PySem.boot_len (z00 (z0s (pv 0) rfl) z01)) (z0g _))))) (z06 z1b) z0h) (z04 (z0p (z1x GBook_refuse_unknown_reader (rm hr) (pv 0) (z00 (pv 1) z01))) (z04 (z0n (i := 4) nd rfl (Or.inl rfl) (y1d GShelf (rm hr) rfl (z00 (z0s (z0s (pv 0) rfl) rfl) (z00 (z0s (z0s (pv 0) rfl) rfl) z01)))) (z04 (z2E PassesOwn.never rfl (z21 (z2m z8s (z0s (pv 0) rfl) z3m (z3u (pv 3)))) (z0u (i := 5) nd rfl (Or.inl rfl)) (z06 (z0G (z0a (y4z hr.units0) (z2m y38 (pv 5) z3m (z3u z05)) (z1o (z00 (z2F rfl M.DELIVER) (z00 (pv 1) z01))) (z0g _)) (z06 (z0p (z1x GShelf_put (rm hr) (pv 4) (z00 (z1x GOffice_issue (rm hr) (z0s (pv 0) rfl) (z00 (z14 z3b (pv 5) z05 (fun _ _ => rfl)) z01)) z01)))) z0h))) (z06 (z0o (pv 4)))))))), ?_⟩
 obtain ⟨dx, po, pd, fs, fo, us, rfl, B⟩ := id bk
 obtain ⟨dxo, pno, plo, fso, xso, efo, h1, h2, h3, h4, l1, l2, l3, lmo, _, _, _, g, r0, r10⟩ := id B.of
 have lu := z0Y B.ds
 have cle : o.getD log.length ≤ log.length := by
  cases o with
  | none => exact Nat.le_refl _
  | some d => exact od d rfl
 have beh : ∀ (Qk : VK), Qk (.int (o.getD log.length : Nat)) H -> tIf (tB (tIsN (tVar 2))) (tCB (fun xs H_1 Q => ∃ p ys, xs = [V.ref p] /\ (SqL K H_1 p ys \/ SqT K H_1 p ys) /\ Q (V.int ys.length) H_1) (y3L (tFld K (tVar 0) "done") tNil)) (tVar 2) (z4l ["self", "reader", "deed", "behind", "told", "past"] [.ref p, .int rd, dedV o]) H Qk := fun Qk hq => by
  cases o with
  | none =>
   refine ⟨_, rfl, _, rfl, iteT ⟨_, rfl, p, CBook, dx, fs, _, rfl, B.hp, T.cl, T.n_done, B.ld, pd, us, rfl, .inl (SqL.of B.hd), ?_⟩⟩
   rw [lu]
   exact hq
  | some d => exact ⟨_, rfl, _, rfl, iteF ⟨_, rfl, hq⟩⟩
 refine beh _ ?_
 generalize o.getD log.length = c at cle q
 clear beh
 refine ⟨_, rfl, _, _, rfl, rfl, _, rfl, ite2 (fun q => absurd (z11 q) (by omega)) fun _ => ⟨_, rfl, _, rfl, p, CBook, dx, fs, _, rfl, B.hp, T.cl, T.n_done, B.ld, pd, us, rfl, .inl (SqL.of B.hd), _, _, rfl, rfl, _, rfl, ite2 (fun q => absurd (z11 q) (by omega)) fun _ => ?_⟩⟩
 refine ⟨_, rfl, p, dx, fs, rfl, B.hp, B.lm _ (by simp), _, rfl, p, _, zs, r, k, rows, log, rd, rfl, bk, r1, r2, ?_⟩
 refine ⟨_, rfl, p, CBook, dx, fs, _, rfl, B.hp, T.cl, T.n_office, B.lo, po, COffice, dxo, fso, _, rfl, h1, TO.cl, TO.n_names, l1, _, rfl, p, CBook, dx, fs, _, rfl, B.hp, T.cl, T.n_office, B.lo, po, COffice, dxo, fso, _, rfl, h1, TO.cl, TO.n_reach, l2, fun x dxs nx ndx ne => ?_⟩
 have m1 := z5r (C := CShelf) (Same.refl H) nx ndx
 refine ⟨x, dxs, pno, zs, r, rfl, z03, ne, by rw [z0b ne, z03], .inr (m1 _ _ h3), g, r0, r10, fun fq H1 ff sb sh => ⟨rfl, ?_⟩⟩
 have s1 : Same H H1 := z5v sb m1 nx
 have f1 : ∀ b ∈ fq, H b = none := fun b hb => z4O m1 nx ndx (ff b hb)
 have sh1 : ShD K CShelf H1 x fq zs r (fun n => z1r rows n r) [] := sh _
 refine ⟨_, rfl, p, CBook, dx, fs, _, rfl, s1 _ _ B.hp, T.cl, T.n_done, B.ld, _, rfl, _, rfl, pd, _, rfl, SqL.of (s1 _ _ B.hd), fun lq hlq => ?_⟩
 rw [y0X (by omega)]
 have s2 := s1.trans (z02 hlq (.lst (us.take c)))
 have e2 : upd H1 lq (.lst (us.take c)) lq = some (.lst (us.take c)) := z03
 have sh2 := shOk.same sh1 (z02 hlq (.lst (us.take c)))
 have f2 : lq ∉ fq := fun m => by
  obtain ⟨o, e, _⟩ := shOk.own sh1 lq m
  rw [hlq] at e
  cases e
 generalize upd H1 lq (.lst (us.take c)) = H2 at s2 e2 sh2
 have nt2 : z36 H2 fq := shOk.noTup sh2
 have out : ∀ {b : Addr} {o : HO}, H b = some o -> b ∉ fq := fun e m => by rw [f1 _ m] at e; cases e
 have lt : (us.take c).length = c := by rw [List.length_take]; omega
 refine ⟨lq, rfl, ⟨_, SqL.of e2⟩, z3C (K := K) (a := lq) (xs := us.take c) (fun i σ H' => ∃ (fq' : List Addr) (o5 : Option V), z0f fq H2 H' /\ ShD K CShelf H' x fq' zs r (fun n => z1r rows n r) (gotL ((log.take c).take i) rd) /\ (∀ b ∈ fq', b ∈ fq \/ H2 b = none) /\
   σ = [some (.ref p), some (.int rd), some (dedV o), some (.int c), some (.ref x), o5]) ⟨fq, none, .of (Same.refl _), sh2, fun b m => .inl m, rfl⟩ (fun i σ H' _ ⟨_, _, bt, _⟩ => SqL.of (bt _ _ e2 f2)) ?_ ?_⟩
 ·rintro i u σ H' hi ⟨fq', o5, bt, shx, ffx, rfl⟩
  obtain ⟨d, ed, b, rfl, hb⟩ := z90 B.ds c i u hi
  have sk : ∀ {b : Addr} {o : HO}, H b = some o -> H' b = some o := fun e => bt _ _ (s2 _ _ e) (out e)
  have hin := B.in1 d (List.mem_of_mem_take (List.mem_of_getElem? ed))
  have l2d : 2 ≤ (z1z d).length := by
   obtain ⟨a, m⟩ := d
   cases a
   ·show 2 ≤ 2; decide
   ·show 2 ≤ 3; decide
  have cut : ∀ (Qk : VK), (∀ (t1 : Addr) (G : Hp), Same H' G -> G t1 = some (.tup ((z1z d).take 2)) -> Qk (.ref t1) G) -> rSlA K (.ref b) none (some 2) H' Qk := fun Qk hq => by
   refine ⟨b, _, rfl, SqT.of (sk hb), fun hw => hq b H' (Same.refl _) ?_, fun _ t1 ht1 => hq t1 _ (z02 ht1 _) ?_⟩
   ·rw [sk hb, List.take_of_length_le]
    have := hw.2
    have e : HT.sIx (z1z d).length (z1z d).length (some (2 : Int)) = min 2 (z1z d).length := HT.y0d _ _ 2
    omega
   ·rw [z03]
    exact congrArg (fun z => some (HO.tup z)) (y0X (k := 2) l2d)
  refine ⟨_, rfl, _, rfl, cut _ fun t1 G sG e1' => ⟨_, rfl, (by show 2 ≤ sizeLine; decide), fun t2 ht2 => ?_⟩⟩
  have s3 := sG.trans (z02 ht2 (.tup [V.str "deliver", V.int rd]))
  have e3 : upd G t2 (.tup [V.str "deliver", V.int rd]) t1 = some (.tup ((z1z d).take 2)) := z02 ht2 _ _ _ e1'
  have e4 : upd G t2 (.tup [V.str "deliver", V.int rd]) t2 = some (.tup [V.str "deliver", V.int rd]) := z03
  generalize upd G t2 (.tup [V.str "deliver", V.int rd]) = H3 at s3 e3 e4
  have fl : ((z1z d).take 2).all z1j = true := by
   obtain ⟨a, m⟩ := d
   cases a <;> rfl
  refine ⟨t1, t2, _, _, rfl, rfl, SqT.of e3, SqT.of e4, fl, rfl, _, rfl, ?_⟩
  rw [y23, z0X ed, z8a]
  have sh3 := shOk.same shx s3
  refine ite2 (fun cc => ?_) (fun cc => ?_)
  ·have c' := z11 cc
   rw [if_pos c']
   obtain ⟨a, n⟩ := d
   have ea : a = some rd := c'
   subst ea
   obtain ⟨d1, g1, z1, w1⟩ := shOk.ins sh3
   refine ⟨_, rfl, x, d1, g1, rfl, z1, w1 _ (by simp), _, rfl, p, CBook, dx, fs, _, rfl, s3 _ _ (sk B.hp), T.cl, T.n_office, B.lo, po, dxo, fso, rfl, s3 _ _ (sk h1), lmo _ (by simp), _, rfl, b, _, 2, _, rfl, rfl, SqT.of (s3 _ _ (sk hb)), rfl, po, fo, zs, r, rows, n, rfl, ?_, hin.1, hin.2, fun v H4 s4 tv => ?_⟩
   ·exact ofOk.same (ofOk.keep (ofOk.same B.of s2) bt (fun b m z => by
     obtain ⟨o, e, _⟩ := ofOk.own B.of b z
     exact out e m) nt2) s3
   have n60 : rows.length ≤ 60 := by
    obtain ⟨_, _, _, _, _, _, _, _, _, _, _, _, _, _, _, n60, _⟩ := B.of
    exact n60
   refine ⟨x, v, fq', zs, r, _, _, n, _, rfl, shOk.same sh3 s4, tv, rfl, hin.1, by have := hin.2; have : n ≤ rows.length := this; omega, fun fq2 H5 ff5 sb5 sh5 => ?_⟩
   have g4 := s3.trans s4
   exact ⟨fq2, _, (fun b o e nb => sb5 b o (g4 _ _ (bt b o e nb)) fun m => (ffx b m).elim nb fun z => by rw [e] at z; cases z), sh5, y17 bt ffx g4 ff5, rfl⟩
  ·have c' := z6p cc
   rw [if_neg c']
   exact ⟨fq', _, fun b o e nb => s3 _ _ (bt b o e nb), sh3, ffx, rfl⟩
 ·rintro σ H' ⟨fq', o5, bt, shx, ffx, rfl⟩
  rw [lt, List.take_take, Nat.min_self] at shx
  exact ⟨_, rfl, q x fq' H' (fun b m => (ffx b m).elim (f1 b) fun z => s2.free z) (fun b o e => bt _ _ (s2 _ _ e) (out e)) shx⟩
theorem y2g {H H' : Hp} {l t : Addr} {us : List V} {log : List Deed} (d : Deed) (s : Same H H') (nl : H l = none) (el : H' l = some (.lst us)) (pr : Paired (z1p H') us log) (ht : H' t = none) :
  Same H (upd (upd H' t (.tup (z1z d))) l (.lst (us ++ [.ref t]))) /\ upd (upd H' t (.tup (z1z d))) l (.lst (us ++ [.ref t])) l = some (.lst (us ++ [.ref t])) /\ Paired (z1p (upd (upd H' t (.tup (z1z d))) l (.lst (us ++ [.ref t])))) (us ++ [.ref t]) (log ++ [d]) := by
 have s1 := z02 ht (.tup (z1z d))
 have e1 := s1 _ _ el
 have k1 : ∀ {b : Addr} {xs : List V}, upd H' t (.tup (z1z d)) b = some (.tup xs) -> upd (upd H' t (.tup (z1z d))) l (.lst (us ++ [.ref t])) b = some (.tup xs) := fun q => by
  rw [z0b (z4A q e1 (fun z => by cases z))]
  exact q
 refine ⟨z4m (s.trans s1) nl, z03, Paired.snoc (L2.Paired.mapP pr fun u d' ⟨b, e, q⟩ => ⟨b, e, k1 (s1 _ _ q)⟩) ⟨t, rfl, k1 z03⟩⟩
theorem DeedsAt.keep {H H' : Hp} {us : List V} {log : List Deed} (s : Same H H') (h : Paired (z1p H) us log) : Paired (z1p H') us log :=
 L2.Paired.mapP h fun u d ⟨b, e, q⟩ => ⟨b, e, s _ _ q⟩
def HT (H : Hp) (u : V) (p : Str × Int) : Prop := ∃ b, u = .ref b /\ H b = some (.tup [.str p.1, .int p.2])
theorem z6n (rd : Int) : ∀ log : List Deed, (gotL log rd).Nodup := by
 intro log
 have go : ∀ (log : List Deed) (acc : List Int), acc.Nodup -> (log.foldl (fun acc d => if d.1 = some rd then addN acc d.2 else acc) acc).Nodup := by
  intro log
  induction log with
  | nil => intro acc h; exact h
  | cons d log ih =>
   intro acc h
   rw [List.foldl_cons]
   refine ih _ ?_
   split
   ·unfold addN
    split
    ·exact h
    ·rename_i hn
     exact List.nodup_append.mpr ⟨h, by simp, fun a ha b hb e => hn (by rw [<- List.mem_singleton.mp hb, <- e]; exact ha)⟩
   ·exact h
 exact go log [] .nil
def y0D (K : PySem.W.Frag) : Sp := fun vs H Q _ => ∃ (l : Addr) (us : List V) (log : List Deed) (rd : Int) (d : Nat), vs = [.ref l, .int rd, .int d] /\ H l = some (.lst us) /\ Paired (z1p H) us log /\ d ≤ log.length /\ (∀ x ∈ log, 1 ≤ x.2 /\ x.2 ≤ 60) /\
 ∀ (lo : Addr) (H' : Hp), H lo = none -> Same H H' -> H' lo = some (.lst ((z2V (gotL (log.take d) rd)).map V.int)) -> Q (.ref lo) H'
theorem y0e (M : Bl mg) (F : Fun K "_law_had_at" "_law_had_at" z3k f fd) : FnOk P w K mg base CX0 1 f fd z3o (y0D K) := by
 have nd := z4g.nd
 refine F.ok z4g (fun vs H Q E h => ?_) (fun cdv A outer s H vs Q E hr h => ?_)
 ·obtain ⟨l, us, log, rd, d, rfl, _⟩ := h
  rfl
 obtain ⟨l, us, log, rd, d, rfl, el, pr, dl, hin, q⟩ := h
 refine ⟨_, (z04 (z0n (i := 3) nd rfl (Or.inl rfl) (z0R z01)) (z04 (z2E PassesOwn.never rfl (z21 (z2m z8s (pv 0) z3m (z3u (pv 2)))) (z0u (i := 4) nd rfl (Or.inl rfl)) (z06 (z0G (PW.pt (z6G (z0a z3Z (z14 z3b (pv 4) z05 (fun _ _ => rfl)) z0r (z0g _)) (z6G (z0a z3Z (z14 z3b (pv 4) z05 (fun _ _ => rfl)) (pv 1) (z0g _)) (z7b (z0a z2n (z14 z3b (pv 4) z05 (fun _ _ => rfl)) (pv 3) (by with_unfolding_all rfl)))))) (z06 (z0p (z2l PySem.F.plainAttrs_list PySem.F.slot_list_append PySem.F.type_list_append z0I (pv 3) (z00 (z14 z3b (pv 4) z05 (fun _ _ => rfl)) z01)))) z0h))) (z06 (z0o (z08 z8y rfl M.sorted PyProof.Rows.boot_sorted (z00 (pv 3) z01)))))), ?_⟩
 have lu := z0Y pr
 refine ⟨(by show 0 ≤ sizeLine; decide), fun lh hlh => ?_⟩
 have s1 := z02 hlh (.lst [])
 have e1 : upd H lh (.lst []) lh = some (.lst []) := z03
 generalize upd H lh (.lst []) = H1 at s1 e1
 refine ⟨_, rfl, _, rfl, _, rfl, l, _, rfl, SqL.of (s1 _ _ el), fun lq hlq => ?_⟩
 rw [y0X (by omega)]
 have s2 := s1.trans (z02 hlq (.lst (us.take d)))
 have e2 : upd H1 lq (.lst (us.take d)) lq = some (.lst (us.take d)) := z03
 have e3 := z02 hlq (.lst (us.take d)) _ _ e1
 have nq : lh ≠ lq := z0j e1 hlq
 generalize upd H1 lq (.lst (us.take d)) = H2 at s2 e2 e3
 have lt : (us.take d).length = d := by rw [List.length_take]; omega
 have all60 : ∀ (lg : List Deed), (∀ x ∈ lg, x ∈ log) -> ∀ n ∈ gotL lg rd, 1 ≤ n /\ n ≤ 60 := fun lg sub n hn => hin _ (sub _ (y1F.mp hn))
 refine ⟨lq, rfl, ⟨_, SqL.of e2⟩, z3C (K := K) (a := lq) (xs := us.take d) (fun i σ G => ∃ o4 : Option V, z0f [lh] H2 G /\ G lh = some (.lst ((gotL ((log.take d).take i) rd).map V.int)) /\ σ = [some (.ref l), some (.int rd), some (.int d), some (.ref lh), o4]) ⟨none, .of (Same.refl _), e3, rfl⟩ (fun i σ G _ ⟨_, bt, _⟩ => SqL.of (bt _ _ e2 (by rw [List.mem_singleton]; exact Ne.symm nq))) ?_ ?_⟩
 ·rintro i u σ G hi ⟨o4, bt, eh, rfl⟩
  obtain ⟨x, ex, b, rfl, hb⟩ := z90 pr d i u hi
  have nb : b ∉ [lh] := fun m => by
   rw [List.mem_singleton.mp m, hlh] at hb
   cases hb
  have hb' := bt _ _ (s2 _ _ hb) nb
  have g60 := all60 ((log.take d).take i) fun x hx => List.mem_of_mem_take (List.mem_of_mem_take hx)
  have gl := z73 (z6n rd ((log.take d).take i)) g60
  have eg : gotL ((log.take d).take (i + 1)) rd = if x.1 = some rd then addN (gotL ((log.take d).take i) rd) x.2 else gotL ((log.take d).take i) rd := by rw [z0X ex, z8a]
  obtain ⟨a, n⟩ := x
  cases a with
  | none =>
   have hbd : G b = some (.tup [V.str "write", V.int n]) := hb'
   rw [if_neg (fun e => by cases e)] at eg
   refine ⟨_, rfl, b, _, 0, _, rfl, rfl, SqT.of hbd, rfl, rfl, _, rfl, iteF ?_⟩
   exact iteF ⟨_, bt, by rw [eg]; exact eh, rfl⟩
  | some rd' =>
   have hbd : G b = some (.tup [V.str "deliver", V.int rd', V.int n]) := hb'
   refine ⟨_, rfl, b, _, 0, _, rfl, rfl, SqT.of hbd, rfl, rfl, _, rfl, iteT ?_⟩
   refine ⟨_, rfl, b, _, 1, _, rfl, rfl, SqT.of hbd, rfl, _, rfl, rfl, _, rfl, ?_⟩
   by_cases c : rd' = rd
   ·rw [if_pos (show (some rd', n).1 = some rd by rw [c])] at eg
    rw [decide_eq_true (congrArg V.int c)]
    refine iteT ⟨_, rfl, b, _, 2, _, rfl, rfl, SqT.of hbd, rfl, _, rfl, lh, _, rfl, .inl (SqL.of eh), rfl, y1w _, _, rfl, ?_⟩
    rw [if_pos rfl, y1E]
    unfold addN at eg
    by_cases c2 : n ∈ gotL ((log.take d).take i) rd
    ·rw [if_pos c2] at eg
     rw [decide_eq_true c2]
     exact iteF ⟨_, bt, by rw [eg]; exact eh, rfl⟩
    ·rw [if_neg c2] at eg
     rw [decide_eq_false c2]
     refine iteT ⟨_, rfl, .inl ⟨rfl, _, SqL.of eh⟩, _, rfl, b, _, 2, _, rfl, rfl, SqT.of hbd, rfl, lh, _, _, rfl, rfl, eh, z0k (by rw [List.length_map]; omega), ?_⟩
     refine ⟨_, fun b o e nb => ?_, by rw [z03, eg, List.map_append]; rfl, rfl⟩
     rw [z0b (fun e => nb (by rw [e]; exact List.mem_singleton.mpr rfl))]
     exact bt b o e nb
   ·rw [if_neg (fun e => c (Option.some.inj e))] at eg
    rw [decide_eq_false (fun e => c (V.int.inj e))]
    exact iteF (iteF ⟨_, bt, by rw [eg]; exact eh, rfl⟩)
 ·rintro σ G ⟨o4, bt, eh, rfl⟩
  rw [lt, List.take_take, Nat.min_self] at eh
  have g60 := all60 (log.take d) fun x hx => List.mem_of_mem_take hx
  have gnd := z6n rd (log.take d)
  refine ⟨_, rfl, lh, _, rfl, SqL.of eh, by have := z73 gnd g60; omega, fun lo ms hlo hp hs => ?_⟩
  have em := y1o gnd g60 hp hs
  have nh : ∀ {b : Addr} {o : HO}, H b = some o -> b ∉ [lh] := fun e m => by
   rw [List.mem_singleton.mp m, hlh] at e
   cases e
  have sG : Same H G := fun b o e => bt _ _ (s2 _ _ e) (nh e)
  exact q lo _ (sG.free hlo) (sG.trans (z02 hlo _)) (by rw [z03, em])
theorem z4j (a b : Str) : (a ++ b).length = a.length + b.length := by
 rw [<- z0L, z4H, List.length_append, z0L, z0L]
def y2I (K : PySem.W.Frag) (C : Addr) : Sp := fun vs H _ E => ∃ (p : Addr) (zs : List Str) (z : Str), vs = [.ref p, .str z] /\ SqN K H p zs /\ z ∉ zs /\ z.length ≤ 1000 /\ Low z /\ E (.ref C) none H
theorem y3b {CUnknownName : Addr} (M : Bl mg) (F : Fun K "refuse_unknown_name" "refuse_unknown_name" z15 f fd) (eUnknownName : Err K mg "UnknownName" CUnknownName) : FnOk P w K mg base (CX1 P w) 1 f fd z0F (spOr (y10 K) (y2I K CUnknownName)) := by
 have nd := z0W.nd
 refine (y2N M F).toX.or (F.okX z0W (fun vs H Q E h => ?_) (fun cdv A outer s H vs Q E hr h => ?_))
 ·obtain ⟨p, zs, z, rfl, _⟩ := h
  rfl
 obtain ⟨p, zs, z, rfl, hp, hz, h1000, low, k⟩ := h
 refine ⟨_, (z06 (z0G (z0a z2n (pv 1) (pv 0) (by with_unfolding_all rfl)) (z06 (z2r eUnknownName rfl (z00 (z7s (z2B (y3F (pv 1)) (z2B z0r z9f))) z01))) z0h)), ?_⟩
 refine ⟨_, rfl, _, rfl, p, _, rfl, hp, rfl, z2M zs, _, rfl, ?_⟩
 rw [if_pos rfl, z4d, decide_eq_false hz]
 have hl := z92 low
 have line := sizeLine_eq
 have l0 : Str.empty.length = 0 := rfl
 have l1 : (" is no name of this bulletin" : Str).length = 28 := by decide +kernel
 exact iteT ⟨_, rfl, z, rfl, h1000, low, _, rfl, (by rw [z4j]; omega), _, rfl, (by rw [z4j, z4j]; omega), (by rw [z4j, z4j]; omega), (by show 1 ≤ sizeLine; decide), k⟩
def z7G (C : Addr) : Sp := fun vs H _ E => ∃ v : Int, vs = [.int v] /\ (v < 0 \/ 1000000 < v) /\ E (.ref C) none H
theorem z9K {CBadValue : Addr} (M : Bl mg) (F : Fun K "refuse_bad_value" "refuse_bad_value" z1n f fd) (eBadValue : Err K mg "BadValue" CBadValue) : FnOk P w K mg base (CX1 P w) 1 f fd z0O (spOr z4x (z7G CBadValue)) := by
 have nd := z1a.nd
 refine (z7z M F).toX.or (F.okX z1a (fun vs H Q E h => ?_) (fun cdv A outer s H vs Q E hr h => ?_))
 ·obtain ⟨r, rfl, _⟩ := h
  rfl
 obtain ⟨r, rfl, hr2, k⟩ := h
 refine ⟨_, (z06 (z0G (PW.pt (z2L (z0a z3I (pv 0) z05 (z0g _)) (z1F (z0a z2f (pv 0) (z0U rfl M.MOST_VALUE) (z0g _))))) (z06 (z2r eBadValue rfl (z00 (z7s (z2B z0r (z2B (z8p (z0U rfl M.MOST_VALUE)) z9f))) z01))) z0h)), ?_⟩
 refine ⟨_, rfl, _, _, rfl, rfl, _, rfl, ite2 (fun q => ?_) fun n1 => ?_⟩
 ·exact ⟨_, rfl, (by decide +kernel), _, rfl, by decide, _, rfl, (by decide +kernel), (by decide +kernel), (by show 1 ≤ sizeLine; decide), k⟩
 refine ⟨_, rfl, _, _, rfl, rfl, _, rfl, ite2 (fun q => ?_) fun n2 => ?_⟩
 ·exact ⟨_, rfl, (by decide +kernel), _, rfl, by decide, _, rfl, (by decide +kernel), (by decide +kernel), (by show 1 ≤ sizeLine; decide), k⟩
 ·exfalso
  have e1 : ¬ r < 0 := fun z => n1 (decide_eq_true z)
  have e2 : ¬ (1000000 : Int) < r := fun z => n2 (decide_eq_true z)
  omega
theorem z9e : ∀ r : List Str, (metL r.reverse).length ≤ r.length /\ ((metL r.reverse).length = r.length -> r.Nodup)
 | [] => ⟨Nat.le_refl _, fun _ => List.nodup_nil⟩
 | k :: r => by
  obtain ⟨h1, h2⟩ := z9e r
  rw [List.reverse_cons, z7T]
  split
  ·refine ⟨by rw [List.length_cons]; omega, fun e => ?_⟩
   rw [List.length_cons] at e
   omega
  ·rename_i nm
   rw [List.length_append, List.length_cons]
   refine ⟨Nat.succ_le_succ h1, fun e => List.nodup_cons.mpr ⟨fun hk => nm (z7d.mpr (List.mem_reverse.mpr hk)), h2 (Nat.succ.inj e)⟩⟩
theorem y39 {zs : List Str} (h : (metL zs).length = zs.length) : zs.Nodup := by
 have := (z9e zs.reverse).2
 rw [List.reverse_reverse, List.length_reverse] at this
 exact (List.pairwise_reverse.mp (this h)).imp Ne.symm
def y2P (CU CT CV : Addr) (zs : List Str) (pr : Row) (C : Addr) : Prop := ((∃ p ∈ pr, p.1 ∉ zs) /\ C = CU) \/ ((∀ p ∈ pr, p.1 ∈ zs) /\ ¬ (pr.map Prod.fst).Nodup /\ C = CT) \/ ((∀ p ∈ pr, p.1 ∈ zs) /\ (pr.map Prod.fst).Nodup /\ (∃ p ∈ pr, p.2 < 0 \/ 1000000 < p.2) /\ C = CV)
def z6K (K : PySem.W.Frag) (CU CT CV : Addr) : Sp := fun vs H _ E => ∃ (pn a : Addr) (zs : List Str) (us : List V) (pr : Row) (C : Addr), vs = [.ref pn, .ref a] /\ SqN K H pn zs /\ SqP K H a us /\ Paired (z1i K H) us pr /\ pr.length ≤ 100 /\ (∀ p ∈ pr, p.1.length ≤ 1000 /\ Low p.1) /\ y2P CU CT CV zs pr C /\ ∀ H', Same H H' -> E (.ref C) none H'
theorem z8x {CUnknownName CNameTwice CBadValue : Addr} (M : Bl mg) (F : Fun K "refuse_bad_rows" "refuse_bad_rows" z1u f fd) (eNameTwice : Err K mg "NameTwice" CNameTwice) (Grefuse_unknown_name : Cal P w K mg base 1 "refuse_unknown_name" z0F (y10 K)) (Grefuse_bad_value : Cal P w K mg base 1 "refuse_bad_value" z0O z4x)
  (Grefuse_unknown_nameX : CalX P w K mg base 1 "refuse_unknown_name" z0F (spOr (y10 K) (y2I K CUnknownName))) (Grefuse_bad_valueX : CalX P w K mg base 1 "refuse_bad_value" z0O (spOr z4x (z7G CBadValue))) : FnOk P w K mg base (CX1 P w) 2 f fd z0V (spOr (z3t K) (z6K K CUnknownName CNameTwice CBadValue)) := by
 have nd := z1l.nd
 refine (z6C M F Grefuse_unknown_name Grefuse_bad_value).toX.or (F.okX z1l (fun vs H Q E h => ?_) (fun cdv A outer s H vs Q E hr h => ?_))
 ·obtain ⟨pn, a, zs, us, pr, C, rfl, _⟩ := h
  rfl
 obtain ⟨pn, a, zs, us, pr, C, rfl, hn, ha, hp, l100, hlow, rf, k⟩ := h
 refine ⟨_, (z04 (z4J (i := 2) ["name", "value"] [] [] rfl nd rfl (Or.inl rfl) (z0E rfl (by decide +kernel) rfl (by decide +kernel) rfl rfl) (z7R (pv 1)) (fun _ _ _ _ _ => (z7n (K := K) (n := 2) rfl rfl (z1Q (z0u (i := 0) (show ((["name", "value"] : List PySem.Str) ++ ([] : List PySem.Str)).Nodup from by decide +kernel) rfl (Or.inl rfl)) (z1Q (z0u (i := 1) (show ((["name", "value"] : List PySem.Str) ++ ([] : List PySem.Str)).Nodup from by decide +kernel) rfl (Or.inl rfl)) z5P)))) (y1l (z3A (z0M (by decide)) z0q (z3A (z0M (by decide)) z0q z8i z25) (z1y z0q z25))) (z9t (z1y z0q (z1y z0q z25))) (fun _ _ _ _ _ => z22) (fun _ _ _ _ _ => (pv 0))) (z04 (y07 (z21 (pv 2)) (z0u (i := 3) nd rfl (Or.inl rfl)) (z06 (z0p (z8N z9r Grefuse_unknown_nameX (rm hr) rfl (z00 (pv 0) (z00 (pv 3) z01)))))) (z04 (z0G (z0a z5I (z08 z2Q rfl M.len PySem.boot_len (z00 (z0B (z2D rfl) rfl M.set PyProof.Rows.boot_set (z00 (pv 2) z01)) z01)) (z08 z07 rfl M.len PySem.boot_len (z00 (pv 2) z01)) (z0g _)) (z06 (z2r eNameTwice rfl (z00 z0r z01))) z0h) (z06 (y07 (z7R (pv 1)) (z7n (K := K) (n := 2) rfl rfl (z1Q (z0u (i := 3) nd rfl (Or.inl rfl)) (z1Q (z0u (i := 4) nd rfl (Or.inl rfl)) z5P))) (z06 (z0p (z8N z9r Grefuse_bad_valueX (rm hr) rfl (z00 (pv 4) z01))))))))), ?_⟩
 obtain ⟨t, ht⟩ := SqS.of (SqP.or ha)
 have lu : us.length = pr.length := hp.length
 refine ⟨_, rfl, a, t, rfl, ⟨_, ht⟩, ?_⟩
 refine z7l (xs := us) (fun i ys H' => H' = H /\ ys = ((pr.take i).map Prod.fst).map V.str) ⟨rfl, rfl⟩ (fun i ys H' hi hq => ?_) (fun i x ys H' hx hq => ?_) (fun ys H' hq => ?_)
 ·obtain ⟨rfl, rfl⟩ := hq
  refine ⟨ht, z0k ?_⟩
  rw [List.length_map, List.length_map, List.length_take]
  omega
 ·obtain ⟨rfl, rfl⟩ := hq
  obtain ⟨p, ep, b, rfl, hb⟩ := z1i.at hp i x hx
  refine ⟨b, _, rfl, hb, rfl, _, _, rfl, _, _, rfl, rfl, ?_⟩
  refine ⟨_, rfl, rfl, ?_⟩
  rw [z0X ep, List.map_append, List.map_append]
  rfl
 obtain ⟨rfl, rfl⟩ := hq
 rw [lu, List.take_length]
 intro D hD
 have s1 := z02 hD (.lst ((pr.map Prod.fst).map V.str))
 have e1 : upd H' D (.lst ((pr.map Prod.fst).map V.str)) D = some (.lst ((pr.map Prod.fst).map V.str)) := z03
 generalize upd H' D (.lst ((pr.map Prod.fst).map V.str)) = H1 at s1 e1
 have hn1 := SqN.keep s1 hn
 have ht1 := SqS.keep s1 ht
 have hp1 := z1i.keep s1 hp
 refine ⟨_, rfl, D, rfl, ⟨_, SqL.of e1⟩, z3C (K := K) (a := D) (xs := (pr.map Prod.fst).map V.str) (fun i σ H2 => ∃ o : Option V, H2 = H1 /\ (∀ z ∈ (pr.map Prod.fst).take i, z ∈ zs) /\ σ = [some (.ref pn), some (.ref a), some (.ref D), o, none]) ⟨none, rfl, (fun z hz => by rw [List.take_zero] at hz; cases hz), rfl⟩ (fun i σ H2 _ ⟨_, e, _⟩ => e ▸ SqL.of e1) (fun i x σ H2 hx hq => ?_) (fun σ H2 hq => ?_)⟩
 ·obtain ⟨o, rfl, hin, rfl⟩ := hq
  rw [List.getElem?_map] at hx
  obtain ⟨z, ez, rfl⟩ := Option.map_eq_some_iff.mp hx
  obtain ⟨p, hpm, rfl⟩ := List.mem_map.mp (List.mem_of_getElem? ez)
  by_cases hz : p.1 ∈ zs
  ·refine ⟨_, rfl, _, rfl, .inl ⟨pn, zs, p.1, rfl, hn1, hz, _, rfl, fun y hy => ?_, rfl⟩⟩
   rw [z0X ez] at hy
   rcases List.mem_append.mp hy with hy | hy
   ·exact hin y hy
   ·rw [List.mem_singleton.mp hy]
    exact hz
  ·refine ⟨_, rfl, _, rfl, .inr ⟨pn, zs, p.1, rfl, hn1, hz, (hlow p hpm).1, (hlow p hpm).2, ?_⟩⟩
   rcases rf with ⟨_, rfl⟩ | ⟨h, _⟩ | ⟨h, _⟩
   ·exact k _ s1
   ·exact absurd (h p hpm) hz
   ·exact absurd (h p hpm) hz
 obtain ⟨o, rfl, hin, rfl⟩ := hq
 rw [List.length_map, List.take_length] at hin
 have lf : (pr.map Prod.fst).length = pr.length := List.length_map _
 have rf2 : ((¬ (pr.map Prod.fst).Nodup /\ C = CNameTwice) \/ ((pr.map Prod.fst).Nodup /\ (∃ p ∈ pr, p.2 < 0 \/ 1000000 < p.2) /\ C = CBadValue)) := by
  rcases rf with ⟨⟨p, hp, hz⟩, _⟩ | ⟨_, h, e⟩ | ⟨_, h, h2, e⟩
  ·exact absurd (hin p.1 (List.mem_map.mpr ⟨p, hp, rfl⟩)) hz
  ·exact .inl ⟨h, e⟩
  ·exact .inr ⟨h, h2, e⟩
 refine ⟨_, rfl, D, pr.map Prod.fst, rfl, .inl (SqL.of e1), by omega, fun l hl => ⟨l, pr.map Prod.fst, rfl, z03, by omega, _, rfl, D, _, rfl, .inl (SqL.of (z02 hl _ _ _ e1)), rfl, _, rfl, ?_⟩⟩
 have s2 := s1.trans (z02 hl (SetT P w l (pr.map Prod.fst)))
 rcases rf2 with ⟨hnn, rfl⟩ | ⟨hnd, hbv, rfl⟩
 ·rw [decide_eq_false (fun e => hnn (y39 (by injection e with e; rw [List.length_map (f := V.str)] at e; omega)))]
  exact iteT ⟨(by show 1 ≤ sizeLine; decide), k _ s2⟩
 refine y2i (by rw [z8k hnd, List.length_map (f := V.str)]) ?_
 have ht2 := SqS.keep (z02 hl (SetT P w l (pr.map Prod.fst))) ht1
 have hp2 := z1i.keep (z02 hl (SetT P w l (pr.map Prod.fst))) hp1
 refine ⟨_, rfl, a, t, rfl, ⟨_, ht2⟩, ?_⟩
 refine y16 (xs := us) (fun i σ H3 => ∃ o1 o2 : Option V, H3 = upd H2 l (SetT P w l (pr.map Prod.fst)) /\ (∀ p ∈ pr.take i, 0 ≤ p.2 /\ p.2 ≤ 1000000) /\ σ = [some (.ref pn), some (.ref a), some (.ref D), o1, o2]) ⟨_, _, rfl, (fun p hp => by rw [List.take_zero] at hp; cases hp), rfl⟩ (fun i σ H3 _ ⟨_, _, e, _⟩ => e ▸ ht2) (fun i x σ H3 hx hq => ?_) (fun σ H3 hq => ?_)
 ·obtain ⟨o1, o2, rfl, hok, rfl⟩ := hq
  obtain ⟨p, ep, b, rfl, hb⟩ := z1i.at hp2 i x hx
  refine ⟨b, _, rfl, hb, rfl, _, _, rfl, _, _, rfl, rfl, ?_⟩
  by_cases hv : 0 ≤ p.2 /\ p.2 ≤ 1000000
  ·refine ⟨_, rfl, .inl ⟨p.2, rfl, hv.1, hv.2, _, _, rfl, fun y hy => ?_, rfl⟩⟩
   rw [z0X ep] at hy
   rcases List.mem_append.mp hy with hy | hy
   ·exact hok y hy
   ·rw [List.mem_singleton.mp hy]
    exact hv
  ·exact ⟨_, rfl, .inr ⟨p.2, rfl, by omega, k _ s2⟩⟩
 ·obtain ⟨o1, o2, rfl, hok, rfl⟩ := hq
  rw [lu, List.take_length] at hok
  obtain ⟨p, hp, hb⟩ := hbv
  have := hok p hp
  omega
def RefW (CF CU CT CV : Addr) (zs : List Str) (rows : List Row) (pr : Row) (C : Addr) : Prop := (60 ≤ rows.length /\ C = CF) \/ (rows.length < 60 /\ y2P CU CT CV zs pr C)
def z5j (K : PySem.W.Frag) (Of : OfP) (CF CU CT CV : Addr) : Sp := fun vs H _ E => ∃ (p a : Addr) (fp : List Addr) (zs : List Str) (r : Int) (rows : List Row) (us : List V) (pr : Row) (C : Addr), vs = [.ref p, .ref a] /\ Of H p fp zs r rows /\ SqP K H a us /\ Paired (z1i K H) us pr /\ pr.length ≤ 100 /\ (∀ p ∈ pr, p.1.length ≤ 1000 /\ Low p.1) /\ RefW CF CU CT CV zs rows pr C /\ ∀ H', Same H H' -> E (.ref C) none H'
theorem z8E {COffice COfficeFull CUnknownName CNameTwice CBadValue : Addr} (M : Bl mg) (T : TxOffice K mg COffice) (F : Fun K "refuse_writing" "Office.refuse_writing" z0Q f fd) (eOfficeFull : Err K mg "OfficeFull" COfficeFull) (Grefuse_bad_rows : Cal P w K mg base 2 "refuse_bad_rows" z0V (z3t K))
  (Grefuse_bad_rowsX : CalX P w K mg base 2 "refuse_bad_rows" z0V (spOr (z3t K) (z6K K CUnknownName CNameTwice CBadValue))) : FnOk P w K mg base (CX1 P w) 3 f fd z0m (spOr (z1W K (OfD K COffice)) (z5j K (OfD K COffice) COfficeFull CUnknownName CNameTwice CBadValue)) := by
 have nd := z0N.nd
 refine (z6j M T F Grefuse_bad_rows).toX.or (F.okX z0N (fun vs H Q E h => ?_) (fun cdv A outer s H vs Q E hr h => ?_))
 ·obtain ⟨p, a, fp, zs, r, rows, us, pr, C, rfl, _⟩ := h
  rfl
 obtain ⟨p, a, fp, zs, r, rows, us, pr, C, rfl, of, ha, hp, l100, hlow, rf, k⟩ := h
 refine ⟨_, (z04 (z0G (z0a z8q (z08 z07 rfl M.len PySem.boot_len (z00 (z0s (pv 0) rfl) z01)) (z0U rfl M.MOST_NUMBERS) (z0g _)) (z06 (z2r eOfficeFull rfl (z00 (z7s (z2B z0r (z2B (z8p (z0U rfl M.MOST_NUMBERS)) (z2B z0r z9f)))) z01))) z0h) (z06 (z0p (z8N z2q Grefuse_bad_rowsX (rm hr) rfl (z00 (z0s (pv 0) rfl) (z00 (pv 1) z01)))))), ?_⟩
 obtain ⟨dx, pn, pl, fs, xs, rfl, h1, h2, h3, h4, l1, l2, l3, lm, tl, r60, w12, g, r0, r1⟩ := of
 have lx : xs.length = rows.length := by rw [tl.length, List.length_map, z0P]
 refine ⟨_, rfl, p, COffice, dx, fs, _, rfl, h1, T.cl, T.n_written, l3, pl, xs, rfl, .inl (SqL.of h4), _, _, rfl, rfl, _, rfl, ?_⟩
 rcases rf with ⟨h60, rfl⟩ | ⟨h60, rf⟩
 ·rw [decide_eq_true (by omega)]
  exact iteT ⟨_, rfl, (by decide +kernel), _, rfl, by decide, _, rfl, (by decide +kernel), _, rfl, (by decide +kernel), (by decide +kernel), (by show 1 ≤ sizeLine; decide), k H (Same.refl _)⟩
 ·rw [decide_eq_false (by omega)]
  exact iteF ⟨_, rfl, p, COffice, dx, fs, _, rfl, h1, T.cl, T.n_names, l1, _, rfl, .inr ⟨pn, a, zs, us, pr, C, rfl, .inr (SqT.of h3), ha, hp, l100, hlow, rf, k⟩⟩
theorem z8R {COffice COfficeFull CUnknownName CNameTwice CBadValue : Addr} (M : Bl mg) (T : TxOffice K mg COffice) (F : Fun K "write" "Office.write" z28 f fd) (GOffice_refuse_writing : MCal P w K mg base 3 COffice "refuse_writing" z0m (z1W K (OfD K COffice)))
  (Gnames_of_rows : Cal P w K mg base 1 "names_of_rows" z1T z8I) (Grows_in_order : Cal P w K mg base 1 "rows_in_order" z1S (z60 K)) (Gtail_for : Cal P w K mg base 2 "tail_for" z4a (y0K K))
  (GOffice_refuse_writingX : MCalX P w K mg base 3 COffice "refuse_writing" z0m (spOr (z1W K (OfD K COffice)) (z5j K (OfD K COffice) COfficeFull CUnknownName CNameTwice CBadValue))) :
  FnOk P w K mg base (CX1 P w) 4 f fd z1B (spOr (z48 K (OfD K COffice)) (z5j K (OfD K COffice) COfficeFull CUnknownName CNameTwice CBadValue)) := by
 have nd := z1R.nd
 refine (z6B M T F GOffice_refuse_writing Gnames_of_rows Grows_in_order Gtail_for).toX.or (F.okX z1R (fun vs H Q E h => ?_) (fun cdv A outer s H vs Q E hr h => ?_))
 ·obtain ⟨p, a, fp, zs, r, rows, us, pr, C, rfl, _⟩ := h
  rfl
 obtain ⟨p, a, fp, zs, r, rows, us, pr, C, rfl, of, ha, hp, l100, hlow, rf, k⟩ := h
 refine ⟨_, (z04 (z0p (z2Z z2q GOffice_refuse_writingX (rm hr) (pv 0) (z00 (pv 1) z01))) (z04 (z0n (i := 2) nd rfl (Or.inl rfl) (z0c z13 (z08 z07 rfl M.len PySem.boot_len (z00 (z0s (pv 0) rfl) z01)) z05)) (z04 (z4J (i := 3) ["issue"] [] [] rfl nd rfl (Or.inl rfl) (z0E rfl (by decide +kernel) rfl (by decide +kernel) rfl rfl) (z21 (z0s (pv 0) rfl)) (fun _ _ _ _ _ => (z0u (i := 0) (show ((["issue"] : List PySem.Str) ++ ([] : List PySem.Str)).Nodup from by decide +kernel) rfl (Or.inl rfl))) (z0M (by decide)) z0q (fun _ _ _ _ _ => z22) (fun _ _ _ _ _ => (z0t Gnames_of_rows (rm hr) rfl (z00 (z14 (r := rIxT K) z3b (pv 0) z05 (fun _ _ => rfl)) z01)))) (z04 (z0p (z2l PySem.F.plainAttrs_list PySem.F.slot_list_append PySem.F.type_list_append z0I (z0s (pv 0) rfl) (z00 (z1o (z00 (pv 2) (z00 (z0t Grows_in_order (rm hr) rfl (z00 (z0s (pv 0) rfl) (z00 (pv 1) z01))) (z00 (z0t Gtail_for (rm hr) rfl (z00 (pv 3) (z00 (z0s (pv 0) rfl) z01))) z01)))) z01))) (z06 (z0o (pv 2))))))), ?_⟩
 obtain ⟨dx, pn, pl, fs, xs, rfl, h1, h2, h3, h4, l1, l2, l3, lm, _⟩ := id of
 exact ⟨_, rfl, p, dx, fs, rfl, h1, lm _ (by simp), _, rfl, .inr ⟨p, a, _, zs, r, rows, us, pr, C, rfl, of, ha, hp, l100, hlow, rf, k⟩⟩
def z6Z (Of : OfP) (CN : Addr) : Sp := fun vs H _ E => ∃ (p : Addr) (fp : List Addr) (zs : List Str) (r : Int) (rows : List Row) (n : Int), vs = [.ref p, .int n] /\ Of H p fp zs r rows /\ (n < 1 \/ (rows.length : Int) < n) /\ E (.ref CN) none H
theorem z8A {COffice CNotWritten : Addr} (M : Bl mg) (T : TxOffice K mg COffice) (F : Fun K "issue" "Office.issue" z27 f fd) (eNotWritten : Err K mg "NotWritten" CNotWritten) : FnOk P w K mg base (CX1 P w) 1 f fd z0K (spOr (z1D (OfD K COffice)) (z6Z (OfD K COffice) CNotWritten)) := by
 have nd := z1P.nd
 refine (z6Q M T F).toX.or (F.okX z1P (fun vs H Q E h => ?_) (fun cdv A outer s H vs Q E hr h => ?_))
 ·obtain ⟨p, fp, zs, r, rows, n, rfl, _⟩ := h
  rfl
 obtain ⟨p, fp, zs, r, rows, n, rfl, of, hn, k⟩ := h
 refine ⟨_, (z04 (z0G (PW.pt (z2L (z0a z3I (pv 1) z05 (z0g _)) (z1F (z0a z2f (pv 1) (z08 z07 rfl M.len PySem.boot_len (z00 (z0s (pv 0) rfl) z01)) (z0g _))))) (z06 (z2r eNotWritten rfl (z00 z0r z01))) z0h) (z06 (z0o (z14 z0z (z0s (pv 0) rfl) (z0c z2J (pv 1) z05) (fun _ _ => rfl))))), ?_⟩
 obtain ⟨dx, pn, pl, fs, xs, rfl, h1, h2, h3, h4, l1, l2, l3, lm, tl, r60, w12, g, r0, r1⟩ := of
 have lx : xs.length = rows.length := by rw [tl.length, List.length_map, z0P]
 refine ⟨_, rfl, _, _, rfl, rfl, _, rfl, ite2 (fun q => ?_) fun n1 => ?_⟩
 ·exact ⟨(by show 1 ≤ sizeLine; decide), k⟩
 refine ⟨_, rfl, _, rfl, p, COffice, dx, fs, _, rfl, h1, T.cl, T.n_written, l3, pl, xs, rfl, .inl (SqL.of h4), _, _, rfl, rfl, _, rfl, ite2 (fun q => ?_) fun n2 => ?_⟩
 ·exact ⟨(by show 1 ≤ sizeLine; decide), k⟩
 ·exfalso
  have e1 : ¬ n < 1 := fun z => n1 (decide_eq_true z)
  have e2 : ¬ (xs.length : Int) < n := fun z => n2 (decide_eq_true z)
  omega
def z5d (Bk : BkP) (CR : Addr) : Sp := fun vs H _ E => ∃ (p : Addr) (fp : List Addr) (zs : List Str) (r k : Int) (rows : List Row) (log : List Deed) (rd : Int), vs = [.ref p, .int rd] /\ Bk H p fp zs r k rows log /\ (rd < 1 \/ k < rd) /\ E (.ref CR) none H
theorem z7k {CBook COffice CUnknownReader : Addr} (M : Bl mg) (T : TxBook K mg CBook) (F : Fun K "refuse_unknown_reader" "Book.refuse_unknown_reader" z0C f fd) (eUnknownReader : Err K mg "UnknownReader" CUnknownReader) :
  FnOk P w K mg base (CX1 P w) 1 f fd z0l (spOr (z1N (BkD K CBook COffice)) (z5d (BkD K CBook COffice) CUnknownReader)) := by
 have nd := z0y.nd
 refine (z4Y M T F).toX.or (F.okX z0y (fun vs H Q E h => ?_) (fun cdv A outer s H vs Q E hr h => ?_))
 ·obtain ⟨p, fp, zs, r, k, rows, log, rd, rfl, _⟩ := h
  rfl
 obtain ⟨p, fp, zs, r, k, rows, log, rd, rfl, ⟨dx, po, pd, fs, fo, us, rfl, B⟩, hn, kk⟩ := h
 refine ⟨_, (z06 (z0G (PW.pt (z2L (z0a z3I (pv 1) z05 (z0g _)) (z1F (z0a z2f (pv 1) (z0s (pv 0) rfl) (z0g _))))) (z06 (z2r eUnknownReader rfl (z00 z0r z01))) z0h)), ?_⟩
 refine ⟨_, rfl, _, _, rfl, rfl, _, rfl, ite2 (fun q => ⟨(by show 1 ≤ sizeLine; decide), kk⟩) fun n1 => ?_⟩
 refine ⟨_, rfl, _, rfl, p, CBook, dx, fs, _, rfl, B.hp, T.cl, T.n_readers, B.lr, _, _, rfl, rfl, _, rfl, ite2 (fun q => ⟨(by show 1 ≤ sizeLine; decide), kk⟩) fun n2 => ?_⟩
 exfalso
 have e1 : ¬ rd < 1 := fun z => n1 (decide_eq_true z)
 have e2 : ¬ k < rd := fun z => n2 (decide_eq_true z)
 omega
def z4G (Bk : BkP) (CB : Addr) : Sp := fun vs H _ E => ∃ (p : Addr) (fp : List Addr) (zs : List Str) (r k : Int) (rows : List Row) (log : List Deed), vs = [.ref p] /\ Bk H p fp zs r k rows log /\ 400 ≤ log.length /\ E (.ref CB) none H
theorem z8o {CBook COffice CBookFull : Addr} (M : Bl mg) (T : TxBook K mg CBook) (F : Fun K "refuse_further_deed" "Book.refuse_further_deed" z0J f fd) (eBookFull : Err K mg "BookFull" CBookFull) :
  FnOk P w K mg base (CX1 P w) 1 f fd z0i (spOr (z1U (BkD K CBook COffice)) (z4G (BkD K CBook COffice) CBookFull)) := by
 have nd := z0H.nd
 refine (z6y M T F).toX.or (F.okX z0H (fun vs H Q E h => ?_) (fun cdv A outer s H vs Q E hr h => ?_))
 ·obtain ⟨p, fp, zs, r, k, rows, log, rfl, _⟩ := h
  rfl
 obtain ⟨p, fp, zs, r, k, rows, log, rfl, ⟨dx, po, pd, fs, fo, us, rfl, B⟩, l4, kk⟩ := h
 refine ⟨_, (z06 (z0G (z0a z8q (z08 z07 rfl M.len PySem.boot_len (z00 (z0s (pv 0) rfl) z01)) (z0U rfl M.MOST_DEEDS) (z0g _)) (z06 (z2r eBookFull rfl (z00 (z7s (z2B z0r (z2B (z8p (z0U rfl M.MOST_DEEDS)) (z2B z0r z9f)))) z01))) z0h)), ?_⟩
 have lu := z0Y B.ds
 refine ⟨_, rfl, p, CBook, dx, fs, _, rfl, B.hp, T.cl, T.n_done, B.ld, pd, us, rfl, .inl (SqL.of B.hd), _, _, rfl, rfl, _, rfl, ?_⟩
 rw [decide_eq_true (by omega)]
 exact iteT ⟨_, rfl, (by decide +kernel), _, rfl, by decide, _, rfl, (by decide +kernel), _, rfl, (by decide +kernel), (by decide +kernel), (by show 1 ≤ sizeLine; decide), kk⟩
def z4E (K : PySem.W.Frag) (Bk : BkP) (CF CU CT CV CB : Addr) : Sp := fun vs H _ E => ∃ (p a : Addr) (fp : List Addr) (zs : List Str) (r k : Int) (rows : List Row) (log : List Deed) (us : List V) (pr : Row) (C : Addr), vs = [.ref p, .ref a] /\ Bk H p fp zs r k rows log /\ SqP K H a us /\ Paired (z1i K H) us pr /\ pr.length ≤ 100 /\ (∀ p ∈ pr, p.1.length ≤ 1000 /\ Low p.1) /\
 (RefW CF CU CT CV zs rows pr C \/ (rows.length < 60 /\ GoodR zs pr /\ pr.length ≤ 12 /\ 400 ≤ log.length /\ C = CB)) /\ ∀ H', Same H H' -> E (.ref C) none H'
theorem z8F {CBook COffice COfficeFull CUnknownName CNameTwice CBadValue CBookFull : Addr} (M : Bl mg) (T : TxBook K mg CBook) (F : Fun K "write" "Book.write" z2T f fd) (GOffice_refuse_writing : MCal P w K mg base 3 COffice "refuse_writing" z0m (z1W K (OfD K COffice)))
  (GOffice_write : MCal P w K mg base 4 COffice "write" z1B (z48 K (OfD K COffice))) (GBook_refuse_further_deed : MCal P w K mg base 1 CBook "refuse_further_deed" z0i (z1U (BkD K CBook COffice)))
  (GOffice_refuse_writingX : MCalX P w K mg base 3 COffice "refuse_writing" z0m (spOr (z1W K (OfD K COffice)) (z5j K (OfD K COffice) COfficeFull CUnknownName CNameTwice CBadValue)))
  (GBook_refuse_further_deedX : MCalX P w K mg base 1 CBook "refuse_further_deed" z0i (spOr (z1U (BkD K CBook COffice)) (z4G (BkD K CBook COffice) CBookFull))) :
  FnOk P w K mg base (CX1 P w) 5 f fd z2e (spOr (z49 K (BkD K CBook COffice)) (z4E K (BkD K CBook COffice) COfficeFull CUnknownName CNameTwice CBadValue CBookFull)) := by
 have nd := z2u.nd
 refine (z6P M T F GOffice_refuse_writing GOffice_write GBook_refuse_further_deed).toX.or (F.okX z2u (fun vs H Q E h => ?_) (fun cdv A outer s H vs Q E hr h => ?_))
 ·obtain ⟨p, a, fp, zs, r, k, rows, log, us, pr, C, rfl, _⟩ := h
  rfl
 obtain ⟨p, a, fp, zs, r, k, rows, log, us, pr, C, rfl, bk, ha, hp, l100, hlow, rf, kk⟩ := h
 refine ⟨_, (z04 (z0p (z2Z z2q GOffice_refuse_writingX (rm hr) (z0s (pv 0) rfl) (z00 (pv 1) z01))) (z04 (z0p (z87 z2q GBook_refuse_further_deedX (rm hr) (pv 0))) (z04 (z0n (i := 2) nd rfl (Or.inl rfl) (z1x GOffice_write (rm hr) (z0s (pv 0) rfl) (z00 (pv 1) z01))) (z04 (z0p (z2l PySem.F.plainAttrs_list PySem.F.slot_list_append PySem.F.type_list_append z0I (z0s (pv 0) rfl) (z00 (z1o (z00 (z2F rfl M.WRITE) (z00 (pv 2) z01))) z01))) (z06 (z0o (pv 2))))))), ?_⟩
 obtain ⟨dx, po, pd, fs, fo, vs, rfl, B⟩ := id bk
 obtain ⟨dxo, pno, plo, fso, xso, efo, h1, h2, h3, h4, l1, l2, l3, lmo, _⟩ := id B.of
 rcases rf with rf | ⟨l60, gr, l12, l4, rfl⟩
 ·exact ⟨_, rfl, p, CBook, dx, fs, _, rfl, B.hp, T.cl, T.n_office, B.lo, po, dxo, fso, rfl, h1, lmo _ (by simp), _, rfl, .inr ⟨po, a, fo, zs, r, rows, us, pr, C, rfl, B.of, ha, hp, l100, hlow, rf, kk⟩⟩
 ·exact ⟨_, rfl, p, CBook, dx, fs, _, rfl, B.hp, T.cl, T.n_office, B.lo, po, dxo, fso, rfl, h1, lmo _ (by simp), _, rfl, .inl ⟨po, a, fo, zs, r, rows, us, pr, rfl, B.of, ha, hp, gr, l12, l60, fun H1 s1 => ⟨_, rfl, p, dx, fs, rfl, s1 _ _ B.hp, B.lm _ (by simp), .inr ⟨p, _, zs, r, k, rows, log, rfl, bkOk.same bk s1, l4, kk H1 s1⟩⟩⟩⟩
def RefD (CN CR CB : Addr) (rows : List Row) (log : List Deed) (k rd n : Int) (C : Addr) : Prop := ((n < 1 \/ (rows.length : Int) < n) /\ C = CN) \/ (1 ≤ n /\ n ≤ rows.length /\ (((rd < 1 \/ k < rd) /\ C = CR) \/ (1 ≤ rd /\ rd ≤ k /\ 400 ≤ log.length /\ C = CB)))
def z3i (Bk : BkP) (CN CR CB : Addr) : Sp := fun vs H _ E => ∃ (p : Addr) (fp : List Addr) (zs : List Str) (r k : Int) (rows : List Row) (log : List Deed) (rd n : Int) (C : Addr), vs = [.ref p, .int rd, .int n] /\ Bk H p fp zs r k rows log /\ RefD CN CR CB rows log k rd n C /\ ∀ H', Same H H' -> E (.ref C) none H'
theorem z6T {CBook COffice CNotWritten CUnknownReader CBookFull : Addr} (M : Bl mg) (T : TxBook K mg CBook) (F : Fun K "deliver" "Book.deliver" z26 f fd) (GOffice_issue : MCal P w K mg base 1 COffice "issue" z0K (z1D (OfD K COffice)))
  (GBook_refuse_unknown_reader : MCal P w K mg base 1 CBook "refuse_unknown_reader" z0l (z1N (BkD K CBook COffice))) (GBook_refuse_further_deed : MCal P w K mg base 1 CBook "refuse_further_deed" z0i (z1U (BkD K CBook COffice)))
  (GOffice_issueX : MCalX P w K mg base 1 COffice "issue" z0K (spOr (z1D (OfD K COffice)) (z6Z (OfD K COffice) CNotWritten))) (GBook_refuse_unknown_readerX : MCalX P w K mg base 1 CBook "refuse_unknown_reader" z0l (spOr (z1N (BkD K CBook COffice)) (z5d (BkD K CBook COffice) CUnknownReader)))
  (GBook_refuse_further_deedX : MCalX P w K mg base 1 CBook "refuse_further_deed" z0i (spOr (z1U (BkD K CBook COffice)) (z4G (BkD K CBook COffice) CBookFull))) :
  FnOk P w K mg base (CX1 P w) 5 f fd z1C (spOr (z30 (BkD K CBook COffice)) (z3i (BkD K CBook COffice) CNotWritten CUnknownReader CBookFull)) := by
 have nd := z1O.nd
 refine (z5f M T F GOffice_issue GBook_refuse_unknown_reader GBook_refuse_further_deed).toX.or (F.okX z1O (fun vs H Q E h => ?_) (fun cdv A outer s H vs Q E hr h => ?_))
 ·obtain ⟨p, fp, zs, r, k, rows, log, rd, n, C, rfl, _⟩ := h
  rfl
 obtain ⟨p, fp, zs, r, k, rows, log, rd, n, C, rfl, bk, rf, kk⟩ := h
 have hu := y15 hr
 refine ⟨_, (z04 (z0p (z2Z z2q GOffice_issueX (rm hr) (z0s (pv 0) rfl) (z00 (pv 2) z01))) (z04 (z0p (z2Z z2q GBook_refuse_unknown_readerX (rm hr) (pv 0) (z00 (pv 1) z01))) (z04 (z0p (z87 z2q GBook_refuse_further_deedX (rm hr) (pv 0))) (z04 (z0n (i := 3) nd rfl (Or.inl rfl) (z1o (z00 (z2F rfl M.DELIVER) (z00 (pv 1) (z00 (pv 2) z01))))) (z04 (z0n (i := 4) nd rfl (Or.inl rfl) (z7m (z5s hu) (pv 3) (z0s (pv 0) rfl) (by with_unfolding_all rfl))) (z04 (z0p (z2l PySem.F.plainAttrs_list PySem.F.slot_list_append PySem.F.type_list_append z0I (z0s (pv 0) rfl) (z00 (pv 3) z01))) (z06 (z0o (pv 4))))))))), ?_⟩
 obtain ⟨dx, po, pd, fs, fo, vs, rfl, B⟩ := id bk
 obtain ⟨dxo, pno, plo, fso, xso, efo, h1, h2, h3, h4, l1, l2, l3, lmo, _⟩ := id B.of
 rcases rf with ⟨hn, rfl⟩ | ⟨n1, n2, ⟨hr2, rfl⟩ | ⟨r1, r2, l4, rfl⟩⟩
 ·exact ⟨_, rfl, p, CBook, dx, fs, _, rfl, B.hp, T.cl, T.n_office, B.lo, po, dxo, fso, rfl, h1, lmo _ (by simp), _, rfl, .inr ⟨po, fo, zs, r, rows, n, rfl, B.of, hn, kk H (Same.refl _)⟩⟩
 ·exact ⟨_, rfl, p, CBook, dx, fs, _, rfl, B.hp, T.cl, T.n_office, B.lo, po, dxo, fso, rfl, h1, lmo _ (by simp), _, rfl, .inl ⟨po, fo, zs, r, rows, n, rfl, B.of, n1, n2, fun v H1 s1 _ => ⟨_, rfl, p, dx, fs, rfl, s1 _ _ B.hp, B.lm _ (by simp), _, rfl, .inr ⟨p, _, zs, r, k, rows, log, rd, rfl, bkOk.same bk s1, hr2, kk H1 s1⟩⟩⟩⟩
 ·exact ⟨_, rfl, p, CBook, dx, fs, _, rfl, B.hp, T.cl, T.n_office, B.lo, po, dxo, fso, rfl, h1, lmo _ (by simp), _, rfl, .inl ⟨po, fo, zs, r, rows, n, rfl, B.of, n1, n2, fun v H1 s1 _ => ⟨_, rfl, p, dx, fs, rfl, s1 _ _ B.hp, B.lm _ (by simp), _, rfl, .inl ⟨p, _, zs, r, k, rows, log, rd, rfl, bkOk.same bk s1, r1, r2, ⟨_, rfl, p, dx, fs, rfl, s1 _ _ B.hp, B.lm _ (by simp), .inr ⟨p, _, zs, r, k, rows, log, rfl, bkOk.same bk s1, l4, kk H1 s1⟩⟩⟩⟩⟩⟩
def z9v (Bk : BkP) (CN : Addr) : Sp := fun vs H _ E => ∃ (p : Addr) (fp : List Addr) (zs : List Str) (r k : Int) (rows : List Row) (log : List Deed) (n : Int), vs = [.ref p, .int n] /\ Bk H p fp zs r k rows log /\ (n < 1 \/ (rows.length : Int) < n) /\ E (.ref CN) none H
theorem z8v {CBook COffice CNotWritten : Addr} (M : Bl mg) (T : TxBook K mg CBook) (F : Fun K "issue" "Book.issue" z2W f fd) (GOffice_issue : MCal P w K mg base 1 COffice "issue" z0K (z1D (OfD K COffice)))
  (GOffice_issueX : MCalX P w K mg base 1 COffice "issue" z0K (spOr (z1D (OfD K COffice)) (z6Z (OfD K COffice) CNotWritten))) : FnOk P w K mg base (CX1 P w) 2 f fd z2Y (spOr (z5W (BkD K CBook COffice)) (z9v (BkD K CBook COffice) CNotWritten)) := by
 have nd := z2o.nd
 refine (z6q M T F GOffice_issue).toX.or (F.okX z2o (fun vs H Q E h => ?_) (fun cdv A outer s H vs Q E hr h => ?_))
 ·obtain ⟨p, fp, zs, r, k, rows, log, n, rfl, _⟩ := h
  rfl
 obtain ⟨p, fp, zs, r, k, rows, log, n, rfl, ⟨dx, po, pd, fs, fo, us, rfl, B⟩, hn, kk⟩ := h
 refine ⟨_, (z06 (z0o (z2Z z2q GOffice_issueX (rm hr) (z0s (pv 0) rfl) (z00 (pv 1) z01)))), ?_⟩
 obtain ⟨dxo, pno, plo, fso, xso, efo, h1, h2, h3, h4, l1, l2, l3, lmo, _⟩ := id B.of
 exact ⟨_, rfl, p, CBook, dx, fs, _, rfl, B.hp, T.cl, T.n_office, B.lo, po, dxo, fso, rfl, h1, lmo _ (by simp), _, rfl, .inr ⟨po, fo, zs, r, rows, n, rfl, B.of, hn, kk⟩⟩
def y0N (Bk : BkP) (CD : Addr) : Sp := fun vs H _ E => ∃ (p : Addr) (fp : List Addr) (zs : List Str) (r k : Int) (rows : List Row) (log : List Deed) (n : Int), vs = [.ref p, .int n] /\ Bk H p fp zs r k rows log /\ (n < 1 \/ (log.length : Int) < n) /\ E (.ref CD) none H
theorem z9R {CBook COffice CNoSuchDeed : Addr} (M : Bl mg) (T : TxBook K mg CBook) (F : Fun K "deed" "Book.deed" z3F f fd) (eNoSuchDeed : Err K mg "NoSuchDeed" CNoSuchDeed) : FnOk P w K mg base (CX1 P w) 1 f fd z3D (spOr (z7f (BkD K CBook COffice)) (y0N (BkD K CBook COffice) CNoSuchDeed)) := by
 have nd := z2X.nd
 refine (z7C M T F).toX.or (F.okX z2X (fun vs H Q E h => ?_) (fun cdv A outer s H vs Q E hr h => ?_))
 ·obtain ⟨p, fp, zs, r, k, rows, log, n, rfl, _⟩ := h
  rfl
 obtain ⟨p, fp, zs, r, k, rows, log, n, rfl, ⟨dx, po, pd, fs, fo, us, rfl, B⟩, hn, kk⟩ := h
 refine ⟨_, (z04 (z0G (PW.pt (z2L (z0a z3I (pv 1) z05 (z0g _)) (z1F (z0a z2f (pv 1) (z08 z07 rfl M.len PySem.boot_len (z00 (z0s (pv 0) rfl) z01)) (z0g _))))) (z06 (z2r eNoSuchDeed rfl (z00 z0r z01))) z0h) (z06 (z0o (z14 z0z (z0s (pv 0) rfl) (z0c z2J (pv 1) z05) (fun _ _ => rfl))))), ?_⟩
 have lu := z0Y B.ds
 refine ⟨_, rfl, _, _, rfl, rfl, _, rfl, ite2 (fun q => ⟨(by show 1 ≤ sizeLine; decide), kk⟩) fun n1 => ?_⟩
 refine ⟨_, rfl, _, rfl, p, CBook, dx, fs, _, rfl, B.hp, T.cl, T.n_done, B.ld, pd, us, rfl, .inl (SqL.of B.hd), _, _, rfl, rfl, _, rfl, ite2 (fun q => ⟨(by show 1 ≤ sizeLine; decide), kk⟩) fun n2 => ?_⟩
 exfalso
 have e1 : ¬ n < 1 := fun z => n1 (decide_eq_true z)
 have e2 : ¬ (us.length : Int) < n := fun z => n2 (decide_eq_true z)
 omega
theorem y4H : ∀ p ∈ UnicodeData.severalUpper, ∀ d ∈ p.2, d < 16 ^ 8 := by decide +kernel
theorem y4C : ∀ p ∈ UnicodeData.severalLower, ∀ d ∈ p.2, d < 16 ^ 8 := by decide +kernel
theorem y45 : ∀ p ∈ UnicodeData.oneUpper, p.2.2 + (p.2.1 - p.1) < 16 ^ 8 := by decide +kernel
theorem y3T : ∀ p ∈ UnicodeData.oneLower, p.2.2 + (p.2.1 - p.1) < 16 ^ 8 := by decide +kernel
theorem y21 {l : List (Nat × List Nat)} (h : ∀ p ∈ l, ∀ d ∈ p.2, d < 16 ^ 8) {c : Nat} {cs : List Nat} (e : l.lookup c = some cs) : ∀ d ∈ cs, d < 16 ^ 8 := by
 induction l with
 | nil => cases e
 | cons p l ih =>
  obtain ⟨a, b⟩ := p
  rw [List.lookup_cons] at e
  split at e
  ·cases e
   exact h (a, cs) List.mem_cons_self
  ·exact ih (fun q hq => h q (List.mem_cons_of_mem _ hq)) e
theorem y0o {l : List (Nat × Nat × Nat)} (h : ∀ p ∈ l, p.2.2 + (p.2.1 - p.1) < 16 ^ 8) {c d : Nat} (e : Unicode.shifted l c = some d) : d < 16 ^ 8 := by
 induction l with
 | nil => cases e
 | cons p l ih =>
  obtain ⟨a, b, t⟩ := p
  unfold Unicode.shifted at e
  split at e
  ·cases e
  ·split at e
   ·cases e
    have := h (a, b, t) List.mem_cons_self
    dsimp only at this
    omega
   ·exact ih (fun q hq => h q (List.mem_cons_of_mem _ hq)) e
theorem z88 {o : List (Nat × Nat × Nat)} {l : List (Nat × List Nat)} (h1 : ∀ p ∈ o, p.2.2 + (p.2.1 - p.1) < 16 ^ 8) (h2 : ∀ p ∈ l, ∀ d ∈ p.2, d < 16 ^ 8) {c : Nat} (hc : c < 16 ^ 8) : ∀ d ∈ Unicode.image o l c, d < 16 ^ 8 := by
 unfold Unicode.image
 split
 ·rename_i cs e
  exact y21 h2 e
 ·intro d hd
  rw [List.mem_singleton.mp hd]
  cases e : Unicode.shifted o c with
  | none => exact hc
  | some x => exact y0o h1 e
theorem z6A {x : Str} {f : Nat -> Nat -> List Nat} (h : ∀ i c, x.cps[i]? = some c -> ∀ d ∈ f i c, d < 16 ^ 8) : ∀ d ∈ (PySem.placed x f).toList, d < 16 ^ 8 := fun d hd => by
 unfold PySem.placed at hd
 have hd' := Array.mem_def.mpr hd
 obtain ⟨a, ha, hm⟩ := Array.mem_flatten.mp hd'
 obtain ⟨i, hi, rfl⟩ := Array.mem_mapIdx.mp ha
 exact h i _ (Array.getElem?_eq_getElem hi) d (by simpa using hm)
theorem y19 {x : Str} (h : Low x) : Low (Txt.upper x) := z6A fun i c e d hd => z88 y45 y4H (h c (Array.mem_def.mp (Array.mem_of_getElem? e))) d hd
theorem y1s {x : Str} (h : Low x) : Low (Txt.lower x) := z6A fun i c e d hd => by
 unfold Unicode.lowerAt at hd
 rw [e] at hd
 dsimp only at hd
 split at hd
 ·rw [List.mem_singleton.mp hd]
  decide
 ·exact z88 y3T y4C (h c (Array.mem_def.mp (Array.mem_of_getElem? e))) d hd
theorem y1v {a b : Str} (ha : Low a) (hb : Low b) : Low (a ++ b) := fun c hc => by
 rw [z4H] at hc
 exact (List.mem_append.mp hc).elim (ha c) (hb c)
theorem y3r {z : Str} (h : Low z) (lo hi : Option Int) : Low (cutS z lo hi) := fun c hc => by
 have hc' : c ∈ (z.cps.toList.drop _).take _ := hc
 exact h c (List.mem_of_mem_drop (List.mem_of_mem_take hc'))
def z8b (K : PySem.W.Frag) : Sp := fun vs H Q _ => ∃ (ln : Addr) (nm : List Str) (c : Int), vs = [.ref ln, .int c] /\ SqL K H ln (nm.map V.str) /\ 1 ≤ nm.length /\ nm.length ≤ 12 /\ Nms nm /\ ∀ (z : Str) (H' : Hp), Same H H' -> z.length ≤ 100 -> Low z -> z ∉ nm -> Q (.str z) H'
theorem y0t (a b : Str) : (a ++ b).length = a.length + b.length := by
 rw [<- z0L, z4H, List.length_append, z0L, z0L]
theorem y20 (z : Str) (lo hi : Option Int) : (cutS z lo hi).length ≤ z.length := by
 rw [<- z0L, <- z0L]
 show ((z.cps.toList.drop _).take _).length ≤ _
 rw [List.length_take, List.length_drop]
 omega
theorem z4k {n : Nat} (h : n ≤ 1000) : n ≤ sizeLine := Nat.le_of_lt (z0k h)
theorem y2Y {n : Nat} (h : n ≤ 1000) : Builtin.Str.tooLong n = false := by
 have := z4k h
 unfold Builtin.Str.tooLong
 exact decide_eq_false (by omega)
theorem z9W (M : Bl mg) (F : Fun K "_law_strange" "_law_strange" z32 f fd) : FnOk P w K mg base CX0 1 f fd z35 (z8b K) := by
 have nd := z3K.nd
 refine F.ok z3K (fun vs H Q E h => ?_) (fun cdv A outer s H vs Q E hr h => ?_)
 ·obtain ⟨ln, nm, c, rfl, _⟩ := h
  rfl
 obtain ⟨ln, nm, c, rfl, hN, n1, n12, Nn, q⟩ := h
 have n20 := Nn.hi
 refine ⟨_, (z04 (z0n (i := 2) nd rfl (Or.inl rfl) (z14 z0z (pv 0) (z0c z0w (z0c z0D (pv 1) z05) (z08 z07 rfl M.len PySem.boot_len (z00 (pv 0) z01))) (fun _ _ => rfl))) (z04 (z0n (i := 3) nd rfl (Or.inl rfl) z0r) (z04 (z0n (i := 4) nd rfl (Or.inl rfl) (z14 z0z (z0R (z00 (pv 3) (z00 (z0c z3w (pv 2) z0r) (z00 (y2R PySem.F.plainAttrs_str PySem.F.slot_str_upper PySem.F.type_str_upper y1O (pv 2)) (z00 (y2R PySem.F.plainAttrs_str PySem.F.slot_str_lower PySem.F.type_str_lower y1L (pv 2)) (z00 (z0c z3w (pv 2) z0r) (z00 (z2m y0q (pv 2) (z3u z05) z3m) z01))))))) (z0c z0w (pv 1) z05) (fun _ _ => rfl))) (z04 (z0G (PW.pt (z2L (z0a y0k (pv 4) (pv 0) (by with_unfolding_all rfl)) (z2L (z0a z3Z (pv 4) z0r (z0g _)) (z1F (z0a z2f (z08 z58 rfl M.len PySem.boot_len (z00 (pv 4) z01)) z05 (z0g _)))))) (z06 (z0o (pv 3))) z0h) (z06 (z0o (pv 4))))))), ?_⟩
 have i0 : 0 ≤ c / 6 % (nm.length : Int) := Int.emod_nonneg _ (by omega)
 have i1 : c / 6 % (nm.length : Int) < (nm.length : Int) := Int.emod_lt_of_pos _ (by omega)
 obtain ⟨z, ez, az⟩ := z8l i0 i1
 have hz := n20 z (List.mem_of_getElem? ez)
 have lz : Low z := Nn.low z (List.mem_of_getElem? ez)
 refine ⟨_, rfl, _, rfl, _, _, rfl, rfl, ⟨by decide, by decide⟩, _, rfl, ln, _, rfl, .inl hN, _, _, rfl, rfl, (by rw [List.length_map]; omega), ln, _, _, _, rfl, rfl, hN, (by rw [List.length_map]; exact az), ?_⟩
 have lowF : Low "a stranger of twenty" := show ∀ c ∈ ("a stranger of twenty" : Str).cps.toList, c < 16 ^ 8 from by decide +kernel
 have lx : ("x" : Str).length = 1 := by decide +kernel
 have lb : (" " : Str).length = 1 := by decide +kernel
 have lf : ("a stranger of twenty" : Str).length = 20 := by decide +kernel
 have hu := y0C z
 have hl := y14 z
 have hc := y20 z (some 1) none
 refine ⟨_, rfl, _, rfl, _, _, rfl, rfl, z4k (by omega), ?_⟩
 refine ⟨_, rfl, rfl, z, rfl, rfl, y2Y (by omega), ?_⟩
 refine ⟨_, rfl, rfl, z, rfl, rfl, y2Y (by omega), ?_⟩
 refine ⟨_, rfl, _, _, rfl, rfl, z4k (by omega), ?_⟩
 refine ⟨_, rfl, _, rfl, z, rfl, z4k (by omega), ?_⟩
 refine ⟨(by show 6 ≤ sizeLine; decide), fun p hp => ?_⟩
 obtain ⟨y, hat, hy, ly⟩ : ∃ y : Str, atI [V.str "a stranger of twenty", V.str (z ++ "x"), V.str (Txt.upper z), V.str (Txt.lower z), V.str (z ++ " "), V.str (cutS z (some 1) none)] (c % 6) = some (.str y) /\ y.length ≤ 100 /\ Low y := by
  have h1 := Int.emod_nonneg c (show (6 : Int) ≠ 0 by decide)
  have h2 := Int.emod_lt_of_pos c (show (0 : Int) < 6 by decide)
  have c6 : c % 6 = 0 \/ c % 6 = 1 \/ c % 6 = 2 \/ c % 6 = 3 \/ c % 6 = 4 \/ c % 6 = 5 := by omega
  rcases c6 with e | e | e | e | e | e <;> rw [e]
  ·exact ⟨_, rfl, by omega, lowF⟩
  ·exact ⟨_, rfl, by rw [y0t]; omega, y1v lz (show ∀ c ∈ ("x" : Str).cps.toList, c < 16 ^ 8 from by decide +kernel)⟩
  ·exact ⟨_, rfl, by omega, y19 lz⟩
  ·exact ⟨_, rfl, by omega, y1s lz⟩
  ·exact ⟨_, rfl, by rw [y0t]; omega, y1v lz (show ∀ c ∈ (" " : Str).cps.toList, c < 16 ^ 8 from by decide +kernel)⟩
  ·exact ⟨_, rfl, by omega, y3r lz _ _⟩
 refine ⟨_, rfl, _, _, rfl, rfl, (by show (0 : Int) < 6; decide), p, _, _, _, rfl, rfl, SqL.of z03, hat, ?_⟩
 have s1 := z02 hp (.lst [V.str "a stranger of twenty", V.str (z ++ "x"), V.str (Txt.upper z), V.str (Txt.lower z), V.str (z ++ " "), V.str (cutS z (some 1) none)])
 refine ⟨_, rfl, _, rfl, ln, _, rfl, .inl (s1.seq hN), rfl, z2M nm, _, rfl, ?_⟩
 rw [if_neg Bool.false_ne_true, z4d]
 by_cases c1 : y ∈ nm
 ·rw [decide_eq_true c1]
  exact iteT ⟨_, rfl, q _ _ s1 (by omega) lowF Nn.far⟩
 rw [decide_eq_false c1]
 refine iteF ⟨_, rfl, rfl, _, rfl, ?_⟩
 refine ite2 (fun _ => ?_) (fun _ => ?_)
 ·exact ⟨_, rfl, q _ _ s1 (by omega) lowF Nn.far⟩
 refine ⟨_, rfl, y, rfl, z4k (by omega), _, _, rfl, rfl, _, rfl, ?_⟩
 refine ite2 (fun _ => ?_) (fun _ => ?_)
 ·exact ⟨_, rfl, q _ _ s1 (by omega) lowF Nn.far⟩
 ·exact ⟨_, rfl, q _ _ s1 hy ly c1⟩
def RowL (H : Hp) (u : V) (p : Str × Int) : Prop := ∃ b, u = .ref b /\ H b = some (.lst [.str p.1, .int p.2])
theorem RowL.keep {H H' : Hp} (s : Same H H') : ∀ {us : List V} {pr : Row}, Paired (RowL H) us pr -> Paired (RowL H') us pr
 | _, _, .nil => .nil
 | _, _, .cons ⟨a, e, h⟩ t => .cons ⟨a, e, s _ _ h⟩ (RowL.keep s t)
theorem RowL.at {H : Hp} : ∀ {us : List V} {pr : Row}, Paired (RowL H) us pr -> ∀ (i : Nat) (x : V), us[i]? = some x -> ∃ p, pr[i]? = some p /\ RowL H x p
 | _, _, .nil, i, x, e => by simp at e
 | _, _, .cons r t, 0, x, e => by
  simp at e
  subst e
  exact ⟨_, rfl, r⟩
 | _, _, .cons r t, i + 1, x, e => by
  obtain ⟨y, h1, h2⟩ := RowL.at t i x (by simpa using e)
  exact ⟨y, by simpa using h1, h2⟩
theorem RowL.hand {K : PySem.W.Frag} {H : Hp} : ∀ {us : List V} {pr : Row}, Paired (RowL H) us pr -> Paired (z1i K H) us pr
 | _, _, .nil => .nil
 | _, _, .cons ⟨a, e, h⟩ t => .cons ⟨a, e, .inl (SqL.of h)⟩ (RowL.hand t)
def y3K (nm : List Str) (pr : Row) (z : Str) : Prop := ((∃ p ∈ pr, p.1 ∉ nm) /\ z = "UnknownName") \/ ((∀ p ∈ pr, p.1 ∈ nm) /\ ¬ (pr.map Prod.fst).Nodup /\ z = "NameTwice") \/ ((∀ p ∈ pr, p.1 ∈ nm) /\ (pr.map Prod.fst).Nodup /\ (∃ p ∈ pr, p.2 < 0 \/ 1000000 < p.2) /\ z = "BadValue") \/ (GoodR nm pr /\ z = "")
def z85 (K : PySem.W.Frag) : Sp := fun vs H Q _ => ∃ (lr ln : Addr) (us : List V) (pr : Row) (nm : List Str), vs = [.ref lr, .ref ln] /\ H lr = some (.lst us) /\ Paired (RowL H) us pr /\ pr.length ≤ 100 /\ SqL K H ln (nm.map V.str) /\ ∀ (z : Str) (H' : Hp), Same H H' -> y3K nm pr z -> Q (.str z) H'
theorem y05 (zs : List Str) (z : Str) : (zs.map V.str).countP (fun y => eqV y (.str z)) = zs.count z := by
 rw [List.countP_map, List.count]
 rfl
theorem z94 {zs : List Str} : zs.filter (fun z => decide (1 < zs.count z)) = [] ↔ zs.Nodup := by
 rw [List.filter_eq_nil_iff, List.nodup_iff_count]
 constructor
 ·intro h z
  by_cases hz : z ∈ zs
  ·have := h z hz
   rw [decide_eq_true_eq] at this
   omega
  ·rw [List.count_eq_zero.mpr hz]
   exact Nat.zero_le _
 ·intro h z _ q
  have := of_decide_eq_true q
  have := h z
  omega
theorem z9G (M : Bl mg) (F : Fun K "_law_refusal" "_law_refusal" z31 f fd) : FnOk P w K mg base CX0 1 f fd z2U (z85 K) := by
 have nd := z3L.nd
 refine F.ok z3L (fun vs H Q E h => ?_) (fun cdv A outer s H vs Q E hr h => ?_)
 ·obtain ⟨lr, ln, us, pr, nm, rfl, _⟩ := h
  rfl
 obtain ⟨lr, ln, us, pr, nm, rfl, eR, hp, l100, hN, q⟩ := h
 refine ⟨_, (z04 (z0n (i := 2) nd rfl (Or.inr rfl) (z2y ["_law_row_here"] [] [] rfl (z0E rfl (by decide +kernel) rfl (by decide +kernel) rfl rfl) (z21 (pv 0)) (fun _ _ _ _ _ => (z0u (i := 0) (show ((["_law_row_here"] : List PySem.Str) ++ ([] : List PySem.Str)).Nodup from by decide +kernel) rfl (Or.inl rfl))) (z0M (by decide)) z0q (fun _ _ _ _ _ => z22) (fun _ _ _ _ _ => (z14 (r := rIxL K) z0z (pv 0) z05 (fun _ _ => rfl))))) (z04 (z0G (z0a z2f (z08 z07 rfl M.len PySem.boot_len (z00 (z2y ["_law_name"] ["_law_names"] [1] rfl (z0E rfl (by decide +kernel) rfl (by decide +kernel) rfl rfl) (z21 (pv 2)) (fun _ _ _ _ _ => (z0u (i := 0) (show ((["_law_name"] : List PySem.Str) ++ (["_law_names"] : List PySem.Str)).Nodup from by decide +kernel) rfl (Or.inl rfl))) (z0M (by decide)) z0q (fun _ _ _ _ _ => (z7e (z0a (r := rIn K true) z2n (pv 0) (pv 1) (by with_unfolding_all rfl)))) (fun _ _ _ _ _ => (pv 0))) z01)) z05 (z0g _)) (z06 (z0o z0r)) z0h) (z04 (z0G (z0a z2f (z08 z07 rfl M.len PySem.boot_len (z00 (z2y ["_law_name"] ["_law_places"] [2] rfl (z0E rfl (by decide +kernel) rfl (by decide +kernel) rfl rfl) (z21 (pv 2)) (fun _ _ _ _ _ => (z0u (i := 0) (show ((["_law_name"] : List PySem.Str) ++ (["_law_places"] : List PySem.Str)).Nodup from by decide +kernel) rfl (Or.inl rfl))) (z0M (by decide)) z0q (fun _ _ _ _ _ => (z7e (z0a z2f (y3Z (K := K) rfl PySem.F.plainAttrs_list PySem.F.slot_list_count PySem.F.type_list_count (z9D (K := K) rfl) (pv 1) (z00 (pv 0) z01)) z05 (z0g _)))) (fun _ _ _ _ _ => (pv 0))) z01)) z05 (z0g _)) (z06 (z0o z0r)) z0h) (z04 (z0G (z0a z2f (z08 z07 rfl M.len PySem.boot_len (z00 (z2y ["_law_row_here"] [] [] rfl (z0E rfl (by decide +kernel) rfl (by decide +kernel) rfl rfl) (z21 (pv 0)) (fun _ _ _ _ _ => (z0u (i := 0) (show ((["_law_row_here"] : List PySem.Str) ++ ([] : List PySem.Str)).Nodup from by decide +kernel) rfl (Or.inl rfl))) (z0M (by decide)) z0q (fun _ _ _ _ _ => (z7e (PW.pt (z2L (z0a z3I (z14 (r := rIxL K) z0z (pv 0) z05 (fun _ _ => rfl)) z05 (z0g _)) (z1F (z0a z2f (z14 (r := rIxL K) z0z (pv 0) z05 (fun _ _ => rfl)) z05 (z0g _))))))) (fun _ _ _ _ _ => (pv 0))) z01)) z05 (z0g _)) (z06 (z0o z0r)) z0h) (z06 (z0o z0r)))))), ?_⟩
 have lu : us.length = pr.length := hp.length
 refine ⟨_, rfl, lr, rfl, ⟨_, SqL.of eR⟩, ?_⟩
 refine z2j (xs := us) (fun i ys G => G = H /\ ys = ((pr.take i).map Prod.fst).map V.str) ⟨rfl, rfl⟩ (fun i ys G hi hq => ?_) (fun i x ys G hx hq => ?_) (fun ys G hq => ?_)
 ·obtain ⟨rfl, rfl⟩ := hq
  refine ⟨SqL.of eR, z0k ?_⟩
  rw [List.length_map, List.length_map, List.length_take]
  omega
 ·obtain ⟨rfl, rfl⟩ := hq
  obtain ⟨p, ep, b, rfl, hb⟩ := RowL.at hp i x hx
  refine ⟨_, rfl, b, _, 0, _, rfl, rfl, SqL.of hb, rfl, rfl, ?_⟩
  rw [z0X ep, List.map_append, List.map_append]
  rfl
 obtain ⟨rfl, rfl⟩ := hq
 rw [lu, List.take_length]
 intro D hD
 have s1 := z02 hD (.lst ((pr.map Prod.fst).map V.str))
 have e1 : upd G D (.lst ((pr.map Prod.fst).map V.str)) D = some (.lst ((pr.map Prod.fst).map V.str)) := z03
 generalize upd G D (.lst ((pr.map Prod.fst).map V.str)) = H1 at s1 e1
 have hN1 := s1.seq hN
 have eR1 := s1 _ _ eR
 have hp1 := RowL.keep s1 hp
 have lf : (pr.map Prod.fst).length = pr.length := List.length_map _
 refine ⟨_, rfl, D, rfl, ⟨_, SqL.of e1⟩, ?_⟩
 refine z2j (xs := (pr.map Prod.fst).map V.str) (fun i ys G => G = H1 /\ ys = (((pr.map Prod.fst).take i).filter fun z => decide (z ∉ nm)).map V.str) ⟨rfl, rfl⟩ (fun i ys G hi hq => ?_) (fun i y ys G hy hq => ?_) (fun ys G hq => ?_)
 ·obtain ⟨rfl, rfl⟩ := hq
  refine ⟨SqL.of e1, z0k ?_⟩
  rw [List.length_map]
  have := List.length_filter_le (fun z => decide (z ∉ nm)) ((pr.map Prod.fst).take i)
  rw [List.length_take] at this
  omega
 ·obtain ⟨rfl, rfl⟩ := hq
  rw [List.getElem?_map] at hy
  obtain ⟨z, ez, rfl⟩ := Option.map_eq_some_iff.mp hy
  refine ⟨_, rfl, _, rfl, ln, _, rfl, .inl hN1, rfl, z2M nm, _, rfl, ?_⟩
  rw [if_pos rfl, z4d, z0X ez, List.filter_append, List.filter_cons]
  by_cases c : z ∈ nm
  ·rw [decide_eq_true c, if_neg (fun q => (of_decide_eq_true q) c), List.filter_nil, List.append_nil]
   exact iteF ⟨rfl, rfl⟩
  ·rw [decide_eq_false c, if_pos (decide_eq_true c), List.map_append]
   exact iteT ⟨_, rfl, rfl, rfl⟩
 obtain ⟨rfl, rfl⟩ := hq
 rw [List.length_map, List.take_length]
 intro D2 hD2
 have s2 := z02 hD2 (.lst (((pr.map Prod.fst).filter fun z => decide (z ∉ nm)).map V.str))
 refine ⟨D2, _, rfl, .inl (SqL.of z03), _, _, rfl, rfl, _, rfl, ?_⟩
 rw [List.length_map]
 by_cases hall : ∀ p ∈ pr, p.1 ∈ nm
 case neg =>
  have : ∃ p ∈ pr, p.1 ∉ nm := Classical.byContradiction fun c => hall fun p hp => Classical.byContradiction fun d => c ⟨p, hp, d⟩
  obtain ⟨p, hpm, hz⟩ := this
  have pos : 0 < ((pr.map Prod.fst).filter fun z => decide (z ∉ nm)).length := List.length_pos_of_mem (a := p.1) (List.mem_filter.mpr ⟨List.mem_map.mpr ⟨p, hpm, rfl⟩, decide_eq_true hz⟩)
  rw [decide_eq_true (by omega)]
  exact iteT (q _ _ (s1.trans s2) (.inl ⟨⟨p, hpm, hz⟩, rfl⟩))
 have z0 : ((pr.map Prod.fst).filter fun z => decide (z ∉ nm)) = [] := List.filter_eq_nil_iff.mpr fun z hz c => by
  obtain ⟨p, hpm, rfl⟩ := List.mem_map.mp hz
  exact (of_decide_eq_true c) (hall p hpm)
 rw [z0] at s2 ⊢
 rw [decide_eq_false (by show ¬ (0 : Int) < 0; omega)]
 have e12 := s2 _ _ e1
 have s12 := s1.trans s2
 generalize upd G D2 (.lst (([] : List Str).map V.str)) = H2 at s2 e12 s12
 have eR2 := s2 _ _ eR1
 have hp2 := RowL.keep s2 hp1
 refine iteF ⟨_, rfl, D, rfl, ⟨_, SqL.of e12⟩, ?_⟩
 refine z2j (xs := (pr.map Prod.fst).map V.str) (fun i ys G => G = H2 /\ ys = (((pr.map Prod.fst).take i).filter fun z => decide (1 < (pr.map Prod.fst).count z)).map V.str) ⟨rfl, rfl⟩ (fun i ys G hi hq => ?_) (fun i y ys G hy hq => ?_) (fun ys G hq => ?_)
 ·obtain ⟨rfl, rfl⟩ := hq
  refine ⟨SqL.of e12, z0k ?_⟩
  rw [List.length_map]
  have := List.length_filter_le (fun z => decide (1 < (pr.map Prod.fst).count z)) ((pr.map Prod.fst).take i)
  rw [List.length_take] at this
  omega
 ·obtain ⟨rfl, rfl⟩ := hq
  rw [List.getElem?_map] at hy
  obtain ⟨z, ez, rfl⟩ := Option.map_eq_some_iff.mp hy
  refine ⟨_, rfl, .inl ⟨rfl, _, SqL.of e12⟩, _, rfl, D, _, _, rfl, rfl, SqL.of e12, rfl, z2M _, _, _, rfl, rfl, _, rfl, ?_⟩
  rw [y05, z0X ez, List.filter_append, List.filter_cons]
  by_cases c : 1 < (pr.map Prod.fst).count z
  ·rw [decide_eq_true (show (1 : Int) < ((pr.map Prod.fst).count z : Int) by omega), if_pos (decide_eq_true c), List.map_append]
   exact iteT ⟨_, rfl, rfl, rfl⟩
  ·rw [decide_eq_false (show ¬ (1 : Int) < ((pr.map Prod.fst).count z : Int) by omega), if_neg (fun q => c (of_decide_eq_true q)), List.filter_nil, List.append_nil]
   exact iteF ⟨rfl, rfl⟩
 obtain ⟨rfl, rfl⟩ := hq
 rw [List.length_map, List.take_length]
 intro D3 hD3
 have s3 := z02 hD3 (.lst (((pr.map Prod.fst).filter fun z => decide (1 < (pr.map Prod.fst).count z)).map V.str))
 refine ⟨D3, _, rfl, .inl (SqL.of z03), _, _, rfl, rfl, _, rfl, ?_⟩
 rw [List.length_map]
 by_cases hnd : (pr.map Prod.fst).Nodup
 case neg =>
  have pos : 0 < ((pr.map Prod.fst).filter fun z => decide (1 < (pr.map Prod.fst).count z)).length := List.length_pos_iff.mpr fun e => hnd (z94.mp e)
  rw [decide_eq_true (by omega)]
  exact iteT (q _ _ (s12.trans s3) (.inr (.inl ⟨hall, hnd, rfl⟩)))
 rw [z94.mpr hnd] at s3 ⊢
 rw [decide_eq_false (by show ¬ (0 : Int) < 0; omega)]
 have s13 := s12.trans s3
 generalize upd G D3 (.lst (([] : List Str).map V.str)) = H3 at s3 s13
 have eR3 := s3 _ _ eR2
 have hp3 := RowL.keep s3 hp2
 refine iteF ⟨_, rfl, lr, rfl, ⟨_, SqL.of eR3⟩, ?_⟩
 refine z2j (xs := us) (fun i ys G => G = H3 /\ ys.length = ((pr.take i).filter fun p => decide (p.2 < 0 \/ 1000000 < p.2)).length) ⟨rfl, rfl⟩ (fun i ys G hi hq => ?_) (fun i x ys G hx hq => ?_) (fun ys G hq => ?_)
 ·obtain ⟨rfl, hl⟩ := hq
  refine ⟨SqL.of eR3, z0k ?_⟩
  rw [hl]
  have := List.length_filter_le (fun p : Str × Int => decide (p.2 < 0 \/ 1000000 < p.2)) (pr.take i)
  rw [List.length_take] at this
  omega
 ·obtain ⟨rfl, hl⟩ := hq
  obtain ⟨p, ep, b, rfl, hb⟩ := RowL.at hp3 i x hx
  refine ⟨_, rfl, b, _, 1, _, rfl, rfl, SqL.of hb, rfl, _, _, rfl, rfl, _, rfl, ?_⟩
  rw [z0X ep, List.filter_append, List.filter_cons]
  by_cases c1 : p.2 < 0
  ·rw [decide_eq_true c1, if_pos (decide_eq_true (.inl c1))]
   exact iteT ⟨_, rfl, rfl, by rw [List.length_append, List.length_append, hl]; rfl⟩
  rw [decide_eq_false c1]
  refine iteF ⟨_, rfl, b, _, 1, _, rfl, rfl, SqL.of hb, rfl, _, _, rfl, rfl, _, rfl, ?_⟩
  by_cases c2 : 1000000 < p.2
  ·rw [decide_eq_true c2, if_pos (decide_eq_true (.inr c2))]
   exact iteT ⟨_, rfl, rfl, by rw [List.length_append, List.length_append, hl]; rfl⟩
  ·rw [decide_eq_false c2, if_neg (fun q => (of_decide_eq_true q).elim c1 c2), List.filter_nil, List.append_nil]
   exact iteF ⟨rfl, hl⟩
 obtain ⟨rfl, hl⟩ := hq
 rw [lu, List.take_length] at hl
 intro D4 hD4
 have s4 := s13.trans (z02 hD4 (.lst ys))
 refine ⟨D4, _, rfl, .inl (SqL.of z03), _, _, rfl, rfl, _, rfl, ?_⟩
 rw [hl]
 by_cases hv : ∀ p ∈ pr, 0 ≤ p.2 /\ p.2 ≤ 1000000
 ·rw [List.filter_eq_nil_iff.mpr fun p hpm c => by
   have := of_decide_eq_true c
   have := hv p hpm
   omega]
  rw [decide_eq_false (by show ¬ (0 : Int) < 0; omega)]
  exact iteF (q _ _ s4 (.inr (.inr (.inr ⟨⟨hnd, hall, hv⟩, rfl⟩))))
 ·have : ∃ p ∈ pr, p.2 < 0 \/ 1000000 < p.2 := Classical.byContradiction fun c => hv fun p hp => Classical.byContradiction fun d => c ⟨p, hp, by omega⟩
  obtain ⟨p, hpm, hb⟩ := this
  have pos : 0 < (pr.filter fun p => decide (p.2 < 0 \/ 1000000 < p.2)).length := List.length_pos_of_mem (List.mem_filter.mpr ⟨hpm, decide_eq_true hb⟩)
  rw [decide_eq_true (by omega)]
  exact iteT (q _ _ s4 (.inr (.inr (.inl ⟨hall, hnd, ⟨p, hpm, hb⟩, rfl⟩))))
def HL (H0 H : Hp) (u : V) (p : Str × Int) : Prop := ∃ b, u = .ref b /\ H b = some (.lst [.str p.1, .int p.2]) /\ H0 b = none
theorem HL.keep {H0 H H' : Hp} (g : Same H H') : ∀ {us : List V} {pr : Row}, Paired (HL H0 H) us pr -> Paired (HL H0 H') us pr
 | _, _, .nil => .nil
 | _, _, .cons ⟨b, e, h, n⟩ t => .cons ⟨b, e, g _ _ h, n⟩ (HL.keep g t)
theorem HL.row {H0 H : Hp} : ∀ {us : List V} {pr : Row}, Paired (HL H0 H) us pr -> Paired (RowL H) us pr
 | _, _, .nil => .nil
 | _, _, .cons ⟨b, e, h, n⟩ t => .cons ⟨b, e, h⟩ (HL.row t)
theorem HL.hand {K : PySem.W.Frag} {H0 H : Hp} {fp : List Addr} (no : ∀ {b : Addr}, H0 b = none -> b ∉ fp) : ∀ {us : List V} {pr : Row}, Paired (HL H0 H) us pr -> Paired (z79 K H fp) us pr
 | _, _, .nil => .nil
 | _, _, .cons ⟨b, e, h, n⟩ t => .cons ⟨b, e, .inl (SqL.of h), no n⟩ (HL.hand no t)
theorem HL.ne {H0 G : Hp} {b l : Addr} {p : Str × Int} {xs : List V} {pp : Row} (h : G b = some (.lst [.str p.1, .int p.2])) (e : G l = some (.lst xs)) (q : Paired (HL H0 G) xs pp) : b ≠ l := fun z => by
 rw [z, e] at h
 have e1 : xs = [.str p.1, .int p.2] := HO.lst.inj (Option.some.inj h)
 rw [e1] at q
 cases q with
 | cons r t =>
  obtain ⟨b', e2, _⟩ := r
  cases e2
theorem HL.upd {H0 G : Hp} {l : Addr} {xs : List V} {pp : Row} (o : HO) (e : G l = some (.lst xs)) (q : Paired (HL H0 G) xs pp) : ∀ {us : List V} {pr : Row}, Paired (HL H0 G) us pr -> Paired (HL H0 (upd G l o)) us pr
 | _, _, .nil => .nil
 | _, _, .cons ⟨b, e1, h, n⟩ t => .cons ⟨b, e1, by rw [z0b (HL.ne h e q)]; exact h, n⟩ (HL.upd o e q t)
theorem z2k {α β : Type} {R : α -> β -> Prop} : ∀ {xs : List α} {ys : List β} {x : α} {y : β}, Paired R xs ys -> R x y -> Paired R (xs ++ [x]) (ys ++ [y])
 | _, _, _, _, .nil, h => .cons h .nil
 | _, _, _, _, .cons r t, h => .cons r (z2k t h)
theorem z5Z {α β : Type} {R : α -> β -> Prop} : ∀ {xs : List α} {ys : List β}, Paired R xs ys -> ∀ (i : Nat) (y : β), ys[i]? = some y -> ∃ x, xs[i]? = some x /\ R x y
 | _, _, .nil, i, x, e => by simp at e
 | _, _, .cons r t, 0, x, e => by
  simp at e
  subst e
  exact ⟨_, rfl, r⟩
 | _, _, .cons r t, i + 1, x, e => by
  obtain ⟨y, h1, h2⟩ := z5Z t i x (by simpa using e)
  exact ⟨y, by simpa using h1, h2⟩
theorem z6o {α β : Type} {R : α -> β -> Prop} : ∀ {xs : List α} {ys : List β} {xs' : List α} {ys' : List β}, Paired R xs ys -> Paired R xs' ys' -> Paired R (xs ++ xs') (ys ++ ys')
 | _, _, _, _, .nil, h => h
 | _, _, _, _, .cons r t, h => .cons r (z6o t h)
theorem z5N {α β : Type} {R : α -> β -> Prop} : ∀ {xs : List α} {ys : List β} (k : Nat), Paired R xs ys -> Paired R (xs.take k) (ys.take k)
 | _, _, 0, _ => .nil
 | _, _, _ + 1, .nil => .nil
 | _, _, k + 1, .cons r t => .cons r (z5N k t)
theorem z5C {α β : Type} {R : α -> β -> Prop} : ∀ {xs : List α} {ys : List β} (k : Nat), Paired R xs ys -> Paired R (xs.drop k) (ys.drop k)
 | _, _, 0, h => h
 | _, _, _ + 1, .nil => .nil
 | _, _, k + 1, .cons r t => z5C k t
theorem z6z {α β : Type} {R : α -> β -> Prop} {x : α} {y : β} (h : R x y) : ∀ {xs : List α} {ys : List β} (k : Nat), Paired R xs ys -> Paired R (xs.set k x) (ys.set k y)
 | _, _, _, .nil => .nil
 | _, _, 0, .cons r t => .cons h t
 | _, _, k + 1, .cons r t => .cons r (z6z h k t)
theorem GoodR.perm {nm : List Str} {x y : Row} (s : x.Perm y) (g : GoodR nm x) : GoodR nm y := ⟨(s.map Prod.fst).nodup_iff.mp g.nd, fun p hp => g.sub p (s.mem_iff.mpr hp), fun p hp => g.val p (s.mem_iff.mpr hp)⟩
def NmOk (pr : Row) : Prop := ∀ p ∈ pr, p.1.length ≤ 100 /\ Low p.1
structure SpSt (H G : Hp) (lr ls : Addr) (pr sp : Row) : Prop where
 same : Same H G
 ne : lr ≠ ls
 fr : H lr = none
 fs : H ls = none
 nmr : NmOk pr
 nms : NmOk sp
 st : ∃ us vs, G lr = some (.lst us) /\ G ls = some (.lst vs) /\ Paired (HL H G) us pr /\ Paired (HL H G) vs sp
theorem SpSt.then {H G G' : Hp} {lr ls : Addr} {pr sp : Row} (S : SpSt H G lr ls pr sp) (g : Same G G') : SpSt H G' lr ls pr sp := by
 obtain ⟨us, vs, e1, e2, p1, p2⟩ := S.st
 exact ⟨S.same.trans g, S.ne, S.fr, S.fs, S.nmr, S.nms, us, vs, g _ _ e1, g _ _ e2, HL.keep g p1, HL.keep g p2⟩
theorem SpSt.add {H G : Hp} {lr ls l : Addr} {pr sp : Row} {us vs : List V} {z : Str} {k : Int} (S : SpSt H G lr ls pr sp) (e1 : G lr = some (.lst us)) (e2 : G ls = some (.lst vs)) (p1 : Paired (HL H G) us pr) (p2 : Paired (HL H G) vs sp) (hl : G l = none) (hz : z.length ≤ 100 /\ Low z) :
  SpSt H (upd (upd G l (.lst [.str z, .int k])) ls (.lst (vs ++ [.ref l]))) lr ls pr (sp ++ [(z, k)]) := by
 have g := z02 hl (.lst [.str z, .int k])
 have q2 := HL.keep g p2
 have u : ∀ {xs : List V} {x : Row}, Paired (HL H (upd G l (.lst [.str z, .int k]))) xs x -> Paired (HL H (upd (upd G l (.lst [.str z, .int k])) ls (.lst (vs ++ [.ref l])))) xs x := fun h => HL.upd _ (g _ _ e2) q2 h
 exact ⟨z4m (S.same.trans g) S.fs, S.ne, S.fr, S.fs, S.nmr, fun p hp => (List.mem_append.mp hp).elim (S.nms p) fun h => by rw [List.mem_singleton.mp h]; exact hz, us, vs ++ [.ref l], by rw [z0b S.ne]; exact g _ _ e1, z03, u (HL.keep g p1), u (z2k q2 ⟨l, rfl, z03, S.same.free hl⟩)⟩
theorem SpSt.put {H G : Hp} {lr ls l : Addr} {pr sp : Row} {us vs : List V} {z : Str} {k : Int} {i : Nat} (S : SpSt H G lr ls pr sp) (e1 : G lr = some (.lst us)) (e2 : G ls = some (.lst vs)) (p1 : Paired (HL H G) us pr) (p2 : Paired (HL H G) vs sp) (hl : G l = none) (hz : z.length ≤ 100 /\ Low z) :
  SpSt H (upd (upd G l (.lst [.str z, .int k])) lr (.lst (us.set i (.ref l)))) lr ls (pr.set i (z, k)) sp := by
 have g := z02 hl (.lst [.str z, .int k])
 have q1 := HL.keep g p1
 have u : ∀ {xs : List V} {x : Row}, Paired (HL H (upd G l (.lst [.str z, .int k]))) xs x -> Paired (HL H (upd (upd G l (.lst [.str z, .int k])) lr (.lst (us.set i (.ref l))))) xs x := fun h => HL.upd _ (g _ _ e1) q1 h
 exact ⟨z4m (S.same.trans g) S.fr, S.ne, S.fr, S.fs, fun p hp => (List.mem_or_eq_of_mem_set hp).elim (S.nmr p) fun h => by rw [h]; exact hz, S.nms, us.set i (.ref l), vs, z03, by rw [z0b S.ne.symm]; exact g _ _ e2, u (z6z ⟨l, rfl, z03, S.same.free hl⟩ i q1), u (HL.keep g p2)⟩
theorem SpSt.ins {H G : Hp} {lr ls : Addr} {pr sp : Row} {us vs : List V} {u : V} {p : Str × Int} {i : Nat} (S : SpSt H G lr ls pr sp) (e1 : G lr = some (.lst us)) (e2 : G ls = some (.lst vs)) (p1 : Paired (HL H G) us pr) (p2 : Paired (HL H G) vs sp) (hu : HL H G u p) (hz : p.1.length ≤ 100 /\ Low p.1) :
  SpSt H (upd G lr (.lst (us.take i ++ u :: us.drop i))) lr ls (pr.take i ++ p :: pr.drop i) sp := by
 have w : ∀ {xs : List V} {x : Row}, Paired (HL H G) xs x -> Paired (HL H (upd G lr (.lst (us.take i ++ u :: us.drop i)))) xs x := fun h => HL.upd _ e1 p1 h
 exact ⟨z4m S.same S.fr, S.ne, S.fr, S.fs, fun p' hp => by
  rcases List.mem_append.mp hp with h | h
  ·exact S.nmr p' (List.mem_of_mem_take h)
  rcases List.mem_cons.mp h with rfl | h
  ·exact hz
  ·exact S.nmr p' (List.mem_of_mem_drop h), S.nms, _, vs, z03, by rw [z0b S.ne.symm]; exact e2, w (z6o (z5N i p1) (.cons hu (z5C i p1))), w p2⟩
theorem y48 {n : Nat} {k : Int} (h0 : 0 ≤ k) (h : k < (n : Int)) : ixN n k = some k.toNat := by
 unfold ixN
 rw [if_pos h0, if_pos h]
def SpJ (nm : List Str) (good pr sp : Row) : Prop := (pr = good /\ sp = []) \/ ¬ GoodR nm (pr ++ sp)
def z91 (K : PySem.W.Frag) : Sp := fun vs H Q _ => ∃ (ln : Addr) (v : V) (nm : List Str) (good : Row) (c : Int), vs = [v, .ref ln, .int c] /\ (∃ (a : Addr) (xs : List V), v = .ref a /\ H a = some (.lst xs) /\ z0d H (good.map z7y) xs) /\ good.length ≤ 12 /\ (∀ p ∈ good, p.1 ∈ nm) /\ SqL K H ln (nm.map V.str) /\ 1 ≤ nm.length /\ nm.length ≤ 12 /\ Nms nm /\
 ∀ (lr : Addr) (us : List V) (pr : Row) (H' : Hp), Same H H' -> H lr = none -> H' lr = some (.lst us) -> Paired (HL H H') us pr -> pr.length ≤ 16 -> NmOk pr -> (GoodR nm pr -> pr = good) -> Q (.ref lr) H'
theorem y0p (M : Bl mg) (F : Fun K "_law_spoilt" "_law_spoilt" z3p f fd) (G_law_strange : Cal P w K mg base 1 "_law_strange" z35 (z8b K)) : FnOk P w K mg base CX0 2 f fd z3h (z91 K) := by
 have nd := z4y.nd
 refine F.ok z4y (fun vs H Q E h => ?_) (fun cdv A outer s H vs Q E hr h => ?_)
 ·obtain ⟨ln, v, nm, good, c, rfl, _⟩ := h
  rfl
 obtain ⟨ln, v, nm, good, c, rfl, tv, g12, gsub, hN, n1, n12, Nn, q⟩ := h
 have n20 := Nn.hi
 refine ⟨_, (z04 (z4J (i := 3) ["_law_row_here"] [] [] rfl nd rfl (Or.inl rfl) (z0E rfl (by decide +kernel) rfl (by decide +kernel) rfl rfl) (z21 (pv 0)) (fun _ _ _ _ _ => (z0u (i := 0) (show ((["_law_row_here"] : List PySem.Str) ++ ([] : List PySem.Str)).Nodup from by decide +kernel) rfl (Or.inl rfl))) (z0M (by decide)) z0q (fun _ _ _ _ _ => z22) (fun _ _ _ _ _ => (z0B (z6S (K := K) rfl) rfl M.list PyProof.Rows.boot_list (z00 (pv 0) z01)))) (z04 (z0n (i := 4) nd rfl (Or.inl rfl) (z0R z01)) (z20 (z0G (z0a z3Z (z0c z0w (pv 2) z05) z05 (z0g _)) (z06 (z0p (z2l PySem.F.plainAttrs_list PySem.F.slot_list_append PySem.F.type_list_append z0I (pv 4) (z00 (z0R (z00 (z0t G_law_strange (rm hr) rfl (z00 (pv 1) (z00 (z0c z0D (pv 2) z05) z01))) (z00 (z0c z0w (z0c z0D (pv 2) z05) z05) z01))) z01)))) z0h) (z20 (z0G (z0a z3Z (z0c z0w (z0c z0D (pv 2) z05) z05) z05 (z0g _)) (z04 (z0n (i := 5) nd rfl (Or.inl rfl) (z14 z0z (pv 1) (z0c z0w (z0c z0D (pv 2) z05) (z08 z07 rfl M.len PySem.boot_len (z00 (pv 1) z01))) (fun _ _ => rfl))) (z04 (z0p (z2l PySem.F.plainAttrs_list PySem.F.slot_list_append PySem.F.type_list_append z0I (pv 4) (z00 (z0R (z00 (pv 5) (z00 (z0c z13 z05 (z0c z0w (z0c z0D (pv 2) z05) z05)) z01))) z01))) (z06 (z0p (z2l PySem.F.plainAttrs_list PySem.F.slot_list_append PySem.F.type_list_append z0I (pv 4) (z00 (z0R (z00 (pv 5) (z00 (z0c z13 z05 (z0c z0w (z0c z0D (pv 2) z05) z05)) z01))) z01)))))) z0h) (z20 (z0G (PW.pt (z6G (z0a z3Z (z0c z0w (z0c z0D (pv 2) z05) z05) z05 (z0g _)) (z6G (z0a z3Z (z0c z0w (z0c z0D (pv 2) z05) z05) z05 (z0g _)) (z7b (z0a z2f (z08 z07 rfl M.len PySem.boot_len (z00 (pv 3) z01)) z05 (z0g _)))))) (z04 (z0n (i := 6) nd rfl (Or.inl rfl) (z0c z0w (z0c z0D (pv 2) z05) (z08 z07 rfl M.len PySem.boot_len (z00 (pv 3) z01)))) (z06 (y4w (z0R (z00 (z14 z0z (z14 z0z (pv 3) (pv 6) (fun _ _ => rfl)) z05 (fun _ _ => rfl)) (z00 (z14 z0z (z0R (z00 (z7i z4c z05) (z00 z05 (z00 (z7i z4c z05) (z00 (z0c z9n z05 z05) z01))))) (z0c z0w (z0c z0D (pv 2) z05) z05) (fun _ _ => rfl)) z01))) (y4u (pv 3) (pv 6) y1P)))) (z06 (z0G (z0a z3Z (z0c z0w (z0c z0D (pv 2) z05) z05) z05 (z0g _)) (z06 (z0p (z2l PySem.F.plainAttrs_list PySem.F.slot_list_append PySem.F.type_list_append z0I (pv 4) (z00 (z0R (z00 (z14 z0z (pv 1) (z0c z0w (z0c z0D (pv 2) z05) (z08 z07 rfl M.len PySem.boot_len (z00 (pv 1) z01))) (fun _ _ => rfl)) (z00 (z14 z0z (z0R (z00 (z7i z4c z05) (z00 z05 (z00 (z7i z4c (z0c z9n z05 z05)) (z00 (z0c z9n z05 z05) z01))))) (z0c z0w (z0c z0D (pv 2) z05) z05) (fun _ _ => rfl)) z01))) z01)))) z0h))) (z04 (z2E PassesOwn.never rfl (z1X rfl M.range (z00 (z08 z07 rfl M.len PySem.boot_len (z00 (pv 4) z01)) z01)) (z0u (i := 7) nd rfl (Or.inl rfl)) (z06 (z0p (z2l PySem.F.plainAttrs_list PySem.F.slot_list_insert PySem.F.type_list_insert y0F (pv 3) (z00 (z0c z0w (z0c z0D (pv 2) z05) (z0c z13 (z08 z07 rfl M.len PySem.boot_len (z00 (pv 3) z01)) z05)) (z00 (z14 z0z (pv 4) (pv 7) (fun _ _ => rfl)) z01)))))) (z06 (z0o (pv 3))))))))), ?_⟩
 obtain ⟨ar, xs, rfl, er, tp⟩ := tv
 have lw : xs.length = good.length := by rw [tp.length, List.length_map]
 refine ⟨_, rfl, ar, rfl, ⟨_, SqL.of er⟩, ?_⟩
 refine z2j (xs := xs) (fun j ys H2 => Same H H2 /\ Paired (HL H H2) ys (good.take j)) ⟨Same.refl _, by rw [List.take_zero]; exact .nil⟩ (fun j ys H2 hj hp => ?_) (fun j y ys H2 hy hp => ?_) (fun ys H2 hp => ?_)
 ·obtain ⟨g, pr⟩ := hp
  refine ⟨SqL.of (g _ _ er), z0k ?_⟩
  rw [pr.length, List.length_take]
  omega
 ·obtain ⟨g, pr⟩ := hp
  obtain ⟨pq, b, e1, rfl, e2⟩ := z3Q tp j y hy
  refine ⟨_, rfl, b, _, rfl, .inr (SqT.of (g _ _ e2)), fun l hl => ⟨g.trans (z02 hl _), ?_⟩⟩
  rw [List.take_add_one, e1]
  exact z2k (HL.keep (z02 hl _) pr) ⟨l, rfl, z03, g.free hl⟩
 obtain ⟨g, pr⟩ := hp
 rw [lw, List.take_length] at pr
 intro lr hlr
 have gD := g.trans (z02 hlr (.lst ys))
 have eD : upd H2 lr (.lst ys) lr = some (.lst ys) := z03
 have pD := HL.keep (z02 hlr (.lst ys)) pr
 have nlr : H lr = none := g.free hlr
 generalize upd H2 lr (.lst ys) = H3 at gD eD pD
 refine ⟨(by show 0 ≤ sizeLine; decide), fun ls hls => ?_⟩
 have gE := gD.trans (z02 hls (.lst []))
 have eS : upd H3 ls (.lst []) ls = some (.lst []) := z03
 have eR := z02 hls (.lst []) _ _ eD
 have pR := HL.keep (z02 hls (.lst [])) pD
 have nls : H ls = none := gD.free hls
 have ner : lr ≠ ls := fun e => by rw [e, hls] at eD; cases eD
 have st0 : SpSt H (upd H3 ls (.lst [])) lr ls good [] := ⟨gE, ner, nlr, nls, fun p hp => ⟨Nat.le_trans (n20 _ (gsub p hp)) (by decide), Nn.low _ (gsub p hp)⟩, fun p hp => (by cases hp), ys, [], eR, eS, pR, .nil⟩
 generalize upd H3 ls (.lst []) = H4 at st0
 clear gE eS eR pR gD eD pD pr g hlr hls tp er lw
 refine ⟨fun σ G => ∃ (sp : Row), SpSt H G lr ls good sp /\ sp.length ≤ 1 /\ SpJ nm good good sp /\ σ = [some (.ref ar), some (.ref ln), some (.int c), some (.ref lr), some (.ref ls), none, none, none], ?_, ?_⟩
 rotate_left
 ·rintro σ G ⟨sp, st, l1, J, rfl⟩
  refine ⟨fun σ G => ∃ (sp : Row) (o5 : Option V), SpSt H G lr ls good sp /\ sp.length ≤ 3 /\ SpJ nm good good sp /\ σ = [some (.ref ar), some (.ref ln), some (.int c), some (.ref lr), some (.ref ls), o5, none, none], ?_, ?_⟩
  rotate_left
  ·rintro σ G ⟨sp, o5, st, l3, J, rfl⟩
   refine ⟨fun σ G => ∃ (pr sp : Row) (o5 o6 : Option V), SpSt H G lr ls pr sp /\ pr.length ≤ 12 /\ sp.length ≤ 4 /\ SpJ nm good pr sp /\ σ = [some (.ref ar), some (.ref ln), some (.int c), some (.ref lr), some (.ref ls), o5, o6, none], ?_, ?_⟩
   rotate_left
   ·rintro σ G ⟨pr, sp, o5, o6, st, r12, l4, J, rfl⟩
    obtain ⟨us, vs, e1, e2, p1, p2⟩ := st.st
    refine ⟨_, rfl, ls, vs, rfl, .inl (SqL.of e2), _, rfl, by omega, by rw [p2.length]; omega, ?_⟩
    refine z2K (lo := 0) (n := ((vs.length : Nat) : Int).toNat) (fun j σ H' => ∃ (cur : Row) (o7 : Option V), SpSt H H' lr ls cur sp /\ H' ls = some (.lst vs) /\ cur.Perm (pr ++ sp.take j) /\ (j = 0 -> cur = pr) /\
      σ = [some (.ref ar), some (.ref ln), some (.int c), some (.ref lr), some (.ref ls), o5, o6, o7])
     ⟨pr, none, st, e2, by rw [List.take_zero, List.append_nil], fun _ => rfl, rfl⟩ (fun j σ H' hj hp => ?_) (fun σ H' hp => ?_)
    ·obtain ⟨cur, o7, S, eS, pm, _, rfl⟩ := hp
     obtain ⟨us', vs', eR, eS', pR, pS⟩ := S.st
     obtain rfl : vs' = vs := HO.lst.inj (Option.some.inj (eS'.symm.trans eS))
     have hj' : j < sp.length := by rw [<- pS.length]; omega
     obtain ⟨u, eu, hu⟩ := z5Z pS j sp[j] (List.getElem?_eq_getElem hj')
     have lc : us'.length ≤ 16 := by
      rw [pR.length, pm.length_eq, List.length_append, List.length_take]
      omega
     have i0 : 0 ≤ c / 256 % ((us'.length : Int) + 1) := Int.emod_nonneg _ (by omega)
     have i1 : c / 256 % ((us'.length : Int) + 1) < (us'.length : Int) + 1 := Int.emod_lt_of_pos _ (by omega)
     have ez : (0 : Int) + (j : Int) = j := Int.zero_add _
     rw [ez]
     refine ⟨_, rfl, .inl ⟨rfl, _, SqL.of eR⟩, _, rfl, _, _, rfl, rfl, ⟨by decide, by decide⟩, _, rfl, lr, us', rfl, .inl (SqL.of eR), _, _, rfl, rfl, _, _, rfl, rfl, by omega, _, rfl, _, rfl, ls, _, _, _, rfl, rfl, SqL.of eS, z1E eu, lr, us', _, u, rfl, rfl, eR, i0, by omega, z0k (by omega), ?_⟩
     have hm : sp[j] ∈ sp := List.getElem_mem hj'
     refine ⟨_, _, S.ins eR eS pR pS hu (S.nms _ hm), by rw [z0b S.ne.symm]; exact eS, ?_, fun h => absurd h (Nat.succ_ne_zero _), rfl⟩
     rw [List.take_add_one, List.getElem?_eq_getElem hj', Option.toList_some, <- List.append_assoc]
     refine (List.perm_middle.trans (List.Perm.cons _ ?_)).trans (List.perm_append_singleton _ _).symm
     rw [List.take_append_drop]
     exact pm
    ·obtain ⟨cur, o7, S, eS, pm, z0, rfl⟩ := hp
     obtain ⟨us', vs', eR, eS', pR, pS⟩ := S.st
     have lv : (((vs.length : Nat) : Int).toNat) = sp.length := by rw [<- p2.length]; omega
     rw [lv, List.take_length] at pm
     refine ⟨_, rfl, q lr us' cur H' S.same S.fr eR pR ?_ S.nmr fun gg => ?_⟩
     ·rw [pm.length_eq, List.length_append]
      omega
     ·rcases J with ⟨j1, j2⟩ | j
      ·rw [z0 (by rw [lv, j2]; rfl), j1]
      ·exact absurd (gg.perm pm) j
   obtain ⟨us, vs, e1, e2, p1, p2⟩ := st.st
   have lu := p1.length
   have lv := p2.length
   have bad : ∀ ks : List Int, ks.length = 4 -> (∀ k ∈ ks, k < 0 \/ 1000000 < k) -> ∃ k, atI (ks.map V.int) (c / 64 % 4) = some (.int k) /\ (k < 0 \/ 1000000 < k) := fun ks l4 hk => by
    have h1 := Int.emod_nonneg (c / 64) (show (4 : Int) ≠ 0 by decide)
    have h2 := Int.emod_lt_of_pos (c / 64) (show (0 : Int) < 4 by decide)
    refine ⟨_, y0l h1 (by rw [l4]; exact h2), ?_⟩
    rw [List.getD_eq_getElem?_getD, List.getElem?_eq_getElem (by omega)]
    exact hk _ (List.getElem_mem _)
   obtain ⟨k1, ak1, bk1⟩ := bad [-1, 1000001, -1000000, 10 ^ (30 : Int).toNat] rfl (by decide)
   obtain ⟨k2, ak2, bk2⟩ := bad [-1, 1000001, -(2 ^ (40 : Int).toNat), 10 ^ (30 : Int).toNat] rfl (by decide)
   have ths : ∀ {x : Row} {z : Str} {k : Int}, (z, k) ∈ x -> (k < 0 \/ 1000000 < k) -> ¬ GoodR nm x := fun m b gg => by have := gg.val _ m; omega
   refine ⟨_, rfl, _, _, rfl, rfl, ⟨by decide, by decide⟩, _, _, rfl, rfl, (by show (0 : Int) < 2; decide), rfl, _, rfl, ite2 (fun _ => ⟨_, rfl, _, _, rfl, rfl, ⟨by decide, by decide⟩, _, _, rfl, rfl, (by show (0 : Int) < 2; decide), rfl, _, rfl, ite2 (fun _ => ⟨_, rfl, lr, us, rfl, .inl (SqL.of e1), _, _, rfl, rfl, _, rfl, ite2 (fun hl => ?_) (fun _ => ?_)⟩) (fun _ => iteF ?_)⟩) (fun _ => iteF ?_)⟩
   ·have l0 := z11 hl
    have i0 : 0 ≤ c / 16 % (us.length : Int) := Int.emod_nonneg _ (by omega)
    have i1 : c / 16 % (us.length : Int) < (us.length : Int) := Int.emod_lt_of_pos _ (by omega)
    refine ⟨_, rfl, _, _, rfl, rfl, ⟨by decide, by decide⟩, _, rfl, lr, us, rfl, .inl (SqL.of e1), _, _, rfl, rfl, l0, ?_⟩
    obtain ⟨pn, epn⟩ := Int.eq_ofNat_of_zero_le i0
    have hp : pn < us.length := by omega
    have hg : pn < good.length := by omega
    obtain ⟨u, eu, b, rfl, eb, nb⟩ := z5Z p1 pn good[pn] (List.getElem?_eq_getElem hg)
    have mg := List.getElem_mem hg
    refine ⟨_, rfl, _, rfl, lr, _, _, _, rfl, rfl, SqL.of e1, (by rw [epn]; exact z1E eu), b, _, _, _, rfl, rfl, SqL.of eb, rfl, ?_⟩
    refine ⟨_, rfl, _, rfl, _, _, rfl, rfl, ⟨by decide, by decide, by decide⟩, (by show 4 ≤ sizeLine; decide), fun lb hlb => ?_⟩
    have sb := z02 hlb (.lst ([-1, 1000001, -1000000, 10 ^ (30 : Int).toNat].map V.int))
    refine ⟨_, rfl, _, _, rfl, rfl, ⟨by decide, by decide⟩, _, _, rfl, rfl, (by show (0 : Int) < 4; decide), lb, _, _, _, rfl, rfl, SqL.of z03, ak1, (by show 2 ≤ sizeLine; decide), fun l hl => ?_⟩
    have stb := st.then sb
    have sg := z02 hl (.lst [.str good[pn].1, .int k1])
    refine ⟨_, rfl, _, rfl, lr, us, _, pn, rfl, rfl, sg _ _ (sb _ _ e1), (by rw [epn]; exact y48 (Int.natCast_nonneg _) (by omega)), ?_⟩
    refine ⟨_, sp, _, _, stb.put (i := pn) (k := k1) (sb _ _ e1) (sb _ _ e2) (HL.keep sb p1) (HL.keep sb p2) hl (st.nmr _ mg), by rw [List.length_set]; exact g12, by omega, .inr (ths (z := good[pn].1) (k := k1) (List.mem_append_left _ ?_) bk1), rfl⟩
    exact List.mem_set hg _
   all_goals
    refine ⟨_, rfl, _, _, rfl, rfl, ⟨by decide, by decide⟩, _, _, rfl, rfl, (by show (0 : Int) < 2; decide), rfl, _, rfl, ite2 (fun _ => ?_) (fun _ => ⟨good, sp, _, _, st, g12, by omega, J, rfl⟩)⟩
    have i0 : 0 ≤ c / 16 % (nm.length : Int) := Int.emod_nonneg _ (by omega)
    have i1 : c / 16 % (nm.length : Int) < (nm.length : Int) := Int.emod_lt_of_pos _ (by omega)
    obtain ⟨z, ez, az⟩ := z8l i0 i1
    have mz := List.mem_of_getElem? ez
    have okz : z.length ≤ 100 /\ Low z := ⟨Nat.le_trans (n20 z mz) (by decide), Nn.low z mz⟩
    have hN0 := st.same.seq hN
    refine ⟨_, rfl, .inl ⟨rfl, _, SqL.of e2⟩, _, rfl, _, rfl, _, _, rfl, rfl, ⟨by decide, by decide⟩, _, rfl, ln, _, rfl, .inl hN0, _, _, rfl, rfl, (by rw [List.length_map]; omega), ln, _, _, _, rfl, rfl, hN0, (by rw [List.length_map]; exact az), ?_⟩
    refine ⟨_, rfl, _, _, rfl, rfl, ⟨by decide, by decide, by decide⟩, _, rfl, _, _, rfl, rfl, ⟨by decide, by decide, by decide⟩, (by show 4 ≤ sizeLine; decide), fun lb hlb => ?_⟩
    have sb := z02 hlb (.lst ([-1, 1000001, -(2 ^ (40 : Int).toNat), 10 ^ (30 : Int).toNat].map V.int))
    refine ⟨_, rfl, _, _, rfl, rfl, ⟨by decide, by decide⟩, _, _, rfl, rfl, (by show (0 : Int) < 4; decide), lb, _, _, _, rfl, rfl, SqL.of z03, ak2, (by show 2 ≤ sizeLine; decide), fun l hl => ?_⟩
    have stb := st.then sb
    have sg := z02 hl (.lst [.str z, .int k2])
    refine ⟨ls, _, _, rfl, rfl, sg _ _ (sb _ _ e2), z0k (by omega), ?_⟩
    exact ⟨good, _, _, _, stb.add (k := k2) (sb _ _ e1) (sb _ _ e2) (HL.keep sb p1) (HL.keep sb p2) hl okz, g12, by rw [List.length_append]; show sp.length + 1 ≤ 4; omega, .inr (ths (z := z) (k := k2) (List.mem_append_right _ (List.mem_append_right _ (List.mem_singleton.mpr rfl))) bk2), rfl⟩
  obtain ⟨us, vs, e1, e2, p1, p2⟩ := st.st
  have lv := p2.length
  refine ⟨_, rfl, _, _, rfl, rfl, ⟨by decide, by decide⟩, _, _, rfl, rfl, (by show (0 : Int) < 2; decide), rfl, _, rfl, ite2 (fun _ => ?_) (fun _ => ⟨sp, none, st, by omega, J, rfl⟩)⟩
  have i0 : 0 ≤ c / 16 % (nm.length : Int) := Int.emod_nonneg _ (by omega)
  have i1 : c / 16 % (nm.length : Int) < (nm.length : Int) := Int.emod_lt_of_pos _ (by omega)
  obtain ⟨z, ez, az⟩ := z8l i0 i1
  have mz := List.mem_of_getElem? ez
  have okz : z.length ≤ 100 /\ Low z := ⟨Nat.le_trans (n20 z mz) (by decide), Nn.low z mz⟩
  have hN0 := st.same.seq hN
  refine ⟨_, rfl, _, rfl, _, _, rfl, rfl, ⟨by decide, by decide⟩, _, rfl, ln, _, rfl, .inl hN0, _, _, rfl, rfl, (by rw [List.length_map]; omega), ln, _, _, _, rfl, rfl, hN0, (by rw [List.length_map]; exact az), ?_⟩
  refine ⟨_, rfl, .inl ⟨rfl, _, SqL.of e2⟩, _, rfl, _, rfl, _, _, rfl, rfl, ⟨by decide, by decide⟩, _, _, rfl, rfl, (by show (0 : Int) < 3; decide), _, _, rfl, rfl, (by show 2 ≤ sizeLine; decide), fun l hl => ?_⟩
  have sg := z02 hl (.lst [.str z, .int (1 + c / 16 % 3)])
  refine ⟨ls, _, _, rfl, rfl, sg _ _ e2, z0k (by omega), ?_⟩
  have st1 := st.add (k := 1 + c / 16 % 3) e1 e2 p1 p2 hl okz
  generalize upd (upd G l (.lst [.str z, .int (1 + c / 16 % 3)])) ls (.lst (vs ++ [.ref l])) = G1 at st1
  obtain ⟨us1, vs1, f1, f2, q1, q2⟩ := st1.st
  have lv1 := q2.length
  rw [List.length_append] at lv1
  have lv2 : vs1.length = sp.length + 1 := lv1
  refine ⟨_, rfl, .inl ⟨rfl, _, SqL.of f2⟩, _, rfl, _, rfl, _, _, rfl, rfl, ⟨by decide, by decide⟩, _, _, rfl, rfl, (by show (0 : Int) < 3; decide), _, _, rfl, rfl, (by show 2 ≤ sizeLine; decide), fun l' hl' => ?_⟩
  have sg' := z02 hl' (.lst [.str z, .int (1 + c / 64 % 3)])
  refine ⟨ls, _, _, rfl, rfl, sg' _ _ f2, z0k (by omega), ?_⟩
  refine ⟨_, _, st1.add (k := 1 + c / 64 % 3) f1 f2 q1 q2 hl' okz, ?_, .inr fun gg => ?_, rfl⟩
  ·rw [List.length_append, List.length_append]
   show sp.length + 1 + 1 ≤ 3
   omega
  ·have := gg.nd
   rw [List.map_append, List.map_append, List.map_append, List.append_assoc] at this
   have h2 := (List.nodup_append.mp (List.nodup_append.mp this).2.1).2.1
   exact (List.nodup_cons.mp h2).1 (List.mem_singleton.mpr rfl)
 obtain ⟨us, vs, e1, e2, p1, p2⟩ := st0.st
 refine ⟨_, rfl, _, _, rfl, rfl, (by show (0 : Int) < 2; decide), rfl, _, rfl, ite2 (fun _ => ?_) (fun _ => ⟨[], st0, Nat.zero_le _, .inl ⟨rfl, rfl⟩, rfl⟩)⟩
 refine ⟨_, rfl, .inl ⟨rfl, _, SqL.of e2⟩, _, rfl, _, rfl, _, _, rfl, rfl, ⟨by decide, by decide⟩, ln, nm, c / 8, rfl, st0.same.seq hN, n1, n12, Nn, fun z G s1 hz lz nz => ?_⟩
 have st1 := st0.then s1
 refine ⟨_, rfl, _, _, rfl, rfl, ⟨by decide, by decide⟩, _, _, rfl, rfl, (by show (0 : Int) < 5; decide), (by show 2 ≤ sizeLine; decide), fun l hl => ?_⟩
 have sg := z02 hl (.lst [.str z, .int (c / 16 % 5)])
 refine ⟨ls, _, _, rfl, rfl, sg _ _ (s1 _ _ e2), z0k (by rw [p2.length]; decide), ?_⟩
 refine ⟨[] ++ [(z, c / 16 % 5)], st1.add (s1 _ _ e1) (s1 _ _ e2) (HL.keep s1 p1) (HL.keep s1 p2) hl ⟨hz, lz⟩, Nat.le_refl _, .inr fun gg => nz (gg.sub (z, c / 16 % 5) (List.mem_append_right _ (by simp))), rfl⟩
def refD (z : Str) : DV := .tup [.str "refused", .str z]
def z6i : List Str := ["OfficeFull", "UnknownName", "NameTwice", "BadValue", "NotWritten", "BookFull", "UnknownReader", "NoSuchDeed", "BadNames", "BadReach", "BadReaders", "TooManyCourses"]
def DueW (nm : List Str) (rows : List Row) (pr : Row) (i : Nat) : Prop := (60 ≤ rows.length /\ i = 0) \/ (rows.length < 60 /\ (((∃ p ∈ pr, p.1 ∉ nm) /\ i = 1) \/ ((∀ p ∈ pr, p.1 ∈ nm) /\ ¬ (pr.map Prod.fst).Nodup /\ i = 2) \/ ((∀ p ∈ pr, p.1 ∈ nm) /\ (pr.map Prod.fst).Nodup /\ (∃ p ∈ pr, p.2 < 0 \/ 1000000 < p.2) /\ i = 3)))
def y4c (nm : List Str) (rows : List Row) (log : List Deed) (pr : Row) (i : Nat) : Prop := DueW nm rows pr i \/ (rows.length < 60 /\ GoodR nm pr /\ pr.length ≤ 12 /\ 400 ≤ log.length /\ i = 5)
def DueD (rows : List Row) (log : List Deed) (k rd n : Int) (i : Nat) : Prop := ((n < 1 \/ (rows.length : Int) < n) /\ i = 4) \/ (1 ≤ n /\ n ≤ rows.length /\ (((rd < 1 \/ k < rd) /\ i = 6) \/ (1 ≤ rd /\ rd ≤ k /\ 400 ≤ log.length /\ i = 5)))
def z8M (K : PySem.W.Frag) (Bk : BkP) : Sp := fun vs H Q _ => ∃ (th : Str) (p : Addr) (v two : V) (fp : List Addr) (zs : List Str) (r k : Int) (rows : List Row) (log : List Deed), vs = [.str th, .ref p, v, two] /\ Bk H p fp zs r k rows log /\
 ((th = "write" /\ ∃ pr, z9a K H fp v pr /\ GoodR zs pr /\ pr.length ≤ 12 /\ rows.length < 60 /\ log.length < 400 /\ ∀ (fp' : List Addr) (H' : Hp), (∀ b ∈ fp', b ∈ fp \/ H b = none) -> z0f fp H H' -> Bk H' p fp' zs r k (rows ++ [z0T zs pr]) (log ++ [(none, (rows.length : Int) + 1)]) -> Q (.int (rows.length + 1)) H') \/
  (th = "write" /\ ∃ (a : Addr) (us : List V) (pr : Row) (i : Nat), v = .ref a /\ SqP K H a us /\ Paired (z1i K H) us pr /\ pr.length ≤ 100 /\ (∀ p ∈ pr, p.1.length ≤ 1000 /\ Low p.1) /\ y4c zs rows log pr i /\ ∀ (u : V) (H' : Hp), Same H H' -> Tell H' (refD (z6i.getD i "")) u -> Q u H') \/
  (th = "deliver" /\ ∃ (rd n : Int), v = .int rd /\ two = .int n /\ 1 ≤ rd /\ rd ≤ k /\ 1 ≤ n /\ n ≤ rows.length /\ log.length < 400 /\ ∀ (H' : Hp), z0f fp H H' -> Bk H' p fp zs r k rows (log ++ [(some rd, n)]) -> Q (.bl (decide (((some rd, n) : Deed) ∉ log))) H') \/
  (th = "deliver" /\ ∃ (rd n : Int) (i : Nat), v = .int rd /\ two = .int n /\ DueD rows log k rd n i /\ ∀ (u : V) (H' : Hp), Same H H' -> Tell H' (refD (z6i.getD i "")) u -> Q u H'))
theorem y2y {COffice CBook CBadNames CBadReach CBadReaders COfficeFull CUnknownName CNameTwice CBadValue CNotWritten CUnknownReader CBookFull CNoSuchDeed CTooManyCourses CBackError : Addr} (M : Bl mg) (F : Fun K "_law_done" "_law_done" z4P f fd)
  (eBackError : Err K mg "BackError" CBackError) (eBadNames : Err K mg "BadNames" CBadNames) (eBadReach : Err K mg "BadReach" CBadReach) (eBadReaders : Err K mg "BadReaders" CBadReaders) (eOfficeFull : Err K mg "OfficeFull" COfficeFull) (eUnknownName : Err K mg "UnknownName" CUnknownName) (eNameTwice : Err K mg "NameTwice" CNameTwice) (eBadValue : Err K mg "BadValue" CBadValue) (eNotWritten : Err K mg "NotWritten" CNotWritten) (eUnknownReader : Err K mg "UnknownReader" CUnknownReader) (eBookFull : Err K mg "BookFull" CBookFull) (eNoSuchDeed : Err K mg "NoSuchDeed" CNoSuchDeed) (eTooManyCourses : Err K mg "TooManyCourses" CTooManyCourses)
  (ers : Errs K CBackError [CBadNames, CBadReach, CBadReaders, COfficeFull, CUnknownName, CNameTwice, CBadValue, CNotWritten, CUnknownReader, CBookFull, CNoSuchDeed, CTooManyCourses])
  (GBook_writeX : MCalX P w K mg base 5 CBook "write" z2e (spOr (z49 K (BkD K CBook COffice)) (z4E K (BkD K CBook COffice) COfficeFull CUnknownName CNameTwice CBadValue CBookFull)))
  (GBook_deliverX : MCalX P w K mg base 5 CBook "deliver" z1C (spOr (z30 (BkD K CBook COffice)) (z3i (BkD K CBook COffice) CNotWritten CUnknownReader CBookFull))) : FnOk P w K mg base CX0 7 f fd z3v (z8M K (BkD K CBook COffice)) := by
 have nd := z5B.nd
 refine F.ok z5B (fun vs H Q E h => ?_) (fun cdv A outer s H vs Q E hr h => ?_)
 ·obtain ⟨th, p, v, two, fp, zs, r, k, rows, log, rfl, _⟩ := h
  rfl
 obtain ⟨th, p, v, two, fp, zs, r, k, rows, log, rfl, bk, cases4⟩ := h
 refine ⟨_, (z04 (z0n (i := 4) nd rfl (Or.inl rfl) (z0R (z00 z3J z01))) (z04 (z0n (i := 5) nd rfl (Or.inl rfl) z3J) (z20 (y3S (i := 6) eBackError rfl nd rfl rfl rfl rfl (fun _ _ => (z04 (z0G (z0a z3Z (pv 0) z0r (z0g _)) (z06 (z0o (z2Z y1x GBook_writeX (rm hr) (pv 1) (z00 (pv 2) z01)))) z0h) (z06 (z0o (z2Z y1x GBook_deliverX (rm hr) (pv 1) (z00 (pv 2) (z00 (pv 3) z01))))))) (fun _ _ => (z04 (z0n (i := 5) nd rfl (Or.inl rfl) (z08 (y1i (K := K) rfl) rfl M.isinstance PyProof.Rows.boot_isinstance (z00 (pv 6) (z00 (z34 (v := .ty "ValueError") rfl M.ValueError y33 rfl) z01)))) (z04 (z0n (i := 4) nd rfl (Or.inl rfl) (z0R (z00 (z08 (z1t (K := K) rfl) rfl M.isinstance PyProof.Rows.boot_isinstance (z00 (pv 6) (z00 (z38 rfl eOfficeFull.mgC) z01))) (z00 (z08 (z1t (K := K) rfl) rfl M.isinstance PyProof.Rows.boot_isinstance (z00 (pv 6) (z00 (z38 rfl eUnknownName.mgC) z01))) (z00 (z08 (z1t (K := K) rfl) rfl M.isinstance PyProof.Rows.boot_isinstance (z00 (pv 6) (z00 (z38 rfl eNameTwice.mgC) z01))) z01))))) (z04 (z0n (i := 4) nd rfl (Or.inl rfl) (z0c z7P (pv 4) (z0R (z00 (z08 (z1t (K := K) rfl) rfl M.isinstance PyProof.Rows.boot_isinstance (z00 (pv 6) (z00 (z38 rfl eBadValue.mgC) z01))) (z00 (z08 (z1t (K := K) rfl) rfl M.isinstance PyProof.Rows.boot_isinstance (z00 (pv 6) (z00 (z38 rfl eNotWritten.mgC) z01))) (z00 (z08 (z1t (K := K) rfl) rfl M.isinstance PyProof.Rows.boot_isinstance (z00 (pv 6) (z00 (z38 rfl eBookFull.mgC) z01))) z01)))))) (z04 (z0n (i := 4) nd rfl (Or.inl rfl) (z0c z7P (pv 4) (z0R (z00 (z08 (z1t (K := K) rfl) rfl M.isinstance PyProof.Rows.boot_isinstance (z00 (pv 6) (z00 (z38 rfl eUnknownReader.mgC) z01))) (z00 (z08 (z1t (K := K) rfl) rfl M.isinstance PyProof.Rows.boot_isinstance (z00 (pv 6) (z00 (z38 rfl eNoSuchDeed.mgC) z01))) z01))))) (z04 (z0n (i := 4) nd rfl (Or.inl rfl) (z0c z7P (pv 4) (z0R (z00 (z08 (z1t (K := K) rfl) rfl M.isinstance PyProof.Rows.boot_isinstance (z00 (pv 6) (z00 (z38 rfl eBadNames.mgC) z01))) (z00 (z08 (z1t (K := K) rfl) rfl M.isinstance PyProof.Rows.boot_isinstance (z00 (pv 6) (z00 (z38 rfl eBadReach.mgC) z01))) (z00 (z08 (z1t (K := K) rfl) rfl M.isinstance PyProof.Rows.boot_isinstance (z00 (pv 6) (z00 (z38 rfl eBadReaders.mgC) z01))) z01)))))) (z06 (z0n (i := 4) nd rfl (Or.inl rfl) (z0c z7P (pv 4) (z0R (z00 (z08 (z1t (K := K) rfl) rfl M.isinstance PyProof.Rows.boot_isinstance (z00 (pv 6) (z00 (z38 rfl eTooManyCourses.mgC) z01))) z01)))))))))))) (z04 (z0G (PW.pt (z2L (z4X (z47 (pv 5))) (z1F (z0a z5I (z2l PySem.F.plainAttrs_list PySem.F.slot_list_count PySem.F.type_list_count z7V (pv 4) (z00 z3J z01)) z05 (z0g _))))) (z06 (z0o y4h)) z0h) (z04 (z0n (i := 7) nd rfl (Or.inl rfl) (z0R (z00 z0r (z00 z0r (z00 z0r (z00 z0r (z00 z0r (z00 z0r z01)))))))) (z04 (z0n (i := 7) nd rfl (Or.inl rfl) (z0c z7P (pv 7) (z0R (z00 z0r (z00 z0r (z00 z0r (z00 z0r (z00 z0r (z00 z0r z01))))))))) (z06 (z0o (z1o (z00 z0r (z00 (z14 z0z (pv 7) (z2l PySem.F.plainAttrs_list PySem.F.slot_list_index PySem.F.type_list_index y12 (pv 4) (z00 z3J z01)) (fun _ _ => rfl)) z01))))))))))), ?_⟩
 refine ⟨(by show 1 ≤ sizeLine; decide), fun lf hlf => ?_⟩
 have s0 := z02 hlf (.lst [V.bl false])
 have bk0 := bkOk.same bk s0
 generalize upd H lf (.lst [V.bl false]) = H0 at s0 bk0
 refine ⟨fun σ G => ∃ (la : Addr) (i : Nat), Same H G /\ i < 8 /\ (∀ (u : V) (H' : Hp), Same H H' -> Tell H' (refD (z6i.getD i "")) u -> Q u H') /\ G la = some (.lst ((List.range 12).map fun j => V.bl (j == i))) /\ σ = [some (.str th), some (.ref p), some v, some two, some (.ref la), some (.bl true), none, none], ?_, ?_⟩
 rotate_left
 ·rintro σ G ⟨la, i, g, hi, q, ea, rfl⟩
  have hi8 : i = 0 \/ i = 1 \/ i = 2 \/ i = 3 \/ i = 4 \/ i = 5 \/ i = 6 \/ i = 7 := by omega
  rcases hi8 with rfl | rfl | rfl | rfl | rfl | rfl | rfl | rfl
  all_goals
   refine ⟨_, rfl, _, rfl, iteF ⟨_, rfl, .inl ⟨rfl, _, SqL.of ea⟩, la, _, _, rfl, rfl, SqL.of ea, rfl, rfl, rfl, _, rfl, y2i rfl ?_⟩⟩
   refine ⟨(by show 6 ≤ sizeLine; decide), fun l1 hl1 => ⟨_, rfl, (by show 6 ≤ sizeLine; decide), fun l2 hl2 => ?_⟩⟩
   have s2 := (z02 hl1 (.lst [V.str "OfficeFull", V.str "UnknownName", V.str "NameTwice", V.str "BadValue", V.str "NotWritten", V.str "BookFull"])).trans (z02 hl2 (.lst [V.str "UnknownReader", V.str "NoSuchDeed", V.str "BadNames", V.str "BadReach", V.str "BadReaders", V.str "TooManyCourses"]))
   refine ⟨l1, l2, _, _, rfl, rfl, z02 hl2 _ _ _ z03, z03, (by show 12 ≤ sizeLine; decide), fun l3 hl3 => ?_⟩
   have s3 := s2.trans (z02 hl3 (.lst (z6i.map V.str)))
   first
    | exact ⟨_, rfl, _, rfl, .inl ⟨rfl, _, SqL.of (s3 _ _ ea)⟩, la, _, _, 0, rfl, rfl, SqL.of (s3 _ _ ea), rfl, rfl, (by decide), rfl, (by decide), l3, _, _, _, rfl, rfl, SqL.of z03, rfl, (by show 2 ≤ sizeLine; decide), fun t ht => q _ _ (g.trans (s3.trans (z02 ht _))) (z0v z03 (by show 2 ≤ 1000000; decide) (.cons (z0x _) (.cons (z0x _) .nil)))⟩
    | exact ⟨_, rfl, _, rfl, .inl ⟨rfl, _, SqL.of (s3 _ _ ea)⟩, la, _, _, 1, rfl, rfl, SqL.of (s3 _ _ ea), rfl, rfl, (by decide), rfl, (by decide), l3, _, _, _, rfl, rfl, SqL.of z03, rfl, (by show 2 ≤ sizeLine; decide), fun t ht => q _ _ (g.trans (s3.trans (z02 ht _))) (z0v z03 (by show 2 ≤ 1000000; decide) (.cons (z0x _) (.cons (z0x _) .nil)))⟩
    | exact ⟨_, rfl, _, rfl, .inl ⟨rfl, _, SqL.of (s3 _ _ ea)⟩, la, _, _, 2, rfl, rfl, SqL.of (s3 _ _ ea), rfl, rfl, (by decide), rfl, (by decide), l3, _, _, _, rfl, rfl, SqL.of z03, rfl, (by show 2 ≤ sizeLine; decide), fun t ht => q _ _ (g.trans (s3.trans (z02 ht _))) (z0v z03 (by show 2 ≤ 1000000; decide) (.cons (z0x _) (.cons (z0x _) .nil)))⟩
    | exact ⟨_, rfl, _, rfl, .inl ⟨rfl, _, SqL.of (s3 _ _ ea)⟩, la, _, _, 3, rfl, rfl, SqL.of (s3 _ _ ea), rfl, rfl, (by decide), rfl, (by decide), l3, _, _, _, rfl, rfl, SqL.of z03, rfl, (by show 2 ≤ sizeLine; decide), fun t ht => q _ _ (g.trans (s3.trans (z02 ht _))) (z0v z03 (by show 2 ≤ 1000000; decide) (.cons (z0x _) (.cons (z0x _) .nil)))⟩
    | exact ⟨_, rfl, _, rfl, .inl ⟨rfl, _, SqL.of (s3 _ _ ea)⟩, la, _, _, 4, rfl, rfl, SqL.of (s3 _ _ ea), rfl, rfl, (by decide), rfl, (by decide), l3, _, _, _, rfl, rfl, SqL.of z03, rfl, (by show 2 ≤ sizeLine; decide), fun t ht => q _ _ (g.trans (s3.trans (z02 ht _))) (z0v z03 (by show 2 ≤ 1000000; decide) (.cons (z0x _) (.cons (z0x _) .nil)))⟩
    | exact ⟨_, rfl, _, rfl, .inl ⟨rfl, _, SqL.of (s3 _ _ ea)⟩, la, _, _, 5, rfl, rfl, SqL.of (s3 _ _ ea), rfl, rfl, (by decide), rfl, (by decide), l3, _, _, _, rfl, rfl, SqL.of z03, rfl, (by show 2 ≤ sizeLine; decide), fun t ht => q _ _ (g.trans (s3.trans (z02 ht _))) (z0v z03 (by show 2 ≤ 1000000; decide) (.cons (z0x _) (.cons (z0x _) .nil)))⟩
    | exact ⟨_, rfl, _, rfl, .inl ⟨rfl, _, SqL.of (s3 _ _ ea)⟩, la, _, _, 6, rfl, rfl, SqL.of (s3 _ _ ea), rfl, rfl, (by decide), rfl, (by decide), l3, _, _, _, rfl, rfl, SqL.of z03, rfl, (by show 2 ≤ sizeLine; decide), fun t ht => q _ _ (g.trans (s3.trans (z02 ht _))) (z0v z03 (by show 2 ≤ 1000000; decide) (.cons (z0x _) (.cons (z0x _) .nil)))⟩
    | exact ⟨_, rfl, _, rfl, .inl ⟨rfl, _, SqL.of (s3 _ _ ea)⟩, la, _, _, 7, rfl, rfl, SqL.of (s3 _ _ ea), rfl, rfl, (by decide), rfl, (by decide), l3, _, _, _, rfl, rfl, SqL.of z03, rfl, (by show 2 ≤ sizeLine; decide), fun t ht => q _ _ (g.trans (s3.trans (z02 ht _))) (z0v z03 (by show 2 ≤ 1000000; decide) (.cons (z0x _) (.cons (z0x _) .nil)))⟩
 refine ⟨fun σ' C H' => ∃ (i : Nat) (C0 : Addr), i < 8 /\ (∀ (u : V) (H' : Hp), Same H H' -> Tell H' (refD (z6i.getD i "")) u -> Q u H') /\ C0 = [COfficeFull, CUnknownName, CNameTwice, CBadValue, CNotWritten, CBookFull, CUnknownReader, CNoSuchDeed].getD i 0 /\ C = .ref C0 /\ Same H H' /\ σ' = [some (.str th), some (.ref p), some v, some two, some (.ref lf), some (.bl true), none, none], ?_, ?_⟩
 rotate_left
 ·rintro σ' C H' ⟨i, C0, hi, hq, hc, rfl, g, rfl⟩
  have mem : C0 ∈ [CBadNames, CBadReach, CBadReaders, COfficeFull, CUnknownName, CNameTwice, CBadValue, CNotWritten, CUnknownReader, CBookFull, CNoSuchDeed, CTooManyCourses] := by
   have hi8 : i = 0 \/ i = 1 \/ i = 2 \/ i = 3 \/ i = 4 \/ i = 5 \/ i = 6 \/ i = 7 := by omega
   rcases hi8 with rfl | rfl | rfl | rfl | rfl | rfl | rfl | rfl <;> (subst hc; simp)
  obtain ⟨un, xc⟩ := ers.one mem
  refine ⟨⟨C0, rfl, un⟩, fun a ha => ?_⟩
  have s1 := g.trans (z02 ha (ExcO a (.ref C0)))
  have ea : upd H' a (ExcO a (.ref C0)) a = some (ExcO a (.ref C0)) := z03
  generalize upd H' a (ExcO a (.ref C0)) = G0 at s1 ea
  refine ⟨_, rfl, a, C0, "ValueError", true, rfl, ea, xc, xc.hv, ?_⟩
  refine ⟨_, rfl, a, C0, COfficeFull, _, rfl, ea, xc, ers.two mem (by simp), _, rfl, a, C0, CUnknownName, _, rfl, ea, xc, ers.two mem (by simp), _, rfl, a, C0, CNameTwice, _, rfl, ea, xc, ers.two mem (by simp), (by show 3 ≤ sizeLine; decide), fun l0 hl0 => ?_⟩
  have t := z02 hl0 (.lst [V.bl (C0 == COfficeFull), V.bl (C0 == CUnknownName), V.bl (C0 == CNameTwice)])
  have e : upd G0 l0 (.lst [V.bl (C0 == COfficeFull), V.bl (C0 == CUnknownName), V.bl (C0 == CNameTwice)]) l0 = _ := z03
  replace ea := t _ _ ea
  replace s1 := s1.trans t
  clear t
  generalize upd G0 l0 (.lst [V.bl (C0 == COfficeFull), V.bl (C0 == CUnknownName), V.bl (C0 == CNameTwice)]) = G1 at s1 e ea hl0 ⊢
  clear hl0
  refine ⟨_, rfl, _, rfl, a, C0, CBadValue, _, rfl, ea, xc, ers.two mem (by simp), _, rfl, a, C0, CNotWritten, _, rfl, ea, xc, ers.two mem (by simp), _, rfl, a, C0, CBookFull, _, rfl, ea, xc, ers.two mem (by simp), (by show 3 ≤ sizeLine; decide), fun l1 hl1 => ?_⟩
  have t := z02 hl1 (.lst [V.bl (C0 == CBadValue), V.bl (C0 == CNotWritten), V.bl (C0 == CBookFull)])
  refine ⟨l0, l1, _, _, rfl, rfl, t _ _ e, z03, (by show 6 ≤ sizeLine; decide), fun m1 hm1 => ?_⟩
  replace t := t.trans (z02 hm1 (.lst ([V.bl (C0 == COfficeFull), V.bl (C0 == CUnknownName), V.bl (C0 == CNameTwice)] ++ [V.bl (C0 == CBadValue), V.bl (C0 == CNotWritten), V.bl (C0 == CBookFull)])))
  replace e : upd (upd G1 l1 (.lst [V.bl (C0 == CBadValue), V.bl (C0 == CNotWritten), V.bl (C0 == CBookFull)])) m1 (.lst ([V.bl (C0 == COfficeFull), V.bl (C0 == CUnknownName), V.bl (C0 == CNameTwice)] ++ [V.bl (C0 == CBadValue), V.bl (C0 == CNotWritten), V.bl (C0 == CBookFull)])) m1 = some (.lst [V.bl (C0 == COfficeFull), V.bl (C0 == CUnknownName), V.bl (C0 == CNameTwice), V.bl (C0 == CBadValue), V.bl (C0 == CNotWritten), V.bl (C0 == CBookFull)]) := z03
  replace ea := t _ _ ea
  replace s1 := s1.trans t
  clear t
  generalize upd (upd G1 l1 (.lst [V.bl (C0 == CBadValue), V.bl (C0 == CNotWritten), V.bl (C0 == CBookFull)])) m1 (.lst ([V.bl (C0 == COfficeFull), V.bl (C0 == CUnknownName), V.bl (C0 == CNameTwice)] ++ [V.bl (C0 == CBadValue), V.bl (C0 == CNotWritten), V.bl (C0 == CBookFull)])) = G2 at s1 e ea ⊢
  clear hm1 hl1
  refine ⟨_, rfl, _, rfl, a, C0, CUnknownReader, _, rfl, ea, xc, ers.two mem (by simp), _, rfl, a, C0, CNoSuchDeed, _, rfl, ea, xc, ers.two mem (by simp), (by show 2 ≤ sizeLine; decide), fun l2 hl2 => ?_⟩
  have t := z02 hl2 (.lst [V.bl (C0 == CUnknownReader), V.bl (C0 == CNoSuchDeed)])
  refine ⟨m1, l2, _, _, rfl, rfl, t _ _ e, z03, (by show 8 ≤ sizeLine; decide), fun m2 hm2 => ?_⟩
  replace t := t.trans (z02 hm2 (.lst ([V.bl (C0 == COfficeFull), V.bl (C0 == CUnknownName), V.bl (C0 == CNameTwice), V.bl (C0 == CBadValue), V.bl (C0 == CNotWritten), V.bl (C0 == CBookFull)] ++ [V.bl (C0 == CUnknownReader), V.bl (C0 == CNoSuchDeed)])))
  replace e : upd (upd G2 l2 (.lst [V.bl (C0 == CUnknownReader), V.bl (C0 == CNoSuchDeed)])) m2 (.lst ([V.bl (C0 == COfficeFull), V.bl (C0 == CUnknownName), V.bl (C0 == CNameTwice), V.bl (C0 == CBadValue), V.bl (C0 == CNotWritten), V.bl (C0 == CBookFull)] ++ [V.bl (C0 == CUnknownReader), V.bl (C0 == CNoSuchDeed)])) m2 = some (.lst [V.bl (C0 == COfficeFull), V.bl (C0 == CUnknownName), V.bl (C0 == CNameTwice), V.bl (C0 == CBadValue), V.bl (C0 == CNotWritten), V.bl (C0 == CBookFull), V.bl (C0 == CUnknownReader), V.bl (C0 == CNoSuchDeed)]) := z03
  replace ea := t _ _ ea
  replace s1 := s1.trans t
  clear t
  generalize upd (upd G2 l2 (.lst [V.bl (C0 == CUnknownReader), V.bl (C0 == CNoSuchDeed)])) m2 (.lst ([V.bl (C0 == COfficeFull), V.bl (C0 == CUnknownName), V.bl (C0 == CNameTwice), V.bl (C0 == CBadValue), V.bl (C0 == CNotWritten), V.bl (C0 == CBookFull)] ++ [V.bl (C0 == CUnknownReader), V.bl (C0 == CNoSuchDeed)])) = G3 at s1 e ea ⊢
  clear hm2 hl2
  refine ⟨_, rfl, _, rfl, a, C0, CBadNames, _, rfl, ea, xc, ers.two mem (by simp), _, rfl, a, C0, CBadReach, _, rfl, ea, xc, ers.two mem (by simp), _, rfl, a, C0, CBadReaders, _, rfl, ea, xc, ers.two mem (by simp), (by show 3 ≤ sizeLine; decide), fun l3 hl3 => ?_⟩
  have t := z02 hl3 (.lst [V.bl (C0 == CBadNames), V.bl (C0 == CBadReach), V.bl (C0 == CBadReaders)])
  refine ⟨m2, l3, _, _, rfl, rfl, t _ _ e, z03, (by show 11 ≤ sizeLine; decide), fun m3 hm3 => ?_⟩
  replace t := t.trans (z02 hm3 (.lst ([V.bl (C0 == COfficeFull), V.bl (C0 == CUnknownName), V.bl (C0 == CNameTwice), V.bl (C0 == CBadValue), V.bl (C0 == CNotWritten), V.bl (C0 == CBookFull), V.bl (C0 == CUnknownReader), V.bl (C0 == CNoSuchDeed)] ++ [V.bl (C0 == CBadNames), V.bl (C0 == CBadReach), V.bl (C0 == CBadReaders)])))
  replace e : upd (upd G3 l3 (.lst [V.bl (C0 == CBadNames), V.bl (C0 == CBadReach), V.bl (C0 == CBadReaders)])) m3 (.lst ([V.bl (C0 == COfficeFull), V.bl (C0 == CUnknownName), V.bl (C0 == CNameTwice), V.bl (C0 == CBadValue), V.bl (C0 == CNotWritten), V.bl (C0 == CBookFull), V.bl (C0 == CUnknownReader), V.bl (C0 == CNoSuchDeed)] ++ [V.bl (C0 == CBadNames), V.bl (C0 == CBadReach), V.bl (C0 == CBadReaders)])) m3 = some (.lst [V.bl (C0 == COfficeFull), V.bl (C0 == CUnknownName), V.bl (C0 == CNameTwice), V.bl (C0 == CBadValue), V.bl (C0 == CNotWritten), V.bl (C0 == CBookFull), V.bl (C0 == CUnknownReader), V.bl (C0 == CNoSuchDeed), V.bl (C0 == CBadNames), V.bl (C0 == CBadReach), V.bl (C0 == CBadReaders)]) := z03
  replace ea := t _ _ ea
  replace s1 := s1.trans t
  clear t
  generalize upd (upd G3 l3 (.lst [V.bl (C0 == CBadNames), V.bl (C0 == CBadReach), V.bl (C0 == CBadReaders)])) m3 (.lst ([V.bl (C0 == COfficeFull), V.bl (C0 == CUnknownName), V.bl (C0 == CNameTwice), V.bl (C0 == CBadValue), V.bl (C0 == CNotWritten), V.bl (C0 == CBookFull), V.bl (C0 == CUnknownReader), V.bl (C0 == CNoSuchDeed)] ++ [V.bl (C0 == CBadNames), V.bl (C0 == CBadReach), V.bl (C0 == CBadReaders)])) = G4 at s1 e ea ⊢
  clear hm3 hl3
  refine ⟨_, rfl, _, rfl, a, C0, CTooManyCourses, _, rfl, ea, xc, ers.two mem (by simp), (by show 1 ≤ sizeLine; decide), fun l4 hl4 => ?_⟩
  have t := z02 hl4 (.lst [V.bl (C0 == CTooManyCourses)])
  refine ⟨m3, l4, _, _, rfl, rfl, t _ _ e, z03, (by show 12 ≤ sizeLine; decide), fun m4 hm4 => ?_⟩
  refine ⟨m4, i, s1.trans (t.trans (z02 hm4 _)), hi, hq, ?_, rfl⟩
  rw [z03]
  have ne : ∀ (i j : Nat) (hi : i < 12) (hj : j < 12), i ≠ j -> ([CBadNames, CBadReach, CBadReaders, COfficeFull, CUnknownName, CNameTwice, CBadValue, CNotWritten, CUnknownReader, CBookFull, CNoSuchDeed, CTooManyCourses][i]'hi == [CBadNames, CBadReach, CBadReaders, COfficeFull, CUnknownName, CNameTwice, CBadValue, CNotWritten, CUnknownReader, CBookFull, CNoSuchDeed, CTooManyCourses][j]'hj) = false := fun i j hi hj h => beq_false_of_ne ((Nat.lt_or_gt_of_ne h).elim (fun l => List.pairwise_iff_getElem.mp ers.nd i j hi hj l) fun l => (List.pairwise_iff_getElem.mp ers.nd j i hj hi l).symm)
  have hi8 : i = 0 \/ i = 1 \/ i = 2 \/ i = 3 \/ i = 4 \/ i = 5 \/ i = 6 \/ i = 7 := by omega
  rcases hi8 with rfl | rfl | rfl | rfl | rfl | rfl | rfl | rfl
  ·rw [show C0 = COfficeFull from hc]
   show some (HO.lst [V.bl (COfficeFull == COfficeFull), V.bl (COfficeFull == CUnknownName), V.bl (COfficeFull == CNameTwice), V.bl (COfficeFull == CBadValue), V.bl (COfficeFull == CNotWritten), V.bl (COfficeFull == CBookFull), V.bl (COfficeFull == CUnknownReader), V.bl (COfficeFull == CNoSuchDeed), V.bl (COfficeFull == CBadNames), V.bl (COfficeFull == CBadReach), V.bl (COfficeFull == CBadReaders), V.bl (COfficeFull == CTooManyCourses)]) = some (HO.lst [V.bl true, V.bl false, V.bl false, V.bl false, V.bl false, V.bl false, V.bl false, V.bl false, V.bl false, V.bl false, V.bl false, V.bl false])
   rw [beq_self_eq_true, show (COfficeFull == CUnknownName) = false from ne 3 4 (by decide) (by decide) (by decide), show (COfficeFull == CNameTwice) = false from ne 3 5 (by decide) (by decide) (by decide), show (COfficeFull == CBadValue) = false from ne 3 6 (by decide) (by decide) (by decide), show (COfficeFull == CNotWritten) = false from ne 3 7 (by decide) (by decide) (by decide), show (COfficeFull == CBookFull) = false from ne 3 9 (by decide) (by decide) (by decide), show (COfficeFull == CUnknownReader) = false from ne 3 8 (by decide) (by decide) (by decide), show (COfficeFull == CNoSuchDeed) = false from ne 3 10 (by decide) (by decide) (by decide), show (COfficeFull == CBadNames) = false from ne 3 0 (by decide) (by decide) (by decide), show (COfficeFull == CBadReach) = false from ne 3 1 (by decide) (by decide) (by decide), show (COfficeFull == CBadReaders) = false from ne 3 2 (by decide) (by decide) (by decide), show (COfficeFull == CTooManyCourses) = false from ne 3 11 (by decide) (by decide) (by decide)]
  ·rw [show C0 = CUnknownName from hc]
   show some (HO.lst [V.bl (CUnknownName == COfficeFull), V.bl (CUnknownName == CUnknownName), V.bl (CUnknownName == CNameTwice), V.bl (CUnknownName == CBadValue), V.bl (CUnknownName == CNotWritten), V.bl (CUnknownName == CBookFull), V.bl (CUnknownName == CUnknownReader), V.bl (CUnknownName == CNoSuchDeed), V.bl (CUnknownName == CBadNames), V.bl (CUnknownName == CBadReach), V.bl (CUnknownName == CBadReaders), V.bl (CUnknownName == CTooManyCourses)]) = some (HO.lst [V.bl false, V.bl true, V.bl false, V.bl false, V.bl false, V.bl false, V.bl false, V.bl false, V.bl false, V.bl false, V.bl false, V.bl false])
   rw [beq_self_eq_true, show (CUnknownName == COfficeFull) = false from ne 4 3 (by decide) (by decide) (by decide), show (CUnknownName == CNameTwice) = false from ne 4 5 (by decide) (by decide) (by decide), show (CUnknownName == CBadValue) = false from ne 4 6 (by decide) (by decide) (by decide), show (CUnknownName == CNotWritten) = false from ne 4 7 (by decide) (by decide) (by decide), show (CUnknownName == CBookFull) = false from ne 4 9 (by decide) (by decide) (by decide), show (CUnknownName == CUnknownReader) = false from ne 4 8 (by decide) (by decide) (by decide), show (CUnknownName == CNoSuchDeed) = false from ne 4 10 (by decide) (by decide) (by decide), show (CUnknownName == CBadNames) = false from ne 4 0 (by decide) (by decide) (by decide), show (CUnknownName == CBadReach) = false from ne 4 1 (by decide) (by decide) (by decide), show (CUnknownName == CBadReaders) = false from ne 4 2 (by decide) (by decide) (by decide), show (CUnknownName == CTooManyCourses) = false from ne 4 11 (by decide) (by decide) (by decide)]
  ·rw [show C0 = CNameTwice from hc]
   show some (HO.lst [V.bl (CNameTwice == COfficeFull), V.bl (CNameTwice == CUnknownName), V.bl (CNameTwice == CNameTwice), V.bl (CNameTwice == CBadValue), V.bl (CNameTwice == CNotWritten), V.bl (CNameTwice == CBookFull), V.bl (CNameTwice == CUnknownReader), V.bl (CNameTwice == CNoSuchDeed), V.bl (CNameTwice == CBadNames), V.bl (CNameTwice == CBadReach), V.bl (CNameTwice == CBadReaders), V.bl (CNameTwice == CTooManyCourses)]) = some (HO.lst [V.bl false, V.bl false, V.bl true, V.bl false, V.bl false, V.bl false, V.bl false, V.bl false, V.bl false, V.bl false, V.bl false, V.bl false])
   rw [beq_self_eq_true, show (CNameTwice == COfficeFull) = false from ne 5 3 (by decide) (by decide) (by decide), show (CNameTwice == CUnknownName) = false from ne 5 4 (by decide) (by decide) (by decide), show (CNameTwice == CBadValue) = false from ne 5 6 (by decide) (by decide) (by decide), show (CNameTwice == CNotWritten) = false from ne 5 7 (by decide) (by decide) (by decide), show (CNameTwice == CBookFull) = false from ne 5 9 (by decide) (by decide) (by decide), show (CNameTwice == CUnknownReader) = false from ne 5 8 (by decide) (by decide) (by decide), show (CNameTwice == CNoSuchDeed) = false from ne 5 10 (by decide) (by decide) (by decide), show (CNameTwice == CBadNames) = false from ne 5 0 (by decide) (by decide) (by decide), show (CNameTwice == CBadReach) = false from ne 5 1 (by decide) (by decide) (by decide), show (CNameTwice == CBadReaders) = false from ne 5 2 (by decide) (by decide) (by decide), show (CNameTwice == CTooManyCourses) = false from ne 5 11 (by decide) (by decide) (by decide)]
  ·rw [show C0 = CBadValue from hc]
   show some (HO.lst [V.bl (CBadValue == COfficeFull), V.bl (CBadValue == CUnknownName), V.bl (CBadValue == CNameTwice), V.bl (CBadValue == CBadValue), V.bl (CBadValue == CNotWritten), V.bl (CBadValue == CBookFull), V.bl (CBadValue == CUnknownReader), V.bl (CBadValue == CNoSuchDeed), V.bl (CBadValue == CBadNames), V.bl (CBadValue == CBadReach), V.bl (CBadValue == CBadReaders), V.bl (CBadValue == CTooManyCourses)]) = some (HO.lst [V.bl false, V.bl false, V.bl false, V.bl true, V.bl false, V.bl false, V.bl false, V.bl false, V.bl false, V.bl false, V.bl false, V.bl false])
   rw [beq_self_eq_true, show (CBadValue == COfficeFull) = false from ne 6 3 (by decide) (by decide) (by decide), show (CBadValue == CUnknownName) = false from ne 6 4 (by decide) (by decide) (by decide), show (CBadValue == CNameTwice) = false from ne 6 5 (by decide) (by decide) (by decide), show (CBadValue == CNotWritten) = false from ne 6 7 (by decide) (by decide) (by decide), show (CBadValue == CBookFull) = false from ne 6 9 (by decide) (by decide) (by decide), show (CBadValue == CUnknownReader) = false from ne 6 8 (by decide) (by decide) (by decide), show (CBadValue == CNoSuchDeed) = false from ne 6 10 (by decide) (by decide) (by decide), show (CBadValue == CBadNames) = false from ne 6 0 (by decide) (by decide) (by decide), show (CBadValue == CBadReach) = false from ne 6 1 (by decide) (by decide) (by decide), show (CBadValue == CBadReaders) = false from ne 6 2 (by decide) (by decide) (by decide), show (CBadValue == CTooManyCourses) = false from ne 6 11 (by decide) (by decide) (by decide)]
  ·rw [show C0 = CNotWritten from hc]
   show some (HO.lst [V.bl (CNotWritten == COfficeFull), V.bl (CNotWritten == CUnknownName), V.bl (CNotWritten == CNameTwice), V.bl (CNotWritten == CBadValue), V.bl (CNotWritten == CNotWritten), V.bl (CNotWritten == CBookFull), V.bl (CNotWritten == CUnknownReader), V.bl (CNotWritten == CNoSuchDeed), V.bl (CNotWritten == CBadNames), V.bl (CNotWritten == CBadReach), V.bl (CNotWritten == CBadReaders), V.bl (CNotWritten == CTooManyCourses)]) = some (HO.lst [V.bl false, V.bl false, V.bl false, V.bl false, V.bl true, V.bl false, V.bl false, V.bl false, V.bl false, V.bl false, V.bl false, V.bl false])
   rw [beq_self_eq_true, show (CNotWritten == COfficeFull) = false from ne 7 3 (by decide) (by decide) (by decide), show (CNotWritten == CUnknownName) = false from ne 7 4 (by decide) (by decide) (by decide), show (CNotWritten == CNameTwice) = false from ne 7 5 (by decide) (by decide) (by decide), show (CNotWritten == CBadValue) = false from ne 7 6 (by decide) (by decide) (by decide), show (CNotWritten == CBookFull) = false from ne 7 9 (by decide) (by decide) (by decide), show (CNotWritten == CUnknownReader) = false from ne 7 8 (by decide) (by decide) (by decide), show (CNotWritten == CNoSuchDeed) = false from ne 7 10 (by decide) (by decide) (by decide), show (CNotWritten == CBadNames) = false from ne 7 0 (by decide) (by decide) (by decide), show (CNotWritten == CBadReach) = false from ne 7 1 (by decide) (by decide) (by decide), show (CNotWritten == CBadReaders) = false from ne 7 2 (by decide) (by decide) (by decide), show (CNotWritten == CTooManyCourses) = false from ne 7 11 (by decide) (by decide) (by decide)]
  ·rw [show C0 = CBookFull from hc]
   show some (HO.lst [V.bl (CBookFull == COfficeFull), V.bl (CBookFull == CUnknownName), V.bl (CBookFull == CNameTwice), V.bl (CBookFull == CBadValue), V.bl (CBookFull == CNotWritten), V.bl (CBookFull == CBookFull), V.bl (CBookFull == CUnknownReader), V.bl (CBookFull == CNoSuchDeed), V.bl (CBookFull == CBadNames), V.bl (CBookFull == CBadReach), V.bl (CBookFull == CBadReaders), V.bl (CBookFull == CTooManyCourses)]) = some (HO.lst [V.bl false, V.bl false, V.bl false, V.bl false, V.bl false, V.bl true, V.bl false, V.bl false, V.bl false, V.bl false, V.bl false, V.bl false])
   rw [beq_self_eq_true, show (CBookFull == COfficeFull) = false from ne 9 3 (by decide) (by decide) (by decide), show (CBookFull == CUnknownName) = false from ne 9 4 (by decide) (by decide) (by decide), show (CBookFull == CNameTwice) = false from ne 9 5 (by decide) (by decide) (by decide), show (CBookFull == CBadValue) = false from ne 9 6 (by decide) (by decide) (by decide), show (CBookFull == CNotWritten) = false from ne 9 7 (by decide) (by decide) (by decide), show (CBookFull == CUnknownReader) = false from ne 9 8 (by decide) (by decide) (by decide), show (CBookFull == CNoSuchDeed) = false from ne 9 10 (by decide) (by decide) (by decide), show (CBookFull == CBadNames) = false from ne 9 0 (by decide) (by decide) (by decide), show (CBookFull == CBadReach) = false from ne 9 1 (by decide) (by decide) (by decide), show (CBookFull == CBadReaders) = false from ne 9 2 (by decide) (by decide) (by decide), show (CBookFull == CTooManyCourses) = false from ne 9 11 (by decide) (by decide) (by decide)]
  ·rw [show C0 = CUnknownReader from hc]
   show some (HO.lst [V.bl (CUnknownReader == COfficeFull), V.bl (CUnknownReader == CUnknownName), V.bl (CUnknownReader == CNameTwice), V.bl (CUnknownReader == CBadValue), V.bl (CUnknownReader == CNotWritten), V.bl (CUnknownReader == CBookFull), V.bl (CUnknownReader == CUnknownReader), V.bl (CUnknownReader == CNoSuchDeed), V.bl (CUnknownReader == CBadNames), V.bl (CUnknownReader == CBadReach), V.bl (CUnknownReader == CBadReaders), V.bl (CUnknownReader == CTooManyCourses)]) = some (HO.lst [V.bl false, V.bl false, V.bl false, V.bl false, V.bl false, V.bl false, V.bl true, V.bl false, V.bl false, V.bl false, V.bl false, V.bl false])
   rw [beq_self_eq_true, show (CUnknownReader == COfficeFull) = false from ne 8 3 (by decide) (by decide) (by decide), show (CUnknownReader == CUnknownName) = false from ne 8 4 (by decide) (by decide) (by decide), show (CUnknownReader == CNameTwice) = false from ne 8 5 (by decide) (by decide) (by decide), show (CUnknownReader == CBadValue) = false from ne 8 6 (by decide) (by decide) (by decide), show (CUnknownReader == CNotWritten) = false from ne 8 7 (by decide) (by decide) (by decide), show (CUnknownReader == CBookFull) = false from ne 8 9 (by decide) (by decide) (by decide), show (CUnknownReader == CNoSuchDeed) = false from ne 8 10 (by decide) (by decide) (by decide), show (CUnknownReader == CBadNames) = false from ne 8 0 (by decide) (by decide) (by decide), show (CUnknownReader == CBadReach) = false from ne 8 1 (by decide) (by decide) (by decide), show (CUnknownReader == CBadReaders) = false from ne 8 2 (by decide) (by decide) (by decide), show (CUnknownReader == CTooManyCourses) = false from ne 8 11 (by decide) (by decide) (by decide)]
  ·rw [show C0 = CNoSuchDeed from hc]
   show some (HO.lst [V.bl (CNoSuchDeed == COfficeFull), V.bl (CNoSuchDeed == CUnknownName), V.bl (CNoSuchDeed == CNameTwice), V.bl (CNoSuchDeed == CBadValue), V.bl (CNoSuchDeed == CNotWritten), V.bl (CNoSuchDeed == CBookFull), V.bl (CNoSuchDeed == CUnknownReader), V.bl (CNoSuchDeed == CNoSuchDeed), V.bl (CNoSuchDeed == CBadNames), V.bl (CNoSuchDeed == CBadReach), V.bl (CNoSuchDeed == CBadReaders), V.bl (CNoSuchDeed == CTooManyCourses)]) = some (HO.lst [V.bl false, V.bl false, V.bl false, V.bl false, V.bl false, V.bl false, V.bl false, V.bl true, V.bl false, V.bl false, V.bl false, V.bl false])
   rw [beq_self_eq_true, show (CNoSuchDeed == COfficeFull) = false from ne 10 3 (by decide) (by decide) (by decide), show (CNoSuchDeed == CUnknownName) = false from ne 10 4 (by decide) (by decide) (by decide), show (CNoSuchDeed == CNameTwice) = false from ne 10 5 (by decide) (by decide) (by decide), show (CNoSuchDeed == CBadValue) = false from ne 10 6 (by decide) (by decide) (by decide), show (CNoSuchDeed == CNotWritten) = false from ne 10 7 (by decide) (by decide) (by decide), show (CNoSuchDeed == CBookFull) = false from ne 10 9 (by decide) (by decide) (by decide), show (CNoSuchDeed == CUnknownReader) = false from ne 10 8 (by decide) (by decide) (by decide), show (CNoSuchDeed == CBadNames) = false from ne 10 0 (by decide) (by decide) (by decide), show (CNoSuchDeed == CBadReach) = false from ne 10 1 (by decide) (by decide) (by decide), show (CNoSuchDeed == CBadReaders) = false from ne 10 2 (by decide) (by decide) (by decide), show (CNoSuchDeed == CTooManyCourses) = false from ne 10 11 (by decide) (by decide) (by decide)]
 obtain ⟨d1, g1, z1, w1⟩ := bkOk.ins bk0
 rcases cases4 with ⟨rfl, pr, hd, gr, l12, l60, l4, q⟩ | ⟨rfl, a, us, pr, i, rfl, ha, hp, l100, hlow, du, q⟩ | ⟨rfl, rd, n, rfl, rfl, r1, r2, n1, n2, l4, q⟩ | ⟨rfl, rd, n, i, rfl, rfl, du, q⟩
 ·refine ⟨_, rfl, rfl, _, rfl, ite2 (fun _ => ?_) (fun n => absurd (decide_eq_true rfl) n)⟩
  obtain ⟨a, us, rfl, ha, na, hp⟩ := hd
  refine ⟨_, rfl, p, d1, g1, rfl, z1, w1 _ (by simp), _, rfl, .inl ⟨p, .ref a, fp, zs, r, k, rows, log, pr, rfl, bk0, ⟨a, us, rfl, SqP.keep s0 ha, na, L2.Paired.mapP hp fun u x ⟨b, e, q, n⟩ => ⟨b, e, q.imp (fun z => s0.seq z) fun z => z4z s0 z, n⟩⟩, gr, l12, l60, l4, fun fp' H' h1 h2 of' => q fp' H' (fun b hb => (h1 b hb).imp id fun e => s0.free e) (fun b o e n => h2 b o (s0 _ _ e) n) of'⟩⟩
 ·refine ⟨_, rfl, rfl, _, rfl, ite2 (fun _ => ?_) (fun n => absurd (decide_eq_true rfl) n)⟩
  refine ⟨_, rfl, p, d1, g1, rfl, z1, w1 _ (by simp), _, rfl, .inr ?_⟩
  have thr : ∀ C0, (RefW COfficeFull CUnknownName CNameTwice CBadValue zs rows pr C0 \/ (rows.length < 60 /\ GoodR zs pr /\ pr.length ≤ 12 /\ 400 ≤ log.length /\ C0 = CBookFull)) -> i < 8 -> C0 = [COfficeFull, CUnknownName, CNameTwice, CBadValue, CNotWritten, CBookFull, CUnknownReader, CNoSuchDeed].getD i 0 -> z4E K (BkD K CBook COffice) COfficeFull CUnknownName CNameTwice CBadValue CBookFull [.ref p, .ref a] H0 Q fun C _ H' => ∃ (i : Nat) (C0 : Addr), i < 8 /\ (∀ (u : V) (H' : Hp), Same H H' -> Tell H' (refD (z6i.getD i "")) u -> Q u H') /\ C0 = [COfficeFull, CUnknownName, CNameTwice, CBadValue, CNotWritten, CBookFull, CUnknownReader, CNoSuchDeed].getD i 0 /\ C = .ref C0 /\ Same H H' /\ [some (V.str "write"), some (.ref p), some (.ref a), some two, some (.ref lf), some (.bl true), none, none] = [some (V.str "write"), some (.ref p), some (.ref a), some two, some (.ref lf), some (.bl true), none, none] := fun C0 rf hi hc =>
   ⟨p, a, fp, zs, r, k, rows, log, us, pr, C0, rfl, bk0, SqP.keep s0 ha, z1i.keep s0 hp, l100, hlow, rf, fun H' s' => ⟨i, C0, hi, q, hc, rfl, s0.trans s', rfl⟩⟩
  rcases du with (⟨h60, rfl⟩ | ⟨h60, ⟨h, rfl⟩ | ⟨h1, h2, rfl⟩ | ⟨h1, h2, h3, rfl⟩⟩) | ⟨h60, h1, h2, h3, rfl⟩
  ·exact thr _ (.inl (.inl ⟨h60, rfl⟩)) (by decide) rfl
  ·exact thr _ (.inl (.inr ⟨h60, .inl ⟨h, rfl⟩⟩)) (by decide) rfl
  ·exact thr _ (.inl (.inr ⟨h60, .inr (.inl ⟨h1, h2, rfl⟩)⟩)) (by decide) rfl
  ·exact thr _ (.inl (.inr ⟨h60, .inr (.inr ⟨h1, h2, h3, rfl⟩)⟩)) (by decide) rfl
  ·exact thr _ (.inr ⟨h60, h1, h2, h3, rfl⟩) (by decide) rfl
 ·refine ⟨_, rfl, rfl, _, rfl, ite2 (fun q => absurd (z11 q) (by decide +kernel)) fun _ => ?_⟩
  exact ⟨_, rfl, p, d1, g1, rfl, z1, w1 _ (by simp), _, rfl, _, rfl, .inl ⟨p, fp, zs, r, k, rows, log, rd, n, rfl, bk0, r1, r2, n1, n2, l4, fun H' h2 b' => q H' (fun b o e n => h2 b o (s0 _ _ e) n) b'⟩⟩
 ·refine ⟨_, rfl, rfl, _, rfl, ite2 (fun q => absurd (z11 q) (by decide +kernel)) fun _ => ?_⟩
  refine ⟨_, rfl, p, d1, g1, rfl, z1, w1 _ (by simp), _, rfl, _, rfl, .inr ?_⟩
  have thr : ∀ C0, RefD CNotWritten CUnknownReader CBookFull rows log k rd n C0 -> i < 8 -> C0 = [COfficeFull, CUnknownName, CNameTwice, CBadValue, CNotWritten, CBookFull, CUnknownReader, CNoSuchDeed].getD i 0 -> z3i (BkD K CBook COffice) CNotWritten CUnknownReader CBookFull [.ref p, .int rd, .int n] H0 Q fun C _ H' => ∃ (i : Nat) (C0 : Addr), i < 8 /\ (∀ (u : V) (H' : Hp), Same H H' -> Tell H' (refD (z6i.getD i "")) u -> Q u H') /\ C0 = [COfficeFull, CUnknownName, CNameTwice, CBadValue, CNotWritten, CBookFull, CUnknownReader, CNoSuchDeed].getD i 0 /\ C = .ref C0 /\ Same H H' /\ [some (V.str "deliver"), some (.ref p), some (.int rd), some (.int n), some (.ref lf), some (.bl true), none, none] = [some (V.str "deliver"), some (.ref p), some (.int rd), some (.int n), some (.ref lf), some (.bl true), none, none] := fun C0 rf hi hc =>
   ⟨p, fp, zs, r, k, rows, log, rd, n, C0, rfl, bk0, rf, fun H' s' => ⟨i, C0, hi, q, hc, rfl, s0.trans s', rfl⟩⟩
  rcases du with ⟨hn, rfl⟩ | ⟨n1, n2, ⟨h, rfl⟩ | ⟨h1, h2, h3, rfl⟩⟩
  ·exact thr _ (.inl ⟨hn, rfl⟩) (by decide) rfl
  ·exact thr _ (.inr ⟨n1, n2, .inl ⟨h, rfl⟩⟩) (by decide) rfl
  ·exact thr _ (.inr ⟨n1, n2, .inr ⟨h1, h2, h3, rfl⟩⟩) (by decide) rfl
def z5U (n : Nat) : List Deed := (upI 1 n).map fun k => (none, k)
theorem z6F (i : Nat) : z5U (i + 1) = z5U i ++ [(none, 1 + (i : Int))] := by
 unfold z5U
 rw [z5n, List.map_append]
 rfl
def y2X (Bk : BkP) : Sp := fun vs H Q _ => ∃ (x : Addr) (fp : List Addr) (nm : List Str) (r k : Int) (m : Nat) (full c : Int), vs = [.ref x, .int m, .int k, .int full, .int c] /\ Bk H x fp nm r k [] [] /\ m ≤ 60 /\ 1 ≤ k /\ k ≤ 10 /\ m ≤ full /\ full ≤ 400 /\
 ∀ (fp' : List Addr) (l : Addr) (us : List V) (log : List Deed) (H' : Hp), (∀ b ∈ fp', b ∈ fp \/ H b = none) -> z0f fp H H' -> H l = none -> l ∉ fp' -> H' l = some (.lst us) -> Paired (z1p H') us log -> log.length ≤ 400 -> (∀ d ∈ log, 1 ≤ d.2 /\ d.2 ≤ 60) -> Bk H' x fp' nm r k (List.replicate m []) log -> Q (.ref l) H'
theorem y2n (M : Bl mg) (F : Fun K "_law_filled_up" "_law_filled_up" z2b f fd) {CBook : Addr} {Bk : BkP} (O : BkOk CBook ["write", "deliver", "latest", "issue", "deeds", "deed", "shelf"] Bk) (G_law_row : Cal P w K mg base 1 "_law_row" z5u y47)
  (GBook_write : MCal P w K mg base 8 CBook "write" z2e (z49 K Bk)) (GBook_deliver : MCal P w K mg base 8 CBook "deliver" z1C (z30 Bk)) : FnOk P w K mg base CX0 9 f fd z2i (y2X Bk) := by
 have nd := z3a.nd
 refine F.ok z3a (fun vs H Q E h => ?_) (fun cdv A outer s H vs Q E hr h => ?_)
 ·obtain ⟨x, fp, nm, r, k, m, full, c, rfl, _⟩ := h
  rfl
 obtain ⟨x, fp, nm, r, k, m, full, c, rfl, bk0, m60, k1, k10, mf, f400, q⟩ := h
 refine ⟨_, (z04 (z4J (i := 5) ["_law_k"] [] [] rfl nd rfl (Or.inl rfl) (z0E rfl (by decide +kernel) rfl (by decide +kernel) rfl rfl) (z1X rfl M.range (z00 (pv 1) z01)) (fun _ _ _ _ _ => (z0u (i := 0) (show ((["_law_k"] : List PySem.Str) ++ ([] : List PySem.Str)).Nodup from by decide +kernel) rfl (Or.inl rfl))) (z0M (by decide)) z0q (fun _ _ _ _ _ => z22) (fun _ _ _ _ _ => (z1o (z00 z0r (z00 (z0c z13 (pv 0) z05) z01))))) (z04 (z2E PassesOwn.never rfl (z1X rfl M.range (z00 (pv 1) z01)) (z0u (i := 6) nd rfl (Or.inl rfl)) (z06 (z0p (z1x GBook_write (rm hr) (pv 0) (z00 (z0R z01) z01))))) (z04 (z0G (z0a z2f (pv 1) z05 (z0g _)) (z06 (z2E PassesOwn.never rfl (z21 (z0t G_law_row (rm hr) rfl (z00 (pv 4) (z00 (z0c z2J (pv 3) (pv 1)) (z00 (z0c z4b (pv 2) (pv 1)) z01))))) (z0u (i := 7) nd rfl (Or.inl rfl)) (z04 (z0p (z2l PySem.F.plainAttrs_list PySem.F.slot_list_append PySem.F.type_list_append z0I (pv 5) (z00 (z1o (z00 z0r (z00 (z0c z13 z05 (z0c z0w (pv 7) (pv 2))) (z00 (z0c z13 z05 (z0c z0D (pv 7) (pv 2))) z01)))) z01))) (z06 (z0p (z1x GBook_deliver (rm hr) (pv 0) (z00 (z0c z13 z05 (z0c z0w (pv 7) (pv 2))) (z00 (z0c z13 z05 (z0c z0D (pv 7) (pv 2))) z01)))))))) z0h) (z06 (z0o (pv 5)))))), ?_⟩
 refine ⟨_, rfl, _, rfl, by omega, by omega, ?_⟩
 refine z6m (lo := 0) (n := ((m : Nat) : Int).toNat) (fun i ys H' => Same H H' /\ Paired (z1p H') ys (z5U i)) ⟨Same.refl _, .nil⟩ (fun i ys H' hi hp => ?_) (fun i ys H' hi hp => ?_) (fun ys H' hp => ?_)
 ·obtain ⟨g, p⟩ := hp
  have := z0Y p
  unfold z5U at this
  rw [List.length_map, z0P] at this
  exact z0k (by omega)
 ·obtain ⟨g, p⟩ := hp
  refine ⟨_, rfl, _, _, rfl, rfl, (by show 2 ≤ sizeLine; decide), fun t ht => ⟨g.trans (z02 ht _), ?_⟩⟩
  rw [z6F]
  refine Paired.snoc (DeedsAt.keep (z02 ht _) p) ⟨t, rfl, ?_⟩
  rw [z03]
  show some (HO.tup [V.str "write", V.int (0 + (i : Int) + 1)]) = some (HO.tup [V.str "write", V.int (1 + (i : Int))])
  rw [Int.zero_add, Int.add_comm]
 obtain ⟨g, p⟩ := hp
 intro l hl
 have nl : H l = none := g.free hl
 have s1 := g.trans (z02 hl (.lst ys))
 have e1 : upd H' l (.lst ys) l = some (.lst ys) := z03
 have p1 := DeedsAt.keep (z02 hl (.lst ys)) p
 generalize upd H' l (.lst ys) = H1 at s1 e1 p1
 rw [show ((m : Nat) : Int).toNat = m from rfl] at p1
 have ln0 : ∀ i, (z5U i).length = i := fun i => by
  unfold z5U
  rw [List.length_map, z0P]
 have bk1 := O.same bk0 s1
 have out1 : ∀ b ∈ fp, H1 b ≠ none := fun b hb e => by obtain ⟨o, e1, _⟩ := O.own bk1 b hb; rw [e] at e1; cases e1
 have nlf : l ∉ fp := fun mm => by obtain ⟨o, e1, _⟩ := O.own bk0 l mm; rw [nl] at e1; cases e1
 have nt1 : z36 H1 fp := O.noTup bk1
 clear g p hl
 refine ⟨_, rfl, _, rfl, by omega, by omega, ?_⟩
 refine z2K (lo := 0) (n := ((m : Nat) : Int).toNat) (fun i σ G => ∃ (fp' : List Addr) (o6 : Option V), z0f fp H1 G /\ Bk G x fp' nm r k (List.replicate i []) (z5U i) /\ (∀ b ∈ fp', b ∈ fp \/ H1 b = none) /\
   σ = [some (.ref x), some (.int m), some (.int k), some (.int full), some (.int c), some (.ref l), o6, none]) ⟨fp, none, .of (Same.refl _), bk1, fun b hb => .inl hb, rfl⟩ (fun i σ G hi hp => ?_) (fun σ G hp => ?_)
 ·obtain ⟨fp', o6, bt, bk, ff, rfl⟩ := hp
  obtain ⟨d2, g2, z2, w2⟩ := O.ins bk
  refine ⟨_, rfl, x, d2, g2, rfl, z2, w2 _ (by simp), (by show 0 ≤ sizeLine; decide), fun l0 hl0 => ?_⟩
  have s0 := z02 hl0 (.lst [])
  have n0 : l0 ∉ fp' := fun mm => by obtain ⟨o, e1, _⟩ := O.own bk l0 mm; rw [hl0] at e1; cases e1
  refine ⟨x, .ref l0, fp', nm, r, k, _, _, [], rfl, O.same bk s0, ⟨l0, [], rfl, .inl (SqL.of z03), n0, .nil⟩, ⟨List.nodup_nil, fun p hp => (by cases hp), fun p hp => (by cases hp)⟩, by decide, by rw [List.length_replicate]; omega, by rw [ln0]; omega, fun fp2 G2 hf2 b2 bk2 => ?_⟩
  rw [z8S, List.length_replicate, <- List.replicate_succ', show (i : Int) + 1 = 1 + (i : Int) by omega, <- z6F] at bk2
  exact ⟨fp2, _, fun b o e nb => b2 b o (s0 _ _ (bt b o e nb)) fun mm => (ff b mm).elim nb fun z => (by rw [e] at z; cases z), bk2, y17 bt ff s0 hf2, rfl⟩
 obtain ⟨fp', o6, bt, bk, ff, rfl⟩ := hp
 rw [show ((m : Nat) : Int).toNat = m from rfl] at bk
 have el := bt _ _ e1 nlf
 have pl := DeedsAt.but bt nt1 p1
 have nlf' : l ∉ fp' := fun mm => (ff l mm).elim nlf fun z => by rw [e1] at z; cases z
 have btH : z0f fp H G := fun b o e nb => bt b o (s1 _ _ e) nb
 have ffH : ∀ b ∈ fp', b ∈ fp \/ H b = none := fun b hb => (ff b hb).imp id fun z => s1.free z
 have w60 : ∀ d ∈ z5U m, 1 ≤ d.2 /\ d.2 ≤ 60 := fun d hd => by
  unfold z5U at hd
  obtain ⟨i, hi, rfl⟩ := List.mem_map.mp hd
  have := z1Z.mp hi
  show 1 ≤ i /\ i ≤ 60
  omega
 clear bt ff e1 p1 bk1 out1 nt1 s1 bk0
 refine ⟨_, rfl, _, _, rfl, rfl, _, rfl, ite2 (fun c0 => ?_) (fun _ => ⟨_, rfl, q fp' l ys _ G ffH btH nl nlf' el pl (by rw [ln0]; omega) w60 bk⟩)⟩
 have m0 : (0 : Int) < m := z11 c0
 have z1 : (0 : Int) < k * (m : Int) := Int.mul_pos (by omega) m0
 have z2 : k * (m : Int) ≤ 10 * 60 := Int.mul_le_mul (by omega) (by omega) (by omega) (by decide)
 refine ⟨_, rfl, _, rfl, _, rfl, _, _, rfl, rfl, _, rfl, _, rfl, _, _, rfl, rfl, .inl ⟨by omega, by omega⟩, _, _, _, rfl, by omega, by omega, z1, by omega, fun lf fs G3 nlf3 s3 e3 len3 all3 => ?_⟩
 have klf : lf ≠ l := fun e => by rw [e, el] at nlf3; cases nlf3
 have nf3 : lf ∉ fp' := fun mm => by obtain ⟨o, e, _⟩ := O.own bk lf mm; rw [nlf3] at e; cases e
 have lfs : (fs.length : Int) = full - m := by rw [len3]; omega
 refine ⟨lf, rfl, ⟨_, SqL.of e3⟩, z3C (K := K) (a := lf) (xs := fs.map V.int) (fun j σ G => ∃ (us : List V) (log : List Deed) (o7 : Option V), z0f fp H G /\ G lf = some (.lst (fs.map V.int)) /\ G l = some (.lst us) /\ Paired (z1p G) us log /\ log.length = m + j /\ (∀ d ∈ log, 1 ≤ d.2 /\ d.2 ≤ 60) /\ Bk G x fp' nm r k (List.replicate m []) log /\
   σ = [some (.ref x), some (.int m), some (.int k), some (.int full), some (.int c), some (.ref l), o6, o7]) ⟨ys, z5U m, none, fun b o e nb => s3 _ _ (btH b o e nb), e3, s3 _ _ el, DeedsAt.keep s3 pl, ln0 m, w60, O.same bk s3, rfl⟩ (fun j σ G _ ⟨_, _, _, _, ef, _⟩ => SqL.of ef) ?_ ?_⟩
 ·rintro j y σ G hy ⟨us, log, o7, btG, ef, eG, pG, lG, inG, bkG, rfl⟩
  rw [List.getElem?_map] at hy
  obtain ⟨fg, efg, rfl⟩ := Option.map_eq_some_iff.mp hy
  have hj := (List.getElem?_eq_some_iff.mp efg).1
  have hf := all3 fg (List.mem_of_getElem? efg)
  have lu := z0Y pG
  have h1 : 0 ≤ fg % k := Int.emod_nonneg _ (by omega)
  have h2 : fg % k < k := Int.emod_lt_of_pos _ (by omega)
  have h3 : 0 ≤ fg / k := Int.ediv_nonneg hf.1 (by omega)
  have h4 : fg / k < (m : Int) := Int.ediv_lt_of_lt_mul (by omega) (by have := hf.2; rw [Int.mul_comm]; exact this)
  refine ⟨_, rfl, .inl ⟨rfl, _, SqL.of eG⟩, _, rfl, _, rfl, _, _, rfl, rfl, by omega, _, _, rfl, rfl, _, rfl, _, rfl, _, _, rfl, rfl, ⟨by omega, by omega⟩, _, _, rfl, rfl, (by show 3 ≤ sizeLine; decide), fun t ht => ⟨l, us, _, rfl, rfl, z02 ht _ _ _ eG, z0k (by omega), ?_⟩⟩
  obtain ⟨b1, b2, b3⟩ := y2g (some (1 + fg % k), 1 + fg / k) (show Same (fun _ => none) G from fun b o e => by cases e) rfl eG pG ht
  have st := z02 ht (.tup [V.str "deliver", V.int (1 + fg % k), V.int (1 + fg / k)])
  have sb : z0f [l] (upd G t (.tup [V.str "deliver", V.int (1 + fg % k), V.int (1 + fg / k)])) (upd (upd G t (.tup [V.str "deliver", V.int (1 + fg % k), V.int (1 + fg / k)])) l (.lst (us ++ [.ref t]))) := fun b o e n => by rw [z0b (fun h => n (List.mem_singleton.mpr h))]; exact e
  have nb : z36 (upd G t (.tup [V.str "deliver", V.int (1 + fg % k), V.int (1 + fg / k)])) [l] := fun b hb xs e => by rw [List.mem_singleton.mp hb, st _ _ eG] at e; cases e
  have bk5 := O.keep (O.same bkG st) sb (fun b hb => by rw [List.mem_singleton.mp hb]; exact nlf') nb
  have ef5 : upd (upd G t (.tup [V.str "deliver", V.int (1 + fg % k), V.int (1 + fg / k)])) l (.lst (us ++ [.ref t])) lf = some (.lst (fs.map V.int)) := sb _ _ (st _ _ ef) fun h => klf (List.mem_singleton.mp h)
  have bt5 : z0f fp H (upd (upd G t (.tup [V.str "deliver", V.int (1 + fg % k), V.int (1 + fg / k)])) l (.lst (us ++ [.ref t]))) := fun b o e n => by
   rw [z0b (z0j e nl)]
   exact st _ _ (btG b o e n)
  have c2 : (upd (upd G t (.tup [V.str "deliver", V.int (1 + fg % k), V.int (1 + fg / k)])) l (.lst (us ++ [.ref t]))) l = some (.lst (us ++ [.ref t])) := b2
  have c3 : Paired (z1p (upd (upd G t (.tup [V.str "deliver", V.int (1 + fg % k), V.int (1 + fg / k)])) l (.lst (us ++ [.ref t])))) (us ++ [.ref t]) (log ++ [(some (1 + fg % k), 1 + fg / k)]) := b3
  clear b1 b2 b3
  generalize upd (upd G t (.tup [V.str "deliver", V.int (1 + fg % k), V.int (1 + fg / k)])) l (.lst (us ++ [.ref t])) = G5 at c2 c3 bk5 ef5 bt5 ⊢
  obtain ⟨d2, g2, z2', w2⟩ := O.ins bk5
  refine ⟨_, rfl, x, d2, g2, rfl, z2', w2 _ (by simp), _, rfl, _, rfl, _, _, rfl, rfl, by omega, _, _, rfl, rfl, _, rfl, _, rfl, _, _, rfl, rfl, ⟨by omega, by omega⟩, _, _, rfl, rfl, x, fp', nm, r, k, _, _, 1 + fg % k, 1 + fg / k, rfl, bk5, by omega, by omega, by omega, by rw [List.length_replicate]; omega, by omega, fun G6 b6 bk6 => ?_⟩
  refine ⟨us ++ [.ref t], log ++ [(some (1 + fg % k), 1 + fg / k)], _, fun b o e n => b6 b o (bt5 b o e n) fun mm => (ffH b mm).elim n fun z => (by rw [e] at z; cases z), b6 _ _ ef5 nf3, b6 _ _ c2 nlf', DeedsAt.but b6 (O.noTup bk5) c3, by rw [List.length_append, lG]; rfl, fun d hd => ?_, bk6, rfl⟩
  rcases List.mem_append.mp hd with h | h
  ·exact inG d h
  ·rw [List.mem_singleton.mp h]
   show 1 ≤ 1 + fg / k /\ 1 + fg / k ≤ 60
   omega
 ·rintro σ G ⟨us, log, o7, btG, ef, eG, pG, lG, inG, bkG, rfl⟩
  rw [List.length_map] at lG
  exact ⟨_, rfl, q fp' l us _ G ffH btG nl nlf' eG pG (by omega) inG bkG⟩
def z3U (z : Str) (n : Nat) : Row := if n = 0 then [] else [(z, 5)]
structure LawBk (Bk : BkP) (G : Hp) (x l lr : Addr) (fp : List Addr) (nm : List Str) (k : Int) (rows : List Row) (log : List Deed) : Prop where
 bk : Bk G x fp nm 3 k rows log
 nl : l ∉ fp
 nr : lr ∉ fp
 ne : l ≠ lr
 l6 : rows.length ≤ 60
 l4 : log.length ≤ 400
 inL : ∀ d ∈ log, 1 ≤ d.2 /\ d.2 ≤ 60
 R : Rws nm rows
 st : ∃ us ws, G l = some (.lst us) /\ Paired (z1p G) us log /\ G lr = some (.lst ws) /\ z0d G (rows.map rowD) ws
theorem LawBk.same {CBook : Addr} {ms : List Str} {Bk : BkP} (O : BkOk CBook ms Bk) {G G' : Hp} {x l lr : Addr} {fp : List Addr} {nm : List Str} {k : Int} {rows : List Row} {log : List Deed} (B : LawBk Bk G x l lr fp nm k rows log) (s : Same G G') : LawBk Bk G' x l lr fp nm k rows log := by
 obtain ⟨us, ws, h1, h2, h3, h4⟩ := B.st
 exact ⟨O.same B.bk s, B.nl, B.nr, B.ne, B.l6, B.l4, B.inL, B.R, us, ws, s _ _ h1, DeedsAt.keep s h2, s _ _ h3, z0d.keep s _ _ h4⟩
def y0V (K : PySem.W.Frag) (Bk : BkP) : Sp := fun vs H Q _ => ∃ (x l lr ln : Addr) (fp : List Addr) (nm : List Str) (k : Int) (rows : List Row) (log : List Deed) (c : Int), vs = [.ref x, .ref l, .ref lr, .ref ln, .int c] /\ LawBk Bk H x l lr fp nm k rows log /\ H ln = some (.lst (nm.map V.str)) /\ ln ∉ fp /\ ln ≠ l /\ ln ≠ lr /\ 1 ≤ nm.length /\ nm.length ≤ 12 /\ Nms nm /\
 ∀ (fp' : List Addr) (rows' : List Row) (log' : List Deed) (H' : Hp), (∀ b ∈ fp', b ∈ fp \/ H b = none) -> z0f (l :: lr :: fp) H H' -> LawBk Bk H' x l lr fp' nm k rows' log' -> Q (.bl true) H'
theorem z7U (z : Str) : (refD z).deep ≤ 1 := z1G fun d hd => by
 rcases List.mem_cons.mp hd with rfl | hd
 ·exact z3z _ _
 ·rw [List.mem_singleton.mp hd]
  exact z3z _ _
theorem goods {H : Hp} {t : Addr} {z : Str} {n : Nat} (h : H t = some (.tup [.str z, .int 5])) (hn : n < 2) : z0d H ((z3U z n).map z7y) (List.replicate n [V.ref t]).flatten := by
 match n, hn with
 | 0, _ => exact .nil
 | 1, _ => exact .cons (z0v h (by show 2 ≤ 1000000; decide) (.cons (z0x _) (.cons (z1m _) .nil))) .nil
theorem y1I {nm : List Str} {z : Str} {n : Nat} (hz : z ∈ nm) : (z3U z n).length ≤ 1 /\ (∀ p ∈ z3U z n, p.1 ∈ nm /\ 0 ≤ p.2 /\ p.2 ≤ 1000000) /\ ((z3U z n).map Prod.fst).Sublist nm := by
 unfold z3U
 by_cases h : n = 0
 ·rw [if_pos h]
  exact ⟨by decide, fun p hp => (by cases hp), List.nil_sublist _⟩
 ·rw [if_neg h]
  refine ⟨Nat.le_refl 1, fun p hp => ?_, List.singleton_sublist.mpr hz⟩
  rw [List.mem_singleton.mp hp]
  exact ⟨hz, by show (0 : Int) ≤ 5; decide, by show (5 : Int) ≤ 1000000; decide⟩
theorem y1W (M : Bl mg) (F : Fun K "_law_wrote" "_law_wrote" z3S f fd) {CBook : Addr} {Bk : BkP} (O : BkOk CBook ["write", "deliver", "latest", "issue", "deeds", "deed", "shelf"] Bk)
  (G_law_same : Cal P w K mg base 6 "_law_same" z1k (z5G 6)) (G_law_spoilt : Cal P w K mg base 2 "_law_spoilt" z3h (z91 K)) (G_law_refusal : Cal P w K mg base 1 "_law_refusal" z2U (z85 K)) (G_law_done : Cal P w K mg base 7 "_law_done" z3v (z8M K Bk)) :
  FnOk P w K mg base CX0 8 f fd z46 (y0V K Bk) := by
 have nd := z5b.nd
 refine F.ok z5b (fun vs H Q E h => ?_) (fun cdv A outer s H vs Q E hr h => ?_)
 ·obtain ⟨x, l, lr, ln, fp, nm, k, rows, log, c, rfl, _⟩ := h
  rfl
 obtain ⟨x, l, lr, ln, fp, nm, k, rows, log, c, rfl, B, eN, nN, nNl, nNr, n1, n12, N, q⟩ := h
 refine ⟨_, (z04 (z0n (i := 5) nd rfl (Or.inl rfl) (z0c y2F (z0R (z00 (z1o (z00 (z14 z0z (pv 3) (z7i z4c z05) (fun _ _ => rfl)) (z00 z05 z01))) z01)) (z0c z0w (z0c z0D (pv 4) z05) z05))) (z20 (z0n (i := 6) nd rfl (Or.inl rfl) (z0t G_law_spoilt (rm hr) rfl (z00 (pv 5) (z00 (pv 3) (z00 (z6U (z0a z3Z (z0c z0w (pv 4) z05) z05 (z0g _)) (pv 4) (z0c z4b (z0c z0D (pv 4) z05) z05)) z01))))) (z04 (z0n (i := 7) nd rfl (Or.inl rfl) (z0t G_law_refusal (rm hr) rfl (z00 (pv 6) (z00 (pv 3) z01)))) (z20 (z0G (z0a z8q (z08 z07 rfl M.len PySem.boot_len (z00 (pv 2) z01)) z05 (z0g _)) (z06 (z0n (i := 7) nd rfl (Or.inl rfl) z0r)) (z06 (z0G (PW.pt (z6G (z0a z3Z (pv 7) z0r (z0g _)) (z7b (z0a z8q (z08 z07 rfl M.len PySem.boot_len (z00 (pv 1) z01)) z05 (z0g _))))) (z06 (z0n (i := 7) nd rfl (Or.inl rfl) z0r)) z0h))) (z04 (z0n (i := 8) nd rfl (Or.inl rfl) (z0t G_law_done (rm hr) rfl (z00 z0r (z00 (pv 0) (z00 (pv 6) (z00 z05 z01)))))) (z04 (z0G (z0a z5I (pv 7) z0r (z0g _)) (z06 (z0o (z0t G_law_same (rm hr) rfl (z00 (pv 8) (z00 (z1o (z00 z0r (z00 (pv 7) z01))) z01))))) z0h) (z04 (z0p (z2l PySem.F.plainAttrs_list PySem.F.slot_list_append PySem.F.type_list_append z0I (pv 2) (z00 (z0B z0A rfl M.tuple PyProof.Rows.boot_tuple (z00 (pv 5) z01)) z01))) (z04 (z0p (z2l PySem.F.plainAttrs_list PySem.F.slot_list_append PySem.F.type_list_append z0I (pv 1) (z00 (z1o (z00 z0r (z00 (z08 z07 rfl M.len PySem.boot_len (z00 (pv 2) z01)) z01))) z01))) (z06 (z0o (z0t G_law_same (rm hr) rfl (z00 (pv 8) (z00 (z08 z07 rfl M.len PySem.boot_len (z00 (pv 2) z01)) z01))))))))))))), ?_⟩
 have h0 : 0 ≤ c / 8 % 2 := Int.emod_nonneg _ (by decide)
 have h2 : c / 8 % 2 < 2 := Int.emod_lt_of_pos _ (by decide)
 have hl : atI (nm.map V.str) (-1) = some (.str (nm.getLast (by intro e; rw [e] at n1; cases n1))) := by
  have e := List.dropLast_concat_getLast (l := nm) (by intro e; rw [e] at n1; cases n1)
  have := congrArg (List.map V.str) e
  rw [List.map_append] at this
  rw [<- this]
  exact z97 _ _
 have hz : nm.getLast (by intro e; rw [e] at n1; cases n1) ∈ nm := List.getLast_mem _
 generalize nm.getLast (by intro e; rw [e] at n1; cases n1) = z at hl hz
 obtain ⟨us, ws, el, pl, er, tl⟩ := B.st
 refine ⟨_, rfl, _, rfl, ln, _, _, _, rfl, rfl, SqL.of eN, hl, (by show 2 ≤ sizeLine; decide), fun t ht => ⟨(by show 1 ≤ sizeLine; decide), fun l1 hl1 => ?_⟩⟩
 have s1 := (z02 ht (.tup [V.str z, V.int 5])).trans (z02 hl1 (.lst [V.ref t]))
 have e1 : upd (upd H t (.tup [V.str z, V.int 5])) l1 (.lst [V.ref t]) l1 = some (.lst [V.ref t]) := z03
 have et : upd (upd H t (.tup [V.str z, V.int 5])) l1 (.lst [V.ref t]) t = some (.tup [V.str z, V.int 5]) := z02 hl1 _ _ _ z03
 generalize upd (upd H t (.tup [V.str z, V.int 5])) l1 (.lst [V.ref t]) = H1 at s1 e1 et
 refine ⟨_, rfl, _, _, rfl, rfl, ⟨by decide, by decide⟩, _, _, rfl, rfl, (by show (0 : Int) < 2; decide), l1, _, _, rfl, rfl, e1, by omega, by omega, (by show 1 * (c / 8 % 2).toNat ≤ sizeLine; exact Nat.le_trans (show 1 * (c / 8 % 2).toNat ≤ 2 by omega) (by decide)), fun lg hlg => ?_⟩
 have hn : (c / 8 % 2).toNat < 2 := by omega
 have ng : lg ∉ fp := fun mm => by obtain ⟨o, e, _⟩ := O.own B.bk _ mm; rw [s1 _ _ e] at hlg; cases hlg
 generalize (c / 8 % 2).toNat = n at hn
 have s2 := s1.trans (z02 hlg (.lst (List.replicate n [V.ref t]).flatten))
 have eG : upd H1 lg (.lst (List.replicate n [V.ref t]).flatten) lg = some (.lst (List.replicate n [V.ref t]).flatten) := z03
 have tG := goods (z := z) (n := n) (z02 hlg (.lst (List.replicate n [V.ref t]).flatten) _ _ et) hn
 obtain ⟨gl, gv, gs⟩ := y1I (n := n) hz
 generalize (List.replicate n [V.ref t]).flatten = gu at s2 eG tG
 generalize upd H1 lg (.lst gu) = H2 at s2 eG tG
 have lgu : gu.length = (z3U z n).length := by rw [tG.length, List.length_map]
 generalize z3U z n = gd at tG gl gv gs lgu
 have fr : ∀ {b : Addr}, H2 b = none -> b ∉ fp := fun e mm => by obtain ⟨o, e1, _⟩ := O.own B.bk _ mm; rw [s2 _ _ e1] at e; cases e
 clear hlg e1 et s1 hl1 ht hl hz h0 h2 hn
 refine ⟨fun σ' G => ∃ (lh : Addr) (uh : List V) (pr : Row), Same H2 G /\ G lh = some (.lst uh) /\ Paired (HL H2 G) uh pr /\ pr.length ≤ 16 /\ NmOk pr /\ (GoodR nm pr -> pr = gd) /\ lh ∉ fp /\ σ' = [some (.ref x), some (.ref l), some (.ref lr), some (.ref ln), some (.int c), some (.ref lg), some (.ref lh), none, none], ?_, ?_⟩
 ·refine ⟨_, rfl, _, rfl, _, rfl, _, _, rfl, rfl, (by show (0 : Int) < 3; decide), rfl, _, rfl, ite2 (fun _ => ⟨_, rfl, ?_⟩) (fun _ => ⟨_, rfl, _, _, rfl, rfl, ⟨by decide, by decide⟩, _, _, rfl, rfl, .inr ⟨by decide, by decide⟩, ?_⟩)⟩
  all_goals
   refine ⟨ln, .ref lg, nm, gd, _, rfl, ⟨lg, gu, rfl, eG, tG⟩, by omega, fun p hp => (gv p hp).1, SqL.of (s2 _ _ eN), n1, n12, N, fun lh uh pr G4 t4 nlh eh ph l16 nok ginj => ?_⟩
   exact ⟨lh, uh, pr, t4, eh, ph, l16, nok, ginj, fr nlh, rfl⟩
 rintro σ' G ⟨lh, uh, pr, g, eh, ph, l16, nok, ginj, nh, rfl⟩
 have luh : uh.length = pr.length := ph.length
 have g2 := s2.trans g
 have nok' : ∀ p ∈ pr, p.1.length ≤ 1000 /\ Low p.1 := fun p hp => ⟨Nat.le_trans (nok p hp).1 (by decide), (nok p hp).2⟩
 refine ⟨_, rfl, _, rfl, lh, ln, uh, pr, nm, rfl, eh, HL.row ph, by omega, SqL.of (g2 _ _ eN), fun zz G3 t3 rw3 => ?_⟩
 have g3 := g2.trans t3
 have lus := z0Y pl
 have lws : ws.length = rows.length := by rw [tl.length, List.length_map]
 have key : rows.length < 60 -> (∃ i, DueW nm rows pr i /\ zz = z6i.getD i "" /\ zz ≠ "") \/ (GoodR nm pr /\ zz = "") := fun h => by
  rcases rw3 with ⟨h1, rfl⟩ | ⟨h1, h2, rfl⟩ | ⟨h1, h2, h3, rfl⟩ | ⟨h1, rfl⟩
  ·exact .inl ⟨1, .inr ⟨h, .inl ⟨h1, rfl⟩⟩, rfl, by decide +kernel⟩
  ·exact .inl ⟨2, .inr ⟨h, .inr (.inl ⟨h1, h2, rfl⟩)⟩, rfl, by decide +kernel⟩
  ·exact .inl ⟨3, .inr ⟨h, .inr (.inr ⟨h1, h2, h3, rfl⟩)⟩, rfl, by decide +kernel⟩
  ·exact .inr ⟨h1, rfl⟩
 refine ⟨fun σ' G => ∃ (due : Str), Same G3 G /\ ((∃ i, y4c nm rows log pr i /\ due = z6i.getD i "" /\ due ≠ "") \/ (GoodR nm pr /\ due = "" /\ rows.length < 60 /\ log.length < 400)) /\ σ' = [some (.ref x), some (.ref l), some (.ref lr), some (.ref ln), some (.int c), some (.ref lg), some (.ref lh), some (.str due), none], ?_, ?_⟩
 ·refine ⟨_, rfl, lr, ws, rfl, .inl (SqL.of (g3 _ _ er)), _, _, rfl, rfl, _, rfl, ite2 (fun hl => ?_) (fun hl => ?_)⟩
  ·exact ⟨_, Same.refl _, .inl ⟨0, .inl (.inl ⟨by have := z11 hl; omega, rfl⟩), rfl, by decide +kernel⟩, rfl⟩
  have hl' := z6p hl
  have h60 : rows.length < 60 := by omega
  have fork : ∀ {A B : Prop} (c : Bool), (c = true -> A) -> (c = false -> B) -> if c = true then A else B := fun c h1 h2 => by
   cases c
   ·exact h2 rfl
   ·exact h1 rfl
  rcases key h60 with ⟨i, du, hd, hne⟩ | ⟨gr, hd⟩
  ·refine ⟨_, rfl, rfl, _, rfl, fork _ (fun h => absurd (V.str.inj (of_decide_eq_true h)) hne) (fun _ => iteF ⟨zz, Same.refl _, .inl ⟨i, .inl du, hd, hne⟩, rfl⟩)⟩
  ·subst hd
   refine ⟨_, rfl, rfl, _, rfl, fork _ (fun _ => ⟨_, rfl, l, us, rfl, .inl (SqL.of (g3 _ _ el)), _, _, rfl, rfl, _, rfl, ite2 (fun hl => ?_) (fun hl => ?_)⟩) (fun h => absurd (decide_eq_true rfl) (by rw [h]; exact Bool.noConfusion))⟩
   ·refine ⟨_, Same.refl _, .inl ⟨5, .inr ⟨h60, gr, ?_, by have := z11 hl; omega, rfl⟩, rfl, by decide +kernel⟩, rfl⟩
    rw [ginj gr]
    omega
   ·exact ⟨_, Same.refl _, .inr ⟨gr, rfl, h60, by have := z6p hl; omega⟩, rfl⟩
 clear rw3 key
 rintro σ' G4 ⟨due, t4, hdue, rfl⟩
 have g4 := g3.trans t4
 have t34 := t3.trans t4
 have eh4 := t34 _ _ eh
 have ph4 := HL.keep t34 ph
 have B4 := B.same O g4
 clear eh ph t3 g3 t4 g2
 rcases hdue with ⟨i, du, hd, hne⟩ | ⟨gr, rfl, h60, h400⟩
 ·refine ⟨_, rfl, _, rfl, "write", x, .ref lh, .int 0, fp, nm, 3, k, rows, log, rfl, B4.bk, .inr (.inl ⟨rfl, lh, uh, pr, i, rfl, .inl (SqL.of eh4), RowL.hand (HL.row ph4), by omega, nok', du, fun u G5 t5 tu => ?_⟩)⟩
  rw [<- hd] at tu
  refine ⟨_, rfl, rfl, _, rfl, ite2 (fun _ => ?_) (fun h => absurd (by rw [decide_eq_false (fun e => hne (V.str.inj e))]; rfl) h)⟩
  refine ⟨_, rfl, _, rfl, (by show 2 ≤ sizeLine; decide), fun tt htt => ⟨u, .ref tt, rfl, (z1L _ _ _ (Tell.keep (z02 htt _) _ _ tu) (z0v (ds := [.str "refused", .str due]) z03 (by show 2 ≤ 1000000; decide) (.cons (z0x _) (.cons (z0x _) .nil)))).mono (Nat.le_trans (z7U due) (by decide)), fun G6 t6 => ?_⟩⟩
  have t46 := t5.trans ((z02 htt (.tup [V.str "refused", V.str due])).trans t6)
  exact q fp rows log G6 (fun b hb => .inl hb) (.of (g4.trans t46)) (B4.same O t46)
 ·have epr := ginj gr
  subst epr
  have no : ∀ {b : Addr}, H2 b = none -> b ∉ fp := fr
  refine ⟨_, rfl, _, rfl, "write", x, .ref lh, .int 0, fp, nm, 3, k, rows, log, rfl, B4.bk, .inl ⟨rfl, pr, ⟨lh, uh, rfl, .inl (SqL.of eh4), nh, HL.hand no ph4⟩, gr, by omega, h60, h400, fun fp2 G5 hf2 b5 bk5 => ?_⟩⟩
  rw [z41 N.nd gs] at bk5
  have el5 := b5 _ _ (g4 _ _ el) B.nl
  have er5 := b5 _ _ (g4 _ _ er) B.nr
  have nt4 : z36 G4 fp := O.noTup B4.bk
  have pl5 := DeedsAt.but b5 nt4 (DeedsAt.keep g4 pl)
  have tl5 := z0d.but b5 nt4 _ _ (z0d.keep g4 _ _ tl)
  have eg5 := b5 _ _ (t34 _ _ (g _ _ eG)) ng
  have nl2 : l ∉ fp2 := fun mm => (hf2 l mm).elim B.nl fun z => by rw [g4 _ _ el] at z; cases z
  have nr2 : lr ∉ fp2 := fun mm => (hf2 lr mm).elim B.nr fun z => by rw [g4 _ _ er] at z; cases z
  have b05 : z0f fp H G5 := fun b o e n => b5 b o (g4 _ _ e) n
  refine ⟨_, rfl, rfl, _, rfl, ite2 (fun h => absurd h (by rw [decide_eq_true rfl]; decide)) (fun _ => ?_)⟩
  refine ⟨_, rfl, .inl ⟨rfl, _, SqL.of er5⟩, _, rfl, lg, gu, rfl, .inl ⟨SqL.of eg5, fun tk htk => ?_⟩⟩
  have t6 := z02 htk (.tup gu)
  have tG5 : z0d (upd G5 tk (.tup gu)) (pr.map z7y) gu := z0d.keep t6 _ _ (z0d.but b5 nt4 _ _ (z0d.keep t34 _ _ (z0d.keep g _ _ tG)))
  have tk6 : Tell (upd G5 tk (.tup gu)) (rowD pr) (.ref tk) := z0v z03 (by rw [List.length_map]; omega) tG5
  refine ⟨lr, ws, _, rfl, rfl, t6 _ _ er5, z0k (by omega), ?_⟩
  have sb7 : z0f [lr] (upd G5 tk (.tup gu)) (upd (upd G5 tk (.tup gu)) lr (.lst (ws ++ [.ref tk]))) := fun b o e n => by rw [z0b (fun h => n (List.mem_singleton.mpr h))]; exact e
  have nb7 : z36 (upd G5 tk (.tup gu)) [lr] := fun b hb xs e => by rw [List.mem_singleton.mp hb, t6 _ _ er5] at e; cases e
  have bk7 := O.keep (O.same bk5 t6) sb7 (fun b hb => by rw [List.mem_singleton.mp hb]; exact nr2) nb7
  have er7 : upd (upd G5 tk (.tup gu)) lr (.lst (ws ++ [.ref tk])) lr = some (.lst (ws ++ [.ref tk])) := z03
  have tl7 : z0d (upd (upd G5 tk (.tup gu)) lr (.lst (ws ++ [.ref tk]))) ((rows ++ [pr]).map rowD) (ws ++ [.ref tk]) := by
   rw [List.map_append]
   exact z0d.snoc (z0d.but sb7 nb7 _ _ (z0d.keep t6 _ _ tl5)) (Tell.but sb7 nb7 _ _ tk6)
  have el7 := sb7 _ _ (t6 _ _ el5) (fun h => B.ne (List.mem_singleton.mp h))
  have pl7 := DeedsAt.but sb7 nb7 (DeedsAt.keep t6 pl5)
  have b07 : z0f (l :: lr :: fp) H (upd (upd G5 tk (.tup gu)) lr (.lst (ws ++ [.ref tk]))) := fun b o e n => sb7 b o (t6 _ _ (b05 b o e fun h => n (List.mem_cons_of_mem _ (List.mem_cons_of_mem _ h)))) fun h => n (by rw [List.mem_singleton.mp h]; simp)
  generalize upd (upd G5 tk (.tup gu)) lr (.lst (ws ++ [.ref tk])) = G7 at bk7 er7 tl7 el7 pl7 b07 ⊢
  clear sb7 nb7 tk6 tG5 t6 htk
  have lw7 : (ws ++ [V.ref tk]).length = rows.length + 1 := by rw [List.length_append, lws]; rfl
  refine ⟨_, rfl, .inl ⟨rfl, _, SqL.of el7⟩, _, rfl, lr, _, rfl, .inl (SqL.of er7), (by show 2 ≤ sizeLine; decide), fun tw htw => ⟨l, us, _, rfl, rfl, z02 htw _ _ _ el7, z0k (by omega), ?_⟩⟩
  rw [lw7]
  have t8 := z02 htw (.tup [V.str "write", V.int ((rows.length + 1 : Nat) : Int)])
  have sb9 : z0f [l] (upd G7 tw (.tup [V.str "write", V.int ((rows.length + 1 : Nat) : Int)])) (upd (upd G7 tw (.tup [V.str "write", V.int ((rows.length + 1 : Nat) : Int)])) l (.lst (us ++ [.ref tw]))) := fun b o e n => by rw [z0b (fun h => n (List.mem_singleton.mpr h))]; exact e
  have nb9 : z36 (upd G7 tw (.tup [V.str "write", V.int ((rows.length + 1 : Nat) : Int)])) [l] := fun b hb xs e => by rw [List.mem_singleton.mp hb, t8 _ _ el7] at e; cases e
  have bk9 := O.keep (O.same bk7 t8) sb9 (fun b hb => by rw [List.mem_singleton.mp hb]; exact nl2) nb9
  have el9 : upd (upd G7 tw (.tup [V.str "write", V.int ((rows.length + 1 : Nat) : Int)])) l (.lst (us ++ [.ref tw])) l = some (.lst (us ++ [.ref tw])) := z03
  have etw : upd (upd G7 tw (.tup [V.str "write", V.int ((rows.length + 1 : Nat) : Int)])) l (.lst (us ++ [.ref tw])) tw = some (.tup [V.str "write", V.int ((rows.length + 1 : Nat) : Int)]) := sb9 _ _ z03 (fun h => by rw [List.mem_singleton.mp h, el7] at htw; cases htw)
  have pl9 : Paired (z1p (upd (upd G7 tw (.tup [V.str "write", V.int ((rows.length + 1 : Nat) : Int)])) l (.lst (us ++ [.ref tw])))) (us ++ [.ref tw]) (log ++ [(none, (rows.length : Int) + 1)]) := z2k (DeedsAt.but sb9 nb9 (DeedsAt.keep t8 pl7)) ⟨tw, rfl, etw⟩
  have er9 := sb9 _ _ (t8 _ _ er7) (fun h => B.ne (List.mem_singleton.mp h).symm)
  have tl9 := z0d.but sb9 nb9 _ _ (z0d.keep t8 _ _ tl7)
  have b09 : z0f (l :: lr :: fp) H (upd (upd G7 tw (.tup [V.str "write", V.int ((rows.length + 1 : Nat) : Int)])) l (.lst (us ++ [.ref tw]))) := fun b o e n => sb9 b o (t8 _ _ (b07 b o e n)) fun h => n (by rw [List.mem_singleton.mp h]; exact List.mem_cons_self)
  generalize upd (upd G7 tw (.tup [V.str "write", V.int ((rows.length + 1 : Nat) : Int)])) l (.lst (us ++ [.ref tw])) = G9 at bk9 el9 pl9 er9 tl9 b09 ⊢
  refine ⟨_, rfl, _, rfl, lr, _, rfl, .inl (SqL.of er9), _, _, rfl, .inl ⟨by rw [lw7]; rfl, rfl⟩, fun GA tA => ?_⟩
  refine q fp2 (rows ++ [pr]) (log ++ [(none, (rows.length : Int) + 1)]) GA (fun b hb => (hf2 b hb).imp id fun z => g4.free z) (b09.then tA) ⟨O.same bk9 tA, nl2, nr2, B.ne, by rw [List.length_append]; show rows.length + 1 ≤ 60; omega, by rw [List.length_append]; show log.length + 1 ≤ 400; omega, fun d hd => ?_, ⟨fun w hw => ?_, fun w hw p hp => ?_⟩, _, _, tA _ _ el9, DeedsAt.keep tA pl9, tA _ _ er9, z0d.keep tA _ _ tl9⟩
  ·rcases List.mem_append.mp hd with h | h
   ·exact B.inL d h
   ·rw [List.mem_singleton.mp h]
    show 1 ≤ (rows.length : Int) + 1 /\ (rows.length : Int) + 1 ≤ 60
    omega
  ·rcases List.mem_append.mp hw with h | h
   ·exact B.R.sub w h
   ·rw [List.mem_singleton.mp h]
    exact gs
  ·rcases List.mem_append.mp hw with h | h
   ·exact B.R.val w h p hp
   ·rw [List.mem_singleton.mp h] at hp
    exact (gv p hp).2
def y4r (Bk : BkP) : Sp := fun vs H Q _ => ∃ (x l lr : Addr) (fp : List Addr) (nm : List Str) (k : Int) (rows : List Row) (log : List Deed) (rd n : Int), vs = [.ref x, .ref l, .int rows.length, .int k, .int rd, .int n] /\ LawBk Bk H x l lr fp nm k rows log /\
 ∀ (log' : List Deed) (H' : Hp), z0f (l :: fp) H H' -> LawBk Bk H' x l lr fp nm k rows log' -> Q (.bl true) H'
theorem y1R {xs : List V} {y : V} : cutV (xs ++ [y]) none (some (-1)) = xs := by
 unfold cutV
 have e1 : HT.sIx (xs ++ [y]).length 0 none = 0 := rfl
 have e2 : HT.sIx (xs ++ [y]).length (xs ++ [y]).length (some (-1)) = xs.length := by
  show (if (-1 : Int) < 0 then ((-1 : Int) + ((xs ++ [y]).length : Int)).toNat else min (-1 : Int).toNat (xs ++ [y]).length) = xs.length
  rw [if_pos (by decide), List.length_append]
  show (-1 + ((xs.length + 1 : Nat) : Int)).toNat = _
  omega
 rw [e1, e2, List.drop_zero, Nat.sub_zero, List.take_left]
theorem z95 {K : PySem.W.Frag} {H : Hp} : ∀ {us : List V} {log : List Deed}, Paired (z1p H) us log -> Paired (fun u ys => ∃ b, u = .ref b /\ SqT K H b ys /\ ys.all z1j = true) us (log.map z1z)
 | _, _, .nil => .nil
 | _, _, .cons ⟨b, e, q⟩ t => .cons ⟨b, e, SqT.of q, z4v _⟩ (z95 t)
theorem y4G (M : Bl mg) (F : Fun K "_law_got" "_law_got" z5x f fd) {CBook : Addr} {Bk : BkP} (O : BkOk CBook ["write", "deliver", "latest", "issue", "deeds", "deed", "shelf"] Bk)
  (G_law_same : Cal P w K mg base 6 "_law_same" z1k (z5G 6)) (G_law_done : Cal P w K mg base 7 "_law_done" z3v (z8M K Bk)) : FnOk P w K mg base CX0 8 f fd z5E (y4r Bk) := by
 have nd := z6l.nd
 refine F.ok z6l (fun vs H Q E h => ?_) (fun cdv A outer s H vs Q E hr h => ?_)
 ·obtain ⟨x, l, lr, fp, nm, k, rows, log, rd, n, rfl, _⟩ := h
  rfl
 obtain ⟨x, l, lr, fp, nm, k, rows, log, rd, n, rfl, B, q⟩ := h
 have hu := y15 hr
 refine ⟨_, (z20 (z0n (i := 6) nd rfl (Or.inl rfl) (z6U (z0a z8q (z08 z07 rfl M.len PySem.boot_len (z00 (pv 1) z01)) z05 (z0g _)) z0r z0r)) (z20 (z0G (PW.pt (z2L (z0a z3I (pv 4) z05 (z0g _)) (z1F (z0a z2f (pv 4) (pv 3) (z0g _))))) (z06 (z0n (i := 6) nd rfl (Or.inl rfl) z0r)) z0h) (z20 (z0G (PW.pt (z2L (z0a z3I (pv 5) z05 (z0g _)) (z1F (z0a z2f (pv 5) (pv 2) (z0g _))))) (z06 (z0n (i := 6) nd rfl (Or.inl rfl) z0r)) z0h) (z04 (z0n (i := 7) nd rfl (Or.inl rfl) (z0t G_law_done (rm hr) rfl (z00 z0r (z00 (pv 0) (z00 (pv 4) (z00 (pv 5) z01)))))) (z04 (z0G (z0a z5I (pv 6) z0r (z0g _)) (z06 (z0o (z0t G_law_same (rm hr) rfl (z00 (pv 7) (z00 (z1o (z00 z0r (z00 (pv 6) z01))) z01))))) z0h) (z04 (z0p (z2l PySem.F.plainAttrs_list PySem.F.slot_list_append PySem.F.type_list_append z0I (pv 1) (z00 (z1o (z00 z0r (z00 (pv 4) (z00 (pv 5) z01)))) z01))) (z06 (z0o (z0t G_law_same (rm hr) rfl (z00 (pv 7) (z00 (z7m (z5s hu) (z14 z0z (pv 1) (z7i z4c z05) (fun _ _ => rfl)) (z2m z8s (pv 1) z3m (z3u (z7i z4c z05))) (by with_unfolding_all rfl)) z01))))))))))), ?_⟩
 obtain ⟨us, ws, el, pl, er, tl⟩ := B.st
 have lus := z0Y pl
 have fork : ∀ {A B : Prop} (c : Bool), (c = true -> A) -> (c = false -> B) -> if c = true then A else B := fun c h1 h2 => by
  cases c
  ·exact h2 rfl
  ·exact h1 rfl
 refine ⟨fun σ' G' => H = G' /\ ∃ d : Str, ((400 ≤ log.length /\ d = "BookFull") \/ (log.length < 400 /\ d = "")) /\ σ' = [some (.ref x), some (.ref l), some (.int rows.length), some (.int k), some (.int rd), some (.int n), some (.str d), none], ?_, ?_⟩
 ·refine ⟨_, rfl, l, us, rfl, .inl (SqL.of el), _, _, rfl, rfl, _, rfl, ite2 (fun h => ?_) (fun h => ?_)⟩
  ·exact ⟨rfl, _, .inl ⟨by have := z11 h; omega, rfl⟩, rfl⟩
  ·exact ⟨rfl, _, .inr ⟨by have := z6p h; omega, rfl⟩, rfl⟩
 rintro σ' _ ⟨rfl, d, hd, rfl⟩
 refine ⟨fun σ' G' => H = G' /\ ∃ d : Str, (((rd < 1 \/ k < rd) /\ d = "UnknownReader") \/ (1 ≤ rd /\ rd ≤ k /\ ((400 ≤ log.length /\ d = "BookFull") \/ (log.length < 400 /\ d = "")))) /\ σ' = [some (.ref x), some (.ref l), some (.int rows.length), some (.int k), some (.int rd), some (.int n), some (.str d), none], ?_, ?_⟩
 ·refine ⟨_, rfl, _, _, rfl, rfl, _, rfl, fork _ (fun c1 => iteT ⟨rfl, _, .inl ⟨.inl (of_decide_eq_true c1), rfl⟩, rfl⟩) (fun c1 => ⟨_, rfl, _, rfl, _, _, rfl, rfl, _, rfl, fork _ (fun c2 => ⟨rfl, _, .inl ⟨.inr (of_decide_eq_true c2), rfl⟩, rfl⟩) (fun c2 => ⟨rfl, d, .inr ⟨by have := of_decide_eq_false c1; omega, by have := of_decide_eq_false c2; omega, hd⟩, rfl⟩)⟩)⟩
 rintro σ' _ ⟨rfl, d2, hd2, rfl⟩
 clear hd
 refine ⟨fun σ' G' => H = G' /\ ∃ d : Str, ((∃ i, DueD rows log k rd n i /\ d = z6i.getD i "" /\ d ≠ "") \/ (d = "" /\ 1 ≤ rd /\ rd ≤ k /\ 1 ≤ n /\ n ≤ rows.length /\ log.length < 400)) /\ σ' = [some (.ref x), some (.ref l), some (.int rows.length), some (.int k), some (.int rd), some (.int n), some (.str d), none], ?_, ?_⟩
 ·refine ⟨_, rfl, _, _, rfl, rfl, _, rfl, fork _ (fun c1 => iteT ⟨rfl, _, .inl ⟨4, .inl ⟨.inl (of_decide_eq_true c1), rfl⟩, rfl, by decide +kernel⟩, rfl⟩) (fun c1 => ⟨_, rfl, _, rfl, _, _, rfl, rfl, _, rfl, fork _ (fun c2 => ⟨rfl, _, .inl ⟨4, .inl ⟨.inr (of_decide_eq_true c2), rfl⟩, rfl, by decide +kernel⟩, rfl⟩) (fun c2 => ⟨rfl, d2, ?_, rfl⟩)⟩)⟩
  have n1 : 1 ≤ n := by have := of_decide_eq_false c1; omega
  have n2 : n ≤ rows.length := by have := of_decide_eq_false c2; omega
  rcases hd2 with ⟨h, rfl⟩ | ⟨r1, r2, ⟨h, rfl⟩ | ⟨h, rfl⟩⟩
  ·exact .inl ⟨6, .inr ⟨n1, n2, .inl ⟨h, rfl⟩⟩, rfl, by decide +kernel⟩
  ·exact .inl ⟨5, .inr ⟨n1, n2, .inr ⟨r1, r2, h, rfl⟩⟩, rfl, by decide +kernel⟩
  ·exact .inr ⟨rfl, r1, r2, n1, n2, h⟩
 rintro σ' _ ⟨rfl, due, hdue, rfl⟩
 clear hd2
 rcases hdue with ⟨i, du, hd, hne⟩ | ⟨rfl, r1, r2, n1, n2, h400⟩
 ·refine ⟨_, rfl, _, rfl, _, rfl, "deliver", x, .int rd, .int n, fp, nm, 3, k, rows, log, rfl, B.bk, .inr (.inr (.inr ⟨rfl, rd, n, i, rfl, rfl, du, fun u G5 t5 tu => ?_⟩))⟩
  rw [<- hd] at tu
  refine ⟨_, rfl, rfl, _, rfl, ite2 (fun _ => ?_) (fun h => absurd (by rw [decide_eq_false (fun e => hne (V.str.inj e))]; rfl) h)⟩
  refine ⟨_, rfl, _, rfl, (by show 2 ≤ sizeLine; decide), fun tt htt => ⟨u, .ref tt, rfl, (z1L _ _ _ (Tell.keep (z02 htt _) _ _ tu) (z0v (ds := [.str "refused", .str due]) z03 (by show 2 ≤ 1000000; decide) (.cons (z0x _) (.cons (z0x _) .nil)))).mono (Nat.le_trans (z7U due) (by decide)), fun G6 t6 => ?_⟩⟩
  have t46 := t5.trans ((z02 htt (.tup [V.str "refused", V.str due])).trans t6)
  exact q log G6 (.of t46) (B.same O t46)
 ·refine ⟨_, rfl, _, rfl, _, rfl, "deliver", x, .int rd, .int n, fp, nm, 3, k, rows, log, rfl, B.bk, .inr (.inr (.inl ⟨rfl, rd, n, rfl, rfl, r1, r2, n1, n2, h400, fun G5 b5 bk5 => ?_⟩))⟩
  have nt : z36 H fp := O.noTup B.bk
  have el5 := b5 _ _ el B.nl
  have er5 := b5 _ _ er B.nr
  have pl5 := DeedsAt.but b5 nt pl
  have tl5 := z0d.but b5 nt _ _ tl
  refine ⟨_, rfl, rfl, _, rfl, ite2 (fun h => absurd h (by rw [decide_eq_true rfl]; decide)) (fun _ => ?_)⟩
  refine ⟨_, rfl, .inl ⟨rfl, _, SqL.of el5⟩, _, rfl, _, rfl, (by show 3 ≤ sizeLine; decide), fun tw htw => ⟨l, us, _, rfl, rfl, z02 htw _ _ _ el5, z0k (by omega), ?_⟩⟩
  have t8 := z02 htw (.tup [V.str "deliver", V.int rd, V.int n])
  have sb9 : z0f [l] (upd G5 tw (.tup [V.str "deliver", V.int rd, V.int n])) (upd (upd G5 tw (.tup [V.str "deliver", V.int rd, V.int n])) l (.lst (us ++ [.ref tw]))) := fun b o e n => by rw [z0b (fun h => n (List.mem_singleton.mpr h))]; exact e
  have nb9 : z36 (upd G5 tw (.tup [V.str "deliver", V.int rd, V.int n])) [l] := fun b hb xs e => by rw [List.mem_singleton.mp hb, t8 _ _ el5] at e; cases e
  have bk9 := O.keep (O.same bk5 t8) sb9 (fun b hb => by rw [List.mem_singleton.mp hb]; exact B.nl) nb9
  have el9 : upd (upd G5 tw (.tup [V.str "deliver", V.int rd, V.int n])) l (.lst (us ++ [.ref tw])) l = some (.lst (us ++ [.ref tw])) := z03
  have etw : upd (upd G5 tw (.tup [V.str "deliver", V.int rd, V.int n])) l (.lst (us ++ [.ref tw])) tw = some (.tup [V.str "deliver", V.int rd, V.int n]) := sb9 _ _ z03 (fun h => by rw [List.mem_singleton.mp h, el5] at htw; cases htw)
  have plo := DeedsAt.but sb9 nb9 (DeedsAt.keep t8 pl5)
  have er9 := sb9 _ _ (t8 _ _ er5) (fun h => B.ne (List.mem_singleton.mp h).symm)
  have tl9 := z0d.but sb9 nb9 _ _ (z0d.keep t8 _ _ tl5)
  have b09 : z0f (l :: fp) H (upd (upd G5 tw (.tup [V.str "deliver", V.int rd, V.int n])) l (.lst (us ++ [.ref tw]))) := fun b o e n => sb9 b o (t8 _ _ (b5 b o e fun h => n (List.mem_cons_of_mem _ h))) fun h => n (by rw [List.mem_singleton.mp h]; exact List.mem_cons_self)
  generalize upd (upd G5 tw (.tup [V.str "deliver", V.int rd, V.int n])) l (.lst (us ++ [.ref tw])) = G9 at bk9 el9 plo er9 tl9 b09 etw ⊢
  refine ⟨_, rfl, _, rfl, _, rfl, l, _, _, _, rfl, rfl, SqL.of el9, z97 _ _, _, rfl, _, rfl, _, rfl, l, _, rfl, SqL.of el9, fun lq hlq => ?_⟩
  rw [y1R]
  have tq := z02 hlq (.lst us)
  refine ⟨tw, lq, _, _, _, rfl, rfl, SqT.of (tq _ _ etw), z4v (some rd, n), SqL.of z03, z95 (DeedsAt.keep tq plo), ?_⟩
  rw [show ([V.str "deliver", V.int rd, V.int n] : List V) = z1z (some rd, n) from rfl, z9d]
  refine ⟨_, _, rfl, .inl ⟨rfl, rfl⟩, fun GA tA => ?_⟩
  have t9 := tq.trans tA
  refine q (log ++ [(some rd, n)]) GA (b09.then t9) ⟨O.same bk9 t9, B.nl, B.nr, B.ne, B.l6, by rw [List.length_append]; show log.length + 1 ≤ 400; omega, fun d hd => ?_, B.R, _, _, t9 _ _ el9, z2k (DeedsAt.keep t9 plo) ⟨tw, rfl, t9 _ _ etw⟩, t9 _ _ er9, z0d.keep t9 _ _ tl9⟩
  rcases List.mem_append.mp hd with h | h
  ·exact B.inL d h
  ·rw [List.mem_singleton.mp h]
   have := B.l6
   show 1 ≤ n /\ n ≤ 60
   omega
def y28 (K : PySem.W.Frag) : Sp := fun vs H Q _ => ∃ (a : Addr) (ns : List Int), vs = [.ref a] /\ SqL K H a (ns.map V.int) /\ ns.length ≤ 63 /\ ∀ H', Q (.bl true) H'
theorem z3B {H : Hp} : ∀ (l : List Int), z0d H (l.map DV.int) (l.map V.int)
 | [] => .nil
 | i :: l => .cons (z1m i) (z3B l)
theorem y0v (d : Deed) : (y30 d).deep ≤ 1 := by
 obtain ⟨a, n⟩ := d
 cases a with
 | none =>
  refine z1G fun d hd => ?_
  rcases List.mem_cons.mp hd with rfl | hd
  ·exact z3z _ _
  ·rw [List.mem_singleton.mp hd]
   exact z29 _ _
 | some r =>
  refine z1G fun d hd => ?_
  rcases List.mem_cons.mp hd with rfl | hd
  ·exact z3z _ _
  rcases List.mem_cons.mp hd with rfl | hd
  ·exact z29 _ _
  ·rw [List.mem_singleton.mp hd]
   exact z29 _ _
theorem z8Z {H : Hp} {t : Addr} {a b : Int} (h : H t = some (.tup [.int a, .int b])) : Tell H (.tup [.int a, .int b]) (.ref t) := z0v h (by show 2 ≤ 1000000; decide) (.cons (z1m _) (.cons (z1m _) .nil))
theorem y0E {H : Hp} {t : Addr} {a b a' b' : Int} (h : H t = some (.tup [.int a', .int b'])) (e1 : a' = a) (e2 : b' = b) : Tell H (.tup [.int a, .int b]) (.ref t) := by
 subst e1 e2
 exact z8Z h
theorem y2h (a b : Int) : (DV.tup [.int a, .int b]).deep ≤ 1 := z1G fun d hd => by
 rcases List.mem_cons.mp hd with rfl | hd
 ·exact z29 _ _
 ·rw [List.mem_singleton.mp hd]
  exact z29 _ _
theorem y25 (w : Row) : (rowD w).deep ≤ 2 := z1G fun d hd => by
 obtain ⟨x, _, rfl⟩ := List.mem_map.mp hd
 refine z1G fun d hd => ?_
 rcases List.mem_cons.mp hd with rfl | hd
 ·exact z3z _ _
 ·rw [List.mem_singleton.mp hd]
  exact z29 _ _
theorem z9X (rows : List Row) (n r : Int) : (z1r rows n r).deep ≤ 4 := z1G fun d hd => by
 rcases List.mem_cons.mp hd with rfl | hd
 ·exact z29 _ _
 rcases List.mem_cons.mp hd with rfl | hd
 ·exact Nat.le_succ_of_le (y25 _)
 rw [List.mem_singleton.mp hd]
 refine z1G fun d hd => ?_
 obtain ⟨k, _, rfl⟩ := List.mem_map.mp hd
 refine z1G fun d hd => ?_
 rcases List.mem_cons.mp hd with rfl | hd
 ·exact z29 _ _
 ·rw [List.mem_singleton.mp hd]
  exact y2s _
theorem z99 {x y z i : Int} (h0 : 0 ≤ i) (h1 : i < 3) : ∃ v, atI [V.int x, V.int y, V.int z] i = some (.int v) /\ (v = x \/ v = y \/ v = z) := by
 have : i = 0 \/ i = 1 \/ i = 2 := by omega
 rcases this with rfl | rfl | rfl
 ·exact ⟨x, rfl, .inl rfl⟩
 ·exact ⟨y, rfl, .inr (.inl rfl)⟩
 ·exact ⟨z, rfl, .inr (.inr rfl)⟩
theorem y1m {x y z t i : Int} (h0 : 0 ≤ i) (h1 : i < 4) : ∃ v, atI [V.int x, V.int y, V.int z, V.int t] i = some (.int v) := by
 have : i = 0 \/ i = 1 \/ i = 2 \/ i = 3 := by omega
 rcases this with rfl | rfl | rfl | rfl
 ·exact ⟨x, rfl⟩
 ·exact ⟨y, rfl⟩
 ·exact ⟨z, rfl⟩
 ·exact ⟨t, rfl⟩
theorem z67 {H : Hp} {t : Addr} (h : H t = some (.tup [])) : ∀ m : Nat, z0d H ((List.replicate m ([] : Row)).map rowD) (List.replicate m [V.ref t]).flatten
 | 0 => .nil
 | m + 1 => by
  rw [List.replicate_succ, List.replicate_succ, List.flatten_cons, List.map_cons]
  exact .cons (z0v h (by show 0 ≤ 1000000; decide) .nil) (z67 h m)
theorem y4B (M : Bl mg) (F : Fun K "law" "law" slaw f fd) {CBook CShelf : Addr} {Bk : BkP} {Sh : ShP} (O : BkOk CBook ["write", "deliver", "latest", "issue", "deeds", "deed", "shelf"] Bk) (OS : ShOk CShelf ["put", "had", "latest"] Sh)
  (G_law_at : Cal P w K mg base 1 "_law_at" z6R (spAt K)) (G_law_pick : Cal P w K mg base 1 "_law_pick" z4Q y2E) (G_law_named : Cal P w K mg base 1 "_law_named" z3V y0y)
  (G_law_same : Cal P w K mg base 6 "_law_same" z1k (z5G 6)) (G_law_issue : Cal P w K mg base 1 "_law_issue" z3R (y1q K)) (G_law_had_at : Cal P w K mg base 1 "_law_had_at" z3o (y0D K))
  (G_law_filled_up : Cal P w K mg base 9 "_law_filled_up" z2i (y2X Bk)) (G_law_wrote : Cal P w K mg base 8 "_law_wrote" z46 (y0V K Bk)) (G_law_got : Cal P w K mg base 8 "_law_got" z5E (y4r Bk))
  (GBook : Mkr P w K mg base 8 CBook "Book" z2C (z9o K CBook Bk)) (GBook_deeds : MCal P w K mg base 8 CBook "deeds" z3P (z8c Bk)) (GBook_latest : MCal P w K mg base 8 CBook "latest" z3l (z6w Bk)) (GBook_issue : MCal P w K mg base 8 CBook "issue" z2Y (z5W Bk))
  (GBook_deed : MCal P w K mg base 8 CBook "deed" z3D (z7f Bk)) (GBook_shelfD : MCalD P w K mg base 8 CBook "shelf" z2g (z4r Bk Sh) [V.non]) (GShelf_had : MCal P w K mg base 7 CShelf "had" z3G (z8u Sh)) : FnOk P w K mg base CX0 14 f fd plaw (y28 K) := by
 have nd := y41.nd
 refine F.ok y41 (fun vs H Q E h => ?_) (fun cdv A outer s H vs Q E hr h => ?_)
 ·obtain ⟨a, ns, rfl, _⟩ := h
  rfl
 obtain ⟨a, ns, rfl, hS, h63, q⟩ := h
 refine ⟨_, (z04 (z0n (i := 1) nd rfl (Or.inl rfl) (z0t G_law_named (rm hr) rfl (z00 (z0t G_law_at (rm hr) rfl (z00 (pv 0) (z00 z05 z01))) (z00 (z0c z13 z05 (z0c z0w (z0t G_law_at (rm hr) rfl (z00 (pv 0) (z00 z05 z01))) z05)) z01)))) (z04 (z0n (i := 2) nd rfl (Or.inl rfl) (z0c z13 z05 (z0t G_law_pick (rm hr) rfl (z00 (z0t G_law_at (rm hr) rfl (z00 (pv 0) (z00 z05 z01))) (z00 z05 z01))))) (z20 (z0n (i := 3) nd rfl (Or.inl rfl) (z14 z0z (z0R (z00 (z0t G_law_pick (rm hr) rfl (z00 (z0c z0D (z0t G_law_at (rm hr) rfl (z00 (pv 0) (z00 z05 z01))) z05) (z00 z05 z01))) (z00 z05 (z00 z05 z01)))) (z0c z0w (z0t G_law_at (rm hr) rfl (z00 (pv 0) (z00 z05 z01))) z05) (fun _ _ => rfl))) (z20 (z0n (i := 4) nd rfl (Or.inl rfl) (z14 z0z (z0R (z00 z05 (z00 (z0c z13 z05 (z0c z0w (z0c z0D (z0t G_law_at (rm hr) rfl (z00 (pv 0) (z00 z05 z01))) z05) z05)) (z00 z05 z01)))) (z0c z0w (z0t G_law_at (rm hr) rfl (z00 (pv 0) (z00 z05 z01))) z05) (fun _ _ => rfl))) (z04 (z0n (i := 5) nd rfl (Or.inl rfl) (y1d GBook (rm hr) rfl (z00 (z0B z4U rfl M.list PyProof.Rows.boot_list (z00 (pv 1) z01)) (z00 z05 (z00 (pv 2) z01))))) (z04 (z0n (i := 6) nd rfl (Or.inl rfl) (z0t G_law_filled_up (rm hr) rfl (z00 (pv 5) (z00 (pv 3) (z00 (pv 2) (z00 (pv 4) (z00 (z0t G_law_at (rm hr) rfl (z00 (pv 0) (z00 z05 z01))) z01))))))) (z04 (z0n (i := 7) nd rfl (Or.inl rfl) (z0c y2F (z0R (z00 (z1o z01) z01)) (pv 3))) (z04 (z2E PassesOwn.never rfl (z1X rfl M.range (z00 z05 z01)) (z0u (i := 8) nd rfl (Or.inl rfl)) (z04 (z0G (z4X (z47 (z0t G_law_wrote (rm hr) rfl (z00 (pv 5) (z00 (pv 6) (z00 (pv 7) (z00 (pv 1) (z00 (z0t G_law_pick (rm hr) rfl (z00 (z0t G_law_at (rm hr) rfl (z00 (pv 0) (z00 (z0c z13 z05 (z0c z4b z05 (pv 8))) z01))) (z00 (z0c z9n z05 z05) z01))) z01)))))))) (z06 (z0o z3J)) z0h) (z04 (z0n (i := 9) nd rfl (Or.inl rfl) (z14 z0z (z0R (z00 z05 (z00 (pv 2) (z00 z05 (z00 (z0c z13 (pv 2) z05) z01))))) (z0c z0w (z0t G_law_at (rm hr) rfl (z00 (pv 0) (z00 (z0c z13 z05 (z0c z4b z05 (pv 8))) z01))) z05) (fun _ _ => rfl))) (z04 (z0n (i := 10) nd rfl (Or.inl rfl) (z14 z0z (z0R (z00 z05 (z00 (z08 z07 rfl M.len PySem.boot_len (z00 (pv 7) z01)) (z00 (z0c z13 (z08 z07 rfl M.len PySem.boot_len (z00 (pv 7) z01)) z05) (z00 z05 z01))))) (z0c z0w (z0t G_law_at (rm hr) rfl (z00 (pv 0) (z00 (z0c z13 z05 (z0c z4b z05 (pv 8))) z01))) z05) (fun _ _ => rfl))) (z06 (z0G (z4X (z47 (z0t G_law_got (rm hr) rfl (z00 (pv 5) (z00 (pv 6) (z00 (z08 z07 rfl M.len PySem.boot_len (z00 (pv 7) z01)) (z00 (pv 2) (z00 (pv 9) (z00 (pv 10) z01))))))))) (z06 (z0o z3J)) z0h)))))) (z04 (z0G (z4X (z47 (z0t G_law_same (rm hr) rfl (z00 (z1o (z00 (z2R GBook_deeds (rm hr) (pv 5)) (z00 (z2R GBook_latest (rm hr) (pv 5)) z01))) (z00 (z1o (z00 (z08 z07 rfl M.len PySem.boot_len (z00 (pv 6) z01)) (z00 (z08 z07 rfl M.len PySem.boot_len (z00 (pv 7) z01)) z01))) z01))))) (z06 (z0o z3J)) z0h) (z04 (z2E PassesOwn.never rfl (y1y rfl M.range (z00 (z08 (z86 rfl) rfl M.max PyProof.Rows.boot_max (z00 z05 (z00 (z0c z2J (z08 z07 rfl M.len PySem.boot_len (z00 (pv 6) z01)) z05) z01))) (z00 (z0c z13 (z08 z07 rfl M.len PySem.boot_len (z00 (pv 6) z01)) z05) z01))) (z0u (i := 11) nd rfl (Or.inl rfl)) (z06 (z0G (z4X (z47 (z0t G_law_same (rm hr) rfl (z00 (z1x GBook_deed (rm hr) (pv 5) (z00 (pv 11) z01)) (z00 (z14 z0z (pv 6) (z0c z2J (pv 11) z05) (fun _ _ => rfl)) z01))))) (z06 (z0o z3J)) z0h))) (z20 (z0G (PW.pt (z6G (z0a z2f (z08 z07 rfl M.len PySem.boot_len (z00 (pv 7) z01)) z05 (z0g _)) (z7b (z4X (z47 (z0t G_law_same (rm hr) rfl (z00 (z1x GBook_issue (rm hr) (pv 5) (z00 (z08 z07 rfl M.len PySem.boot_len (z00 (pv 7) z01)) z01)) (z00 (z0t G_law_issue (rm hr) rfl (z00 (pv 7) (z00 (z08 z07 rfl M.len PySem.boot_len (z00 (pv 7) z01)) (z00 z05 z01)))) z01)))))))) (z06 (z0o z3J)) z0h) (z06 (z0o (z0t G_law_same (rm hr) rfl (z00 (z2R GShelf_had (rm hr) (y2o GBook_shelfD (rm hr) (pv 5) (z00 (pv 2) z01))) (z00 (z0B z0A rfl M.tuple PyProof.Rows.boot_tuple (z00 (z0t G_law_had_at (rm hr) rfl (z00 (pv 6) (z00 (pv 2) (z00 (z08 z07 rfl M.len PySem.boot_len (z00 (pv 6) z01)) z01)))) z01)) z01)))))))))))))))), ?_⟩
 have m0 : 0 ≤ ns.getD (1 : Int).toNat 0 % 3 := Int.emod_nonneg _ (by decide)
 have m3 : ns.getD (1 : Int).toNat 0 % 3 < 3 := Int.emod_lt_of_pos _ (by decide)
 refine ⟨_, rfl, a, ns, 0, rfl, hS, by decide, _, rfl, a, ns, 1, rfl, hS, by decide, _, _, rfl, rfl, (by show (0 : Int) < 3; decide), _, _, rfl, rfl, _, _, rfl, by omega, by omega, fun ln nm H1 nln s1 eN len1 N => ?_⟩
 have n1 : 1 ≤ nm.length := by omega
 have n12 : nm.length ≤ 12 := by omega
 clear m0 m3 len1
 have hS1 := s1.seq hS
 refine ⟨_, rfl, a, ns, 2, rfl, hS1, by decide, _, _, rfl, (by decide), fun rd0 rd1 rd2 => ⟨_, _, rfl, rfl, ?_⟩⟩
 have gn : GoodN nm := ⟨n1, n12, N.nd⟩
 refine ⟨fun σ' G => Same H1 G /\ ∃ m : Nat, m ≤ 60 /\ σ' = [some (.ref a), some (.ref ln), some (.int (1 + rd0)), some (.int m), none, none, none, none, none, none, none, none], ?_, ?_⟩
 ·refine ⟨_, rfl, a, ns, 3, rfl, hS1, by decide, _, _, rfl, rfl, ⟨by decide, by decide⟩, _, _, rfl, (by decide), fun p p0 p1 => ⟨(by show 3 ≤ sizeLine; decide), fun l1 hl1 => ?_⟩⟩
  obtain ⟨v, av, hv⟩ := z99 (x := p) (y := 60) (z := 1) (Int.emod_nonneg (ns.getD (3 : Int).toNat 0) (show (3 : Int) ≠ 0 by decide)) (Int.emod_lt_of_pos (ns.getD (3 : Int).toNat 0) (show (0 : Int) < 3 by decide))
  obtain ⟨vn, rfl⟩ : ∃ n : Nat, v = n := ⟨v.toNat, by omega⟩
  exact ⟨_, rfl, a, ns, 3, rfl, (z02 hl1 _).seq hS1, by decide, _, _, rfl, rfl, (by show (0 : Int) < 3; decide), l1, _, _, _, rfl, rfl, SqL.of z03, av, z02 hl1 _, vn, by omega, rfl⟩
 rintro σ' H2 ⟨s2, m, m60, rfl⟩
 have hS2 := s2.seq hS1
 refine ⟨fun σ' G => Same H1 G /\ ∃ full : Int, 390 ≤ full /\ full ≤ 400 /\ σ' = [some (.ref a), some (.ref ln), some (.int (1 + rd0)), some (.int m), some (.int full), none, none, none, none, none, none, none], ?_, ?_⟩
 ·refine ⟨_, rfl, a, ns, 4, rfl, hS2, by decide, _, _, rfl, rfl, ⟨by decide, by decide⟩, _, _, rfl, rfl, (by show (0 : Int) < 11; decide), _, _, rfl, rfl, (by show 3 ≤ sizeLine; decide), fun l1 hl1 => ?_⟩
  have q0 := Int.emod_nonneg (ns.getD (4 : Int).toNat 0 / 3) (show (11 : Int) ≠ 0 by decide)
  have q1 := Int.emod_lt_of_pos (ns.getD (4 : Int).toNat 0 / 3) (show (0 : Int) < 11 by decide)
  obtain ⟨v, av, hv⟩ := z99 (x := 399) (y := 390 + ns.getD (4 : Int).toNat 0 / 3 % 11) (z := 400) (Int.emod_nonneg (ns.getD (4 : Int).toNat 0) (show (3 : Int) ≠ 0 by decide)) (Int.emod_lt_of_pos (ns.getD (4 : Int).toNat 0) (show (0 : Int) < 3 by decide))
  exact ⟨_, rfl, a, ns, 4, rfl, (z02 hl1 _).seq hS2, by decide, _, _, rfl, rfl, (by show (0 : Int) < 3; decide), l1, _, _, _, rfl, rfl, SqL.of z03, av, s2.trans (z02 hl1 _), v, by omega, by omega, rfl⟩
 clear hS2 s2
 rintro σ' H3 ⟨s3, full, f390, f400, rfl⟩
 have hS3 := s3.seq hS1
 have eN3 := s3 _ _ eN
 clear H2
 refine ⟨_, rfl, ln, nm.map V.str, rfl, .inl (SqL.of eN3), fun l1 hl1 => ⟨_, rfl, fun x dx nx ndx ne => ?_⟩⟩
 have mm1 := z5r (C := CBook) (z02 hl1 (.lst (nm.map V.str))) nx ndx
 refine ⟨x, dx, l1, nm, 3, 1 + rd0, rfl, z03, ne, by rw [z0b ne, z03], .inl (SqL.of (z7X nx ndx z03)), gn, by decide, by decide, by omega, by omega, fun fp H8 hfp b8 bk8 => ⟨rfl, ?_⟩⟩
 have s8 : Same H3 H8 := z5v b8 mm1 ((z02 hl1 _).free nx)
 have f8 : ∀ b ∈ fp, H3 b = none := fun b hb => z4O mm1 ((z02 hl1 _).free nx) ((z02 hl1 _).free ndx) (hfp b hb)
 refine ⟨_, rfl, _, rfl, _, rfl, _, rfl, _, rfl, a, ns, 5, rfl, s8.seq hS3, by decide, x, fp, nm, 3, 1 + rd0, m, full, _, rfl, bk8, m60, by omega, by omega, by omega, f400, fun fp9 l us log H9 ff9 b9 nl9 nlf el pl l400 inL bk9 => ?_⟩
 have s9 : Same H3 H9 := fun b o e => b9 b o (s8 _ _ e) fun mm => by rw [f8 b mm] at e; cases e
 have f9 : ∀ b ∈ fp9, H3 b = none := fun b hb => (ff9 b hb).elim (f8 b) fun z => s8.free z
 have nl3 : H3 l = none := s8.free nl9
 clear mm1 b8 hfp bk8 b9 f8 ff9 hl1 nx ndx ne s8 nl9
 refine ⟨(by show 0 ≤ sizeLine; decide), fun t0 ht0 => ⟨(by show 1 ≤ sizeLine; decide), fun l2 hl2 => ⟨_, rfl, l2, _, _, rfl, rfl, z03, by omega, by omega, (by show 1 * m ≤ sizeLine; exact z68 (by omega)), fun lr hlr => ?_⟩⟩⟩
 have s10 := (z02 ht0 (.tup [])).trans ((z02 hl2 (.lst [V.ref t0])).trans (z02 hlr (.lst (List.replicate m [V.ref t0]).flatten)))
 have et0 : upd (upd (upd H9 t0 (.tup [])) l2 (.lst [V.ref t0])) lr (.lst (List.replicate m [V.ref t0]).flatten) t0 = some (.tup []) := z02 hlr _ _ _ (z02 hl2 _ _ _ z03)
 have er : upd (upd (upd H9 t0 (.tup [])) l2 (.lst [V.ref t0])) lr (.lst (List.replicate m [V.ref t0]).flatten) lr = some (.lst (List.replicate m [V.ref t0]).flatten) := z03
 have nr3 : H3 lr = none := (s9.trans ((z02 ht0 _).trans (z02 hl2 _))).free hlr
 have nrl : l ≠ lr := fun e => by rw [<- e, (z02 hl2 _) _ _ ((z02 ht0 _) _ _ el)] at hlr; cases hlr
 have nrf : lr ∉ fp9 := fun mm => by obtain ⟨o, e, _⟩ := O.own bk9 _ mm; rw [(z02 hl2 _) _ _ ((z02 ht0 _) _ _ e)] at hlr; cases hlr
 rw [show ((m : Nat) : Int).toNat = m from rfl]
 generalize upd (upd (upd H9 t0 (.tup [])) l2 (.lst [V.ref t0])) lr (.lst (List.replicate m [V.ref t0]).flatten) = H10 at s10 et0 er ⊢
 have B10 : LawBk Bk H10 x l lr fp9 nm (1 + rd0) (List.replicate m []) log := ⟨O.same bk9 s10, nlf, nrf, nrl, by rw [List.length_replicate]; exact m60, l400, inL, ⟨fun w hw => by rw [List.eq_of_mem_replicate hw]; exact List.nil_sublist _, fun w hw p hp => by rw [List.eq_of_mem_replicate hw] at hp; cases hp⟩, _, _, s10 _ _ el, DeedsAt.keep s10 pl, er, z67 et0 m⟩
 have t10 := s9.trans s10
 clear s10 et0 er nrf nrl hlr hl2 ht0 bk9 inL l400 pl el nlf s9
 refine ⟨3, rfl, by decide, by decide, ?_⟩
 refine z2K (lo := 0) (n := 3) (fun i σ G => ∃ (fp' : List Addr) (rows : List Row) (log : List Deed) (o8 o9 o10 : Option V), Same H3 G /\ (∀ b ∈ fp', H3 b = none) /\ LawBk Bk G x l lr fp' nm (1 + rd0) rows log /\
   σ = [some (.ref a), some (.ref ln), some (.int (1 + rd0)), some (.int m), some (.int full), some (.ref x), some (.ref l), some (.ref lr), o8, o9, o10, none]) ⟨fp9, _, log, none, none, none, t10, f9, B10, rfl⟩ (fun i σ G hi hp => ?_) (fun σ G hp => ?_)
 ·obtain ⟨fp', rows, log, o8, o9, o10, g, ff, B, rfl⟩ := hp
  have ez : (0 : Int) + (i : Int) = i := Int.zero_add _
  rw [ez]
  have eNl : ln ≠ l := fun e => by rw [e, nl3] at eN3; cases eN3
  have eNr : ln ≠ lr := fun e => by rw [e, nr3] at eN3; cases eN3
  have eNf : ln ∉ fp' := fun mm => by rw [ff _ mm] at eN3; cases eN3
  refine ⟨_, rfl, _, rfl, _, rfl, _, rfl, _, rfl, _, rfl, _, _, rfl, rfl, .inl (by decide), _, _, rfl, rfl, a, ns, _, rfl, g.seq hS3, by omega, _, _, rfl, rfl, ⟨by decide, by decide, by decide⟩, _, _, rfl, (by decide), fun c c0 c1 => ?_⟩
  refine ⟨x, l, lr, ln, fp', nm, 1 + rd0, rows, log, c, rfl, B, g _ _ eN3, eNf, eNl, eNr, n1, n12, N, fun fp2 rows2 log2 G2 hf2 b2 B2 => ⟨_, rfl, iteF ?_⟩⟩
  have out : ∀ {b : Addr} {o : HO} {fq : List Addr}, (∀ b ∈ fq, H3 b = none) -> H3 b = some o -> b ∉ l :: lr :: fq := fun hq e mm => by
   rcases List.mem_cons.mp mm with rfl | mm
   ·rw [nl3] at e; cases e
   rcases List.mem_cons.mp mm with rfl | mm
   ·rw [nr3] at e; cases e
   ·rw [hq _ mm] at e; cases e
  have g2 : Same H3 G2 := fun b o e => b2 b o (g b o e) (out ff e)
  have ff2 : ∀ b ∈ fp2, H3 b = none := fun b hb => (hf2 b hb).elim (ff b) fun z => g.free z
  clear b2 B hf2 ff g eNl eNr eNf c0 c1
  obtain ⟨us, ws, _, _, er, tl⟩ := B2.st
  have lws : ws.length = rows2.length := by rw [tl.length, List.length_map]
  obtain ⟨rd, ard⟩ := y1m (x := 1) (y := 1 + rd0) (z := 0) (t := 1 + rd0 + 1) (Int.emod_nonneg (ns.getD (7 + 3 * (i : Int)).toNat 0) (show (4 : Int) ≠ 0 by decide)) (Int.emod_lt_of_pos (ns.getD (7 + 3 * (i : Int)).toNat 0) (show (0 : Int) < 4 by decide))
  obtain ⟨n, an⟩ := y1m (x := 1) (y := ws.length) (z := ws.length + 1) (t := 0) (Int.emod_nonneg (ns.getD (8 + 3 * (i : Int)).toNat 0) (show (4 : Int) ≠ 0 by decide)) (Int.emod_lt_of_pos (ns.getD (8 + 3 * (i : Int)).toNat 0) (show (0 : Int) < 4 by decide))
  refine ⟨_, rfl, _, rfl, _, _, rfl, rfl, (by show 4 ≤ sizeLine; decide), fun l4 hl4 => ?_⟩
  have t4 := z02 hl4 (.lst [V.int 1, V.int (1 + rd0), V.int 0, V.int (1 + rd0 + 1)])
  refine ⟨_, rfl, _, rfl, _, _, rfl, rfl, .inl (by decide), _, _, rfl, rfl, a, ns, _, rfl, (g2.trans t4).seq hS3, by omega, _, _, rfl, rfl, (by show (0 : Int) < 4; decide), l4, _, _, _, rfl, rfl, SqL.of z03, ard, ?_⟩
  refine ⟨_, rfl, lr, ws, rfl, .inl (SqL.of (t4 _ _ er)), _, rfl, lr, ws, rfl, .inl (SqL.of (t4 _ _ er)), _, _, rfl, rfl, (by show 4 ≤ sizeLine; decide), fun l5 hl5 => ?_⟩
  have t5 := t4.trans (z02 hl5 (.lst [V.int 1, V.int ws.length, V.int (ws.length + 1), V.int 0]))
  refine ⟨_, rfl, _, rfl, _, _, rfl, rfl, .inl (by decide), _, _, rfl, rfl, a, ns, _, rfl, (g2.trans t5).seq hS3, by omega, _, _, rfl, rfl, (by show (0 : Int) < 4; decide), l5, _, _, _, rfl, rfl, SqL.of z03, an, ?_⟩
  refine ⟨_, rfl, _, rfl, _, rfl, lr, ws, rfl, .inl (SqL.of (t5 _ _ er)), _, rfl, _, rfl, _, rfl, x, l, lr, fp2, nm, 1 + rd0, rows2, log2, rd, n, by rw [lws]; rfl, B2.same O t5, fun log3 G3 b3 B3 => ⟨_, rfl, iteF ?_⟩⟩
  have g3 : Same H3 G3 := fun b o e => b3 b o (t5 _ _ (g2 b o e)) fun mm => out ff2 e (by
   rcases List.mem_cons.mp mm with h | h
   ·rw [h]; exact List.mem_cons_self
   ·exact List.mem_cons_of_mem _ (List.mem_cons_of_mem _ h))
  exact ⟨fp2, rows2, log3, _, _, _, g3, ff2, B3, rfl⟩
 obtain ⟨fp, rows, log, o8, o9, o10, g, ff, B, rfl⟩ := hp
 obtain ⟨us, ws, el, pl, er, tl⟩ := B.st
 have lu := z0Y pl
 have lws : ws.length = rows.length := by rw [tl.length, List.length_map]
 have bk := B.bk
 obtain ⟨d3, g3, q3, w3⟩ := O.ins bk
 refine ⟨_, rfl, x, d3, g3, rfl, q3, w3 _ (by simp), x, fp, nm, 3, 1 + rd0, _, _, rfl, bk, _, rfl, x, d3, g3, rfl, q3, w3 _ (by simp), x, fp, nm, 3, 1 + rd0, _, _, rfl, bk, fun H14 s14 => ⟨(by show 2 ≤ sizeLine; decide), fun t ht => ?_⟩⟩
 have t14 := s14.trans (z02 ht (.tup [V.int log.length, V.int rows.length]))
 refine ⟨_, rfl, l, us, rfl, .inl (SqL.of (t14 _ _ el)), _, rfl, lr, ws, rfl, .inl (SqL.of (t14 _ _ er)), (by show 2 ≤ sizeLine; decide), fun t2 ht2 => ⟨.ref t, .ref t2, rfl, ?_, fun H15 s15 => ⟨_, rfl, iteF ?_⟩⟩⟩
 ·exact (z1L (.tup [.int ((us.length : Nat) : Int), .int ((ws.length : Nat) : Int)]) _ _ (y0E (z02 ht2 _ _ _ z03) (by rw [lu]) (by rw [lws])) (z8Z z03)).mono (Nat.le_trans (y2h _ _) (by decide))
 have t15 := t14.trans ((z02 ht2 (.tup [V.int us.length, V.int ws.length])).trans s15)
 have B15 := B.same O t15
 have el15 := t15 _ _ el
 have er15 := t15 _ _ er
 have pl15 := DeedsAt.keep t15 pl
 have tl15 := z0d.keep t15 _ _ tl
 clear ht ht2 s14 s15 t14 t15 bk el pl q3 w3 er tl B
 have l4 := B15.l4
 have l6 := B15.l6
 refine ⟨_, rfl, l, us, rfl, .inl (SqL.of el15), _, _, rfl, rfl, ?_⟩
 refine ⟨_, _, rfl, _, rfl, l, us, rfl, .inl (SqL.of el15), _, _, rfl, rfl, ?_⟩
 have hlo : 1 ≤ (if (us.length : Int) - 7 > 1 then (us.length : Int) - 7 else 1) /\ (if (us.length : Int) - 7 > 1 then (us.length : Int) - 7 else 1) ≤ us.length + 1 := by
  split <;> omega
 generalize (if (us.length : Int) - 7 > 1 then (us.length : Int) - 7 else 1) = lo at hlo ⊢
 refine ⟨lo, (us.length : Int) + 1, rfl, ⟨by omega, by omega, by omega, by omega⟩, ?_⟩
 refine z2K (lo := lo) (n := ((us.length : Int) + 1 - lo).toNat) (fun i σ G => ∃ (o11 : Option V), Same H15 G /\ σ = [some (.ref a), some (.ref ln), some (.int (1 + rd0)), some (.int m), some (.int full), some (.ref x), some (.ref l), some (.ref lr), o8, o9, o10, o11]) ⟨_, Same.refl _, rfl⟩ (fun i σ G hi hp => ?_) (fun σ G hp => ?_)
 ·obtain ⟨o11, g, rfl⟩ := hp
  obtain ⟨j, hj⟩ : ∃ j : Nat, lo + (i : Int) = (j : Int) + 1 := ⟨(lo + i - 1).toNat, by omega⟩
  rw [hj]
  have hj' : j < log.length := by omega
  have ed : log[j]? = some log[j] := List.getElem?_eq_getElem hj'
  generalize log[j] = d at ed
  obtain ⟨u, eu, du⟩ := z7J (DeedsAt.keep g pl15) j d ed
  have bk2 := O.same B15.bk g
  obtain ⟨d2, g2, z2, w2⟩ := O.ins bk2
  refine ⟨_, rfl, x, d2, g2, rfl, z2, w2 _ (by simp), _, rfl, x, fp, nm, 3, 1 + rd0, _, _, j, d, rfl, bk2, ed, fun v tv => ?_⟩
  refine ⟨_, rfl, _, rfl, _, _, rfl, rfl, l, us, _, u, rfl, rfl, SqL.of (g _ _ el15), by rw [Int.add_sub_cancel]; exact z1E eu, v, u, rfl, (z1L _ _ _ tv (z84 du)).mono (Nat.le_trans (y0v _) (by decide)), fun G2 s2 => ⟨_, rfl, iteF ?_⟩⟩
  exact ⟨_, g.trans s2, rfl⟩
 obtain ⟨o11, g, rfl⟩ := hp
 have B16 := B15.same O g
 have el16 := g _ _ el15
 have pl16 := DeedsAt.keep g pl15
 have er16 := g _ _ er15
 have tl16 := z0d.keep g _ _ tl15
 have fork : ∀ {A B : Prop} (c : Bool), (c = true -> A) -> (c = false -> B) -> if c = true then A else B := fun c h1 h2 => by
  cases c
  ·exact h2 rfl
  ·exact h1 rfl
 refine ⟨fun σ' G2 => Same G G2 /\ σ' = [some (.ref a), some (.ref ln), some (.int (1 + rd0)), some (.int m), some (.int full), some (.ref x), some (.ref l), some (.ref lr), o8, o9, o10, o11], ?_, ?_⟩
 ·refine ⟨_, rfl, lr, ws, rfl, .inl (SqL.of er16), _, _, rfl, rfl, _, rfl, fork _ (fun hp => ?_) (fun _ => iteF ⟨Same.refl _, rfl⟩)⟩
  have hp' : (0 : Int) < ws.length := of_decide_eq_true hp
  have rows12 : ∀ w ∈ rows, w.length ≤ 12 := fun w hw => by
   have := (B16.R.sub w hw).length_le
   rw [List.length_map] at this
   omega
  obtain ⟨d2, g2, z2, w2⟩ := O.ins B16.bk
  refine ⟨_, rfl, x, d2, g2, rfl, z2, w2 _ (by simp), _, rfl, lr, ws, rfl, .inl (SqL.of er16), x, fp, nm, 3, 1 + rd0, rows, log, ws.length, rfl, B16.bk, by omega, by omega, fun v1 G3 t3 tv1 => ?_⟩
  refine ⟨_, rfl, _, rfl, lr, ws, rfl, .inl (SqL.of (t3 _ _ er16)), lr, ws, rows, ws.length, 3, rfl, SqL.of (t3 _ _ er16), z0d.keep t3 _ _ tl16, by omega, rows12, by omega, by omega, fun v2 G4 t4 tv2 => ?_⟩
  exact ⟨v1, v2, rfl, (z1L _ _ _ (Tell.keep t4 _ _ tv1) tv2).mono (Nat.le_trans (z9X _ _ _) (by decide)), fun G5 t5 => ⟨_, rfl, iteF ⟨t3.trans (t4.trans t5), rfl⟩⟩⟩
 rintro σ' G6 ⟨g6, rfl⟩
 have bk6 := O.same B16.bk g6
 obtain ⟨d4, h4, z4, w4⟩ := O.ins bk6
 refine ⟨_, rfl, x, d4, h4, rfl, z4, w4 _ (by simp), _, rfl, x, fp, nm, 3, 1 + rd0, _, log, 1 + rd0, none, rfl, bk6, by omega, by omega, (fun d' h => by cases h), fun x1 fq G7 fn s7 sh => ?_⟩
 have sh1 : Sh G7 x1 fq nm 3 (fun n => z1r rows n 3) (gotL log (1 + rd0)) := by
  have e : log.take ((none : Option Nat).getD log.length) = log := List.take_length
  rw [e] at sh
  exact sh
 obtain ⟨d5, h5, z5, w5⟩ := OS.ins sh1
 refine ⟨x1, d5, h5, rfl, z5, w5 _ (by simp), x1, fq, nm, 3, _, _, rfl, sh1, fun lt G8 s8 e8 => ?_⟩
 have g8 := g6.trans (s7.trans s8)
 refine ⟨_, rfl, _, rfl, _, rfl, l, us, rfl, .inl (SqL.of (g8 _ _ el16)), l, us, log, 1 + rd0, us.length, rfl, g8 _ _ el16, DeedsAt.keep g8 pl16, by omega, B16.inL, fun lo2 G9 nlo s9 e9 => ?_⟩
 rw [lu, List.take_length] at e9
 refine ⟨lo2, _, rfl, .inl ⟨SqL.of e9, fun t2 ht2 => ?_⟩⟩
 have tin : ∀ {X : Hp} {t : Addr}, X t = some (.tup ((z2V (gotL log (1 + rd0))).map V.int)) -> Tell X (.tup ((z2V (gotL log (1 + rd0))).map DV.int)) (.ref t) := fun {X t} e => z0v e (by have := y0a (gotL log (1 + rd0)); rw [List.length_map]; omega) (z3B _)
 refine ⟨.ref lt, .ref t2, rfl, (z1L _ _ _ (tin (z02 ht2 _ _ _ (s9 _ _ e8))) (tin z03)).mono ?_, fun G10 s10 => q _⟩
 refine Nat.le_trans (z1G (n := 0) fun d hd => ?_) (by decide)
 obtain ⟨i, _, rfl⟩ := List.mem_map.mp hd
 exact z29 _ _
end
theorem y3X {l : PySem.W.OpenLaw} {w : World} {K : PySem.W.Frag} {h : Heap} {mg : Str -> Option Value} {fa : Addr} (X : K.In h) (G : h.Ns mainGlobals mg) (hfa : mg "law" = some (.ref fa))
  {f0 f1 f2 f3 f4 f5 f6 f7 f8 f9 f10 f11 f12 f13 f14 f15 f16 f17 f18 f19 f20 f21 f22 f23 f24 f25 f26 f27 f28 f29 f30 f31 f32 f33 f34 f35 f36 f37 f38 f39 f40 f41 f42 f43 f44 f45 f46 f47 COffice CShelf CBook CBackError CBadNames CBadReach CBadReaders COfficeFull CUnknownName CNameTwice CBadValue CNotWritten CUnknownReader CBookFull CNoSuchDeed CTooManyCourses T32 : Addr} {tMOST_NAMES tMOST_REACH tMOST_NUMBERS tMOST_VALUE tMOST_READERS tMOST_DEEDS tWRITE tDELIVER : Tok}
  (cOffice : DfC K "Office" COffice)
  (cShelf : DfC K "Shelf" CShelf)
  (cBook : DfC K "Book" CBook)
  (nOffice_names : PySem.W.findIn K (.ref COffice) "names" = some none)
  (nOffice_reach : PySem.W.findIn K (.ref COffice) "reach" = some none)
  (nOffice_written : PySem.W.findIn K (.ref COffice) "written" = some none)
  (nShelf_names : PySem.W.findIn K (.ref CShelf) "names" = some none)
  (nShelf_reach : PySem.W.findIn K (.ref CShelf) "reach" = some none)
  (nShelf_issues : PySem.W.findIn K (.ref CShelf) "issues" = some none)
  (nBook_office : PySem.W.findIn K (.ref CBook) "office" = some none)
  (nBook_readers : PySem.W.findIn K (.ref CBook) "readers" = some none)
  (nBook_done : PySem.W.findIn K (.ref CBook) "done" = some none)
  (a0 : DfT K "_wall" y4s .none f0)
  (a1 : DfT K "refuse_bad_names" z1J .none f1)
  (a2 : DfT K "refuse_bad_reach" z1I .none f2)
  (a3 : DfT K "bulletin_names" z2a .none f3)
  (a4 : DfT K "refuse_unknown_name" z15 .none f4)
  (a5 : DfT K "reached_by" z45 .none f5)
  (a6 : DfT K "tail_for" z5R .none f6)
  (a7 : DfT K "refuse_bad_value" z1n .none f7)
  (a8 : DfT K "refuse_bad_rows" z1u .none f8)
  (a9 : DfT K "rows_in_order" z2z .none f9)
  (a10 : DfT K "names_of_rows" z2A .none f10)
  (a11 : DfM K COffice "__init__" "Office.__init__" z23 .none f11)
  (a12 : DfM K COffice "refuse_writing" "Office.refuse_writing" z0Q .none f12)
  (a13 : DfM K COffice "write" "Office.write" z28 .none f13)
  (a14 : DfM K COffice "latest" "Office.latest" z2v .none f14)
  (a15 : DfM K COffice "issue" "Office.issue" z27 .none f15)
  (a16 : DfM K CShelf "__init__" "Shelf.__init__" z2c .none f16)
  (a17 : DfM K CShelf "put" "Shelf.put" z4D .none f17)
  (a18 : DfM K CShelf "had" "Shelf.had" z4F .none f18)
  (a19 : DfM K CShelf "latest" "Shelf.latest" z2P .none f19)
  (a20 : DfM K CShelf "rows_of" "Shelf.rows_of" z6b .none f20)
  (a21 : DfM K CShelf "tail_of" "Shelf.tail_of" z6g .none f21)
  (a22 : DfT K "refuse_bad_readers" z1w .none f22)
  (a23 : DfM K CBook "__init__" "Book.__init__" z2x .none f23)
  (a24 : DfM K CBook "refuse_unknown_reader" "Book.refuse_unknown_reader" z0C .none f24)
  (a25 : DfM K CBook "refuse_further_deed" "Book.refuse_further_deed" z0J .none f25)
  (a26 : DfM K CBook "write" "Book.write" z2T .none f26)
  (a27 : DfM K CBook "deliver" "Book.deliver" z26 .none f27)
  (a28 : DfM K CBook "latest" "Book.latest" z3r .none f28)
  (a29 : DfM K CBook "issue" "Book.issue" z2W .none f29)
  (a30 : DfM K CBook "deeds" "Book.deeds" z3T .none f30)
  (a31 : DfM K CBook "deed" "Book.deed" z3F .none f31)
  (a32 : DfM K CBook "shelf" "Book.shelf" z3W (.ref T32) f32)
  (a33 : DfT K "_law_at" z76 .none f33)
  (a34 : DfT K "_law_pick" z4R .none f34)
  (a35 : DfT K "_law_row" z5p .none f35)
  (a36 : DfT K "_law_same" z3E .none f36)
  (a37 : DfT K "_law_named" z43 .none f37)
  (a38 : DfT K "_law_strange" z32 .none f38)
  (a39 : DfT K "_law_issue" z42 .none f39)
  (a40 : DfT K "_law_had_at" z3k .none f40)
  (a41 : DfT K "_law_spoilt" z3p .none f41)
  (a42 : DfT K "_law_refusal" z31 .none f42)
  (a43 : DfT K "_law_done" z4P .none f43)
  (a44 : DfT K "_law_filled_up" z2b .none f44)
  (a45 : DfT K "_law_wrote" z3S .none f45)
  (a46 : DfT K "_law_got" z5x .none f46)
  (a47 : DfT K "law" slaw .none f47)
  (d32 : DfD K T32 #[Value.none])
  (xBackError : PySem.W.nsIn K mainGlobals "BackError" = some (some (.ref CBackError)))
  (xBadNames : PySem.W.nsIn K mainGlobals "BadNames" = some (some (.ref CBadNames)))
  (xBadReach : PySem.W.nsIn K mainGlobals "BadReach" = some (some (.ref CBadReach)))
  (xBadReaders : PySem.W.nsIn K mainGlobals "BadReaders" = some (some (.ref CBadReaders)))
  (xOfficeFull : PySem.W.nsIn K mainGlobals "OfficeFull" = some (some (.ref COfficeFull)))
  (xUnknownName : PySem.W.nsIn K mainGlobals "UnknownName" = some (some (.ref CUnknownName)))
  (xNameTwice : PySem.W.nsIn K mainGlobals "NameTwice" = some (some (.ref CNameTwice)))
  (xBadValue : PySem.W.nsIn K mainGlobals "BadValue" = some (some (.ref CBadValue)))
  (xNotWritten : PySem.W.nsIn K mainGlobals "NotWritten" = some (some (.ref CNotWritten)))
  (xUnknownReader : PySem.W.nsIn K mainGlobals "UnknownReader" = some (some (.ref CUnknownReader)))
  (xBookFull : PySem.W.nsIn K mainGlobals "BookFull" = some (some (.ref CBookFull)))
  (xNoSuchDeed : PySem.W.nsIn K mainGlobals "NoSuchDeed" = some (some (.ref CNoSuchDeed)))
  (xTooManyCourses : PySem.W.nsIn K mainGlobals "TooManyCourses" = some (some (.ref CTooManyCourses)))
  (xb : PySem.W.excIn K CBackError veL "ValueError.__new__" = true) (xc : z7N K CBackError [CBadNames, CBadReach, CBadReaders, COfficeFull, CUnknownName, CNameTwice, CBadValue, CNotWritten, CUnknownReader, CBookFull, CNoSuchDeed, CTooManyCourses] = true)
  (zlen : PySem.W.nsIn K mainGlobals "len" = some none) (zrange : PySem.W.nsIn K mainGlobals "range" = some none) (ztuple : PySem.W.nsIn K mainGlobals "tuple" = some none) (zlist : PySem.W.nsIn K mainGlobals "list" = some none) (zmax : PySem.W.nsIn K mainGlobals "max" = some none) (zmin : PySem.W.nsIn K mainGlobals "min" = some none) (zsorted : PySem.W.nsIn K mainGlobals "sorted" = some none) (zisinstance : PySem.W.nsIn K mainGlobals "isinstance" = some none) (zbool : PySem.W.nsIn K mainGlobals "bool" = some none) (zint : PySem.W.nsIn K mainGlobals "int" = some none) (zstr : PySem.W.nsIn K mainGlobals "str" = some none) (zset : PySem.W.nsIn K mainGlobals "set" = some none) (zreversed : PySem.W.nsIn K mainGlobals "reversed" = some none) (zdict : PySem.W.nsIn K mainGlobals "dict" = some none) (zzip : PySem.W.nsIn K mainGlobals "zip" = some none) (zall : PySem.W.nsIn K mainGlobals "all" = some none) (zValueError : PySem.W.nsIn K mainGlobals "ValueError" = some none) (vMOST_NAMES : PySem.W.nsIn K mainGlobals "MOST_NAMES" = some (some (.int 12 tMOST_NAMES))) (vMOST_REACH : PySem.W.nsIn K mainGlobals "MOST_REACH" = some (some (.int 10 tMOST_REACH))) (vMOST_NUMBERS : PySem.W.nsIn K mainGlobals "MOST_NUMBERS" = some (some (.int 60 tMOST_NUMBERS))) (vMOST_VALUE : PySem.W.nsIn K mainGlobals "MOST_VALUE" = some (some (.int 1000000 tMOST_VALUE))) (vMOST_READERS : PySem.W.nsIn K mainGlobals "MOST_READERS" = some (some (.int 10 tMOST_READERS))) (vMOST_DEEDS : PySem.W.nsIn K mainGlobals "MOST_DEEDS" = some (some (.int 400 tMOST_DEEDS))) (vWRITE : PySem.W.nsIn K mainGlobals "WRITE" = some (some (.str "write" tWRITE))) (vDELIVER : PySem.W.nsIn K mainGlobals "DELIVER" = some (some (.str "deliver" tDELIVER))) :
  ∃ fd : FuncData, (∀ (s : Shared) (v : Value), BindsTo s fd ⟨[v], []⟩ [("_law_script", v)]) /\ ∀ base : Heap, K.In base -> base.Ns mainGlobals mg -> FnOk l.prog w K mg base CX0 14 fa fd ["_law_script"] (y28 K) := by
 have M : Bl mg := ⟨PySem.W.mg_none_of X G zlen, PySem.W.mg_none_of X G zrange, PySem.W.mg_none_of X G ztuple, PySem.W.mg_none_of X G zlist, PySem.W.mg_none_of X G zmax, PySem.W.mg_none_of X G zmin, PySem.W.mg_none_of X G zsorted, PySem.W.mg_none_of X G zisinstance, PySem.W.mg_none_of X G zbool, PySem.W.mg_none_of X G zint, PySem.W.mg_none_of X G zstr, PySem.W.mg_none_of X G zset, PySem.W.mg_none_of X G zreversed, PySem.W.mg_none_of X G zdict, PySem.W.mg_none_of X G zzip, PySem.W.mg_none_of X G zall, PySem.W.mg_none_of X G zValueError, ⟨_, PySem.W.mg_of X G vMOST_NAMES⟩, ⟨_, PySem.W.mg_of X G vMOST_REACH⟩, ⟨_, PySem.W.mg_of X G vMOST_NUMBERS⟩, ⟨_, PySem.W.mg_of X G vMOST_VALUE⟩, ⟨_, PySem.W.mg_of X G vMOST_READERS⟩, ⟨_, PySem.W.mg_of X G vMOST_DEEDS⟩, ⟨_, PySem.W.mg_of X G vWRITE⟩, ⟨_, PySem.W.mg_of X G vDELIVER⟩⟩
 have TOffice : TxOffice K mg COffice := ⟨cOffice.cls, cOffice.nm X G, nOffice_names, nOffice_reach, nOffice_written⟩
 have TShelf : TxShelf K mg CShelf := ⟨cShelf.cls, cShelf.nm X G, nShelf_names, nShelf_reach, nShelf_issues⟩
 have TBook : TxBook K mg CBook := ⟨cBook.cls, cBook.nm X G, nBook_office, nBook_readers, nBook_done⟩
 obtain ⟨_, F_wall⟩ := z17 X G a0
 obtain ⟨_, Frefuse_bad_names⟩ := z17 X G a1
 obtain ⟨_, Frefuse_bad_reach⟩ := z17 X G a2
 obtain ⟨_, Fbulletin_names⟩ := z17 X G a3
 obtain ⟨_, Frefuse_unknown_name⟩ := z17 X G a4
 obtain ⟨_, Freached_by⟩ := z17 X G a5
 obtain ⟨_, Ftail_for⟩ := z17 X G a6
 obtain ⟨_, Frefuse_bad_value⟩ := z17 X G a7
 obtain ⟨_, Frefuse_bad_rows⟩ := z17 X G a8
 obtain ⟨_, Frows_in_order⟩ := z17 X G a9
 obtain ⟨_, Fnames_of_rows⟩ := z17 X G a10
 obtain ⟨_, FOffice___init__⟩ := z8h cOffice a11
 obtain ⟨_, FOffice_refuse_writing⟩ := z1g a12
 obtain ⟨_, FOffice_write⟩ := z1g a13
 obtain ⟨_, FOffice_latest⟩ := z1g a14
 obtain ⟨_, FOffice_issue⟩ := z1g a15
 obtain ⟨_, FShelf___init__⟩ := z8h cShelf a16
 obtain ⟨_, FShelf_put⟩ := z1g a17
 obtain ⟨_, FShelf_had⟩ := z1g a18
 obtain ⟨_, FShelf_latest⟩ := z1g a19
 obtain ⟨_, FShelf_rows_of⟩ := z1g a20
 obtain ⟨_, FShelf_tail_of⟩ := z1g a21
 obtain ⟨_, Frefuse_bad_readers⟩ := z17 X G a22
 obtain ⟨_, FBook___init__⟩ := z8h cBook a23
 obtain ⟨_, FBook_refuse_unknown_reader⟩ := z1g a24
 obtain ⟨_, FBook_refuse_further_deed⟩ := z1g a25
 obtain ⟨_, FBook_write⟩ := z1g a26
 obtain ⟨_, FBook_deliver⟩ := z1g a27
 obtain ⟨_, FBook_latest⟩ := z1g a28
 obtain ⟨_, FBook_issue⟩ := z1g a29
 obtain ⟨_, FBook_deeds⟩ := z1g a30
 obtain ⟨_, FBook_deed⟩ := z1g a31
 obtain ⟨_, FBook_shelf⟩ := y27 a32 d32
 have BBook_shelf := FBook_shelf.1.binds (ps := ["self", "reader", "deed"]) (ds := []) fun _ _ _ _ _ _ us hl => len3 (p := fun us => ∃ k, bindArgs _ ⟨us, []⟩ = seqItems? _ >>= k /\ k (some _) = pure (List.zip _ (us ++ []))) hl fun _ _ _ => ⟨_, rfl, rfl⟩
 have BBook_shelfD := FBook_shelf.1.binds (ps := ["self", "reader", "deed"]) (ds := [Value.none]) fun _ _ _ _ _ _ us hl => len2 (p := fun us => ∃ k, bindArgs _ ⟨us, []⟩ = seqItems? _ >>= k /\ k (some _) = pure (List.zip _ (us ++ [Value.none]))) (Nat.succ.inj (hl)) fun _ _ => ⟨_, rfl, rfl⟩
 obtain ⟨_, F_law_at⟩ := z17 X G a33
 obtain ⟨_, F_law_pick⟩ := z17 X G a34
 obtain ⟨_, F_law_row⟩ := z17 X G a35
 obtain ⟨_, F_law_same⟩ := z17 X G a36
 obtain ⟨_, F_law_named⟩ := z17 X G a37
 obtain ⟨_, F_law_strange⟩ := z17 X G a38
 obtain ⟨_, F_law_issue⟩ := z17 X G a39
 obtain ⟨_, F_law_had_at⟩ := z17 X G a40
 obtain ⟨_, F_law_spoilt⟩ := z17 X G a41
 obtain ⟨_, F_law_refusal⟩ := z17 X G a42
 obtain ⟨_, F_law_done⟩ := z17 X G a43
 obtain ⟨_, F_law_filled_up⟩ := z17 X G a44
 obtain ⟨_, F_law_wrote⟩ := z17 X G a45
 obtain ⟨_, F_law_got⟩ := z17 X G a46
 obtain ⟨_, Flaw⟩ := z17 X G a47
 have ers : Errs K CBackError [CBadNames, CBadReach, CBadReaders, COfficeFull, CUnknownName, CNameTwice, CBadValue, CNotWritten, CUnknownReader, CBookFull, CNoSuchDeed, CTooManyCourses] := ⟨xc⟩
 have eBackError : Err K mg "BackError" CBackError := ⟨PySem.W.mg_of X G xBackError, xb⟩
 have eBadNames : Err K mg "BadNames" CBadNames := ⟨PySem.W.mg_of X G xBadNames, (ers.one (by simp)).1.ex⟩
 have eBadReach : Err K mg "BadReach" CBadReach := ⟨PySem.W.mg_of X G xBadReach, (ers.one (by simp)).1.ex⟩
 have eBadReaders : Err K mg "BadReaders" CBadReaders := ⟨PySem.W.mg_of X G xBadReaders, (ers.one (by simp)).1.ex⟩
 have eOfficeFull : Err K mg "OfficeFull" COfficeFull := ⟨PySem.W.mg_of X G xOfficeFull, (ers.one (by simp)).1.ex⟩
 have eUnknownName : Err K mg "UnknownName" CUnknownName := ⟨PySem.W.mg_of X G xUnknownName, (ers.one (by simp)).1.ex⟩
 have eNameTwice : Err K mg "NameTwice" CNameTwice := ⟨PySem.W.mg_of X G xNameTwice, (ers.one (by simp)).1.ex⟩
 have eBadValue : Err K mg "BadValue" CBadValue := ⟨PySem.W.mg_of X G xBadValue, (ers.one (by simp)).1.ex⟩
 have eNotWritten : Err K mg "NotWritten" CNotWritten := ⟨PySem.W.mg_of X G xNotWritten, (ers.one (by simp)).1.ex⟩
 have eUnknownReader : Err K mg "UnknownReader" CUnknownReader := ⟨PySem.W.mg_of X G xUnknownReader, (ers.one (by simp)).1.ex⟩
 have eBookFull : Err K mg "BookFull" CBookFull := ⟨PySem.W.mg_of X G xBookFull, (ers.one (by simp)).1.ex⟩
 have eNoSuchDeed : Err K mg "NoSuchDeed" CNoSuchDeed := ⟨PySem.W.mg_of X G xNoSuchDeed, (ers.one (by simp)).1.ex⟩
 have eTooManyCourses : Err K mg "TooManyCourses" CTooManyCourses := ⟨PySem.W.mg_of X G xTooManyCourses, (ers.one (by simp)).1.ex⟩
 have e := hfa.symm.trans Flaw.2
 cases e
 refine ⟨_, y1b Flaw.1, fun base _ _ => ?_⟩
 have C_same := z9p (P := l.prog) (w := w) (base := base) M F_law_same.1 (b2 F_law_same.1) F_law_same.2
 have cal := @calF l.prog w K mg base
 have mcl := @mclF l.prog w K mg base
 have mkr := @mkrF l.prog w K mg base
 have calX := @calFX l.prog w K mg base
 have mclX := @mclFX l.prog w K mg base
 have mkrX := @mkrFX l.prog w K mg base
 have G_law_at := cal F_law_at (ok_at M F_law_at.1) (b2 F_law_at.1)
 have G_law_pick := cal F_law_pick (y36 F_law_pick.1) (b2 F_law_pick.1)
 have G_law_row := cal F_law_row (y4k M F_law_row.1) (b3 F_law_row.1)
 have G_law_named := cal F_law_named (y2t M F_law_named.1) (b2 F_law_named.1)
 have G_law_issue := cal F_law_issue (y2u M F_law_issue.1) (b3 F_law_issue.1)
 have Grefuse_bad_names := cal Frefuse_bad_names (z8w M Frefuse_bad_names.1) (b1 Frefuse_bad_names.1)
 have Grefuse_bad_reach := cal Frefuse_bad_reach (z8m M Frefuse_bad_reach.1) (b1 Frefuse_bad_reach.1)
 have GShelf_put := mcl TShelf.cl FShelf_put (y4i (CShelf := CShelf) M TShelf FShelf_put.1) (b2 FShelf_put.1)
 have GShelf_had := mcl TShelf.cl FShelf_had (y2j (CShelf := CShelf) M TShelf FShelf_had.1) (b1 FShelf_had.1)
 have Greached_by := cal Freached_by (z9Z M Freached_by.1) (b2 Freached_by.1)
 have Grefuse_unknown_name := cal Frefuse_unknown_name (y2N M Frefuse_unknown_name.1) (b2 Frefuse_unknown_name.1)
 have Grefuse_bad_value := cal Frefuse_bad_value (z7z M Frefuse_bad_value.1) (b1 Frefuse_bad_value.1)
 have Grows_in_order := cal Frows_in_order (z9x M Frows_in_order.1) (b2 Frows_in_order.1)
 have Gnames_of_rows := cal Fnames_of_rows (y1U M Fnames_of_rows.1) (b1 Fnames_of_rows.1)
 have GOffice_latest := mcl TOffice.cl FOffice_latest (z8t (COffice := COffice) M TOffice FOffice_latest.1) (b1 FOffice_latest.1)
 have GOffice_issue := mcl TOffice.cl FOffice_issue (z6Q (COffice := COffice) M TOffice FOffice_issue.1) (b2 FOffice_issue.1)
 have Grefuse_bad_readers := cal Frefuse_bad_readers (z6Y M Frefuse_bad_readers.1) (b1 Frefuse_bad_readers.1)
 have GBook_refuse_unknown_reader := mcl TBook.cl FBook_refuse_unknown_reader (z4Y (CBook := CBook) (COffice := COffice) M TBook FBook_refuse_unknown_reader.1) (b2 FBook_refuse_unknown_reader.1)
 have GBook_refuse_further_deed := mcl TBook.cl FBook_refuse_further_deed (z6y (CBook := CBook) (COffice := COffice) M TBook FBook_refuse_further_deed.1) (b1 FBook_refuse_further_deed.1)
 have GBook_deeds := mcl TBook.cl FBook_deeds (z9L (CBook := CBook) (COffice := COffice) M TBook FBook_deeds.1) (b1 FBook_deeds.1)
 have GBook_deed := mcl TBook.cl FBook_deed (z7C (CBook := CBook) (COffice := COffice) M TBook FBook_deed.1) (b2 FBook_deed.1)
 have G_law_had_at := cal F_law_had_at (y0e M F_law_had_at.1) (b3 F_law_had_at.1)
 have Grefuse_unknown_nameX := calX Frefuse_unknown_name (y3b (CUnknownName := CUnknownName) M Frefuse_unknown_name.1 eUnknownName) (b2 Frefuse_unknown_name.1)
 have Grefuse_bad_valueX := calX Frefuse_bad_value (z9K (CBadValue := CBadValue) M Frefuse_bad_value.1 eBadValue) (b1 Frefuse_bad_value.1)
 have GOffice_issueX := mclX TOffice.cl FOffice_issue (z8A (COffice := COffice) (CNotWritten := CNotWritten) M TOffice FOffice_issue.1 eNotWritten) (b2 FOffice_issue.1)
 have GBook_refuse_unknown_readerX := mclX TBook.cl FBook_refuse_unknown_reader (z7k (CBook := CBook) (COffice := COffice) (CUnknownReader := CUnknownReader) M TBook FBook_refuse_unknown_reader.1 eUnknownReader) (b2 FBook_refuse_unknown_reader.1)
 have GBook_refuse_further_deedX := mclX TBook.cl FBook_refuse_further_deed (z8o (CBook := CBook) (COffice := COffice) (CBookFull := CBookFull) M TBook FBook_refuse_further_deed.1 eBookFull) (b1 FBook_refuse_further_deed.1)
 have GBook_deedX := mclX TBook.cl FBook_deed (z9R (CBook := CBook) (COffice := COffice) (CNoSuchDeed := CNoSuchDeed) M TBook FBook_deed.1 eNoSuchDeed) (b2 FBook_deed.1)
 have G_law_strange := cal F_law_strange (z9W M F_law_strange.1) (b2 F_law_strange.1)
 have G_law_refusal := cal F_law_refusal (z9G M F_law_refusal.1) (b2 F_law_refusal.1)
 have Gbulletin_names := cal Fbulletin_names (z8n M Fbulletin_names.1 Grefuse_bad_names.up Grefuse_bad_reach.up) (b2 Fbulletin_names.1)
 have GShelf_latest := mcl TShelf.cl FShelf_latest (y0A (CShelf := CShelf) M TShelf FShelf_latest.1 GShelf_had.up) (b1 FShelf_latest.1)
 have Gtail_for := cal Ftail_for (y3i M Ftail_for.1 Greached_by.up) (b2 Ftail_for.1)
 have Grefuse_bad_rows := cal Frefuse_bad_rows (z6C M Frefuse_bad_rows.1 Grefuse_unknown_name.up Grefuse_bad_value.up) (b2 Frefuse_bad_rows.1)
 have GBook_deliver := mcl TBook.cl FBook_deliver (z5f (CBook := CBook) (COffice := COffice) M TBook FBook_deliver.1 GOffice_issue.up GBook_refuse_unknown_reader.up GBook_refuse_further_deed.up) (b3 FBook_deliver.1)
 have GBook_latest := mcl TBook.cl FBook_latest (z8H (CBook := CBook) (COffice := COffice) M TBook FBook_latest.1 GOffice_latest.up) (b1 FBook_latest.1)
 have GBook_issue := mcl TBook.cl FBook_issue (z6q (CBook := CBook) (COffice := COffice) M TBook FBook_issue.1 GOffice_issue.up) (b2 FBook_issue.1)
 have Grefuse_bad_rowsX := calX Frefuse_bad_rows (z8x (CUnknownName := CUnknownName) (CNameTwice := CNameTwice) (CBadValue := CBadValue) M Frefuse_bad_rows.1 eNameTwice Grefuse_unknown_name.up Grefuse_bad_value.up Grefuse_unknown_nameX.up Grefuse_bad_valueX.up) (b2 Frefuse_bad_rows.1)
 have GBook_deliverX := mclX TBook.cl FBook_deliver (z6T (CBook := CBook) (COffice := COffice) (CNotWritten := CNotWritten) (CUnknownReader := CUnknownReader) (CBookFull := CBookFull) M TBook FBook_deliver.1 GOffice_issue.up GBook_refuse_unknown_reader.up GBook_refuse_further_deed.up GOffice_issueX.up GBook_refuse_unknown_readerX.up GBook_refuse_further_deedX.up) (b3 FBook_deliver.1)
 have GBook_issueX := mclX TBook.cl FBook_issue (z8v (CBook := CBook) (COffice := COffice) (CNotWritten := CNotWritten) M TBook FBook_issue.1 GOffice_issue.up GOffice_issueX.up) (b2 FBook_issue.1)
 have G_law_spoilt := cal F_law_spoilt (y0p M F_law_spoilt.1 G_law_strange.up) (b3 F_law_spoilt.1)
 have GShelf := mkr TShelf.mgC FShelf___init__ (y0P (CShelf := CShelf) M TShelf FShelf___init__.1 Gbulletin_names.up) (b3 FShelf___init__.1)
 have GOffice := mkr TOffice.mgC FOffice___init__ (y0G (COffice := COffice) M TOffice FOffice___init__.1 Gbulletin_names.up) (b3 FOffice___init__.1)
 have GOffice_refuse_writing := mcl TOffice.cl FOffice_refuse_writing (z6j (COffice := COffice) M TOffice FOffice_refuse_writing.1 Grefuse_bad_rows.up) (b2 FOffice_refuse_writing.1)
 have GOffice_refuse_writingX := mclX TOffice.cl FOffice_refuse_writing (z8E (COffice := COffice) (COfficeFull := COfficeFull) (CUnknownName := CUnknownName) (CNameTwice := CNameTwice) (CBadValue := CBadValue) M TOffice FOffice_refuse_writing.1 eOfficeFull Grefuse_bad_rows.up Grefuse_bad_rowsX.up) (b2 FOffice_refuse_writing.1)
 have GOffice_write := mcl TOffice.cl FOffice_write (z6B (COffice := COffice) M TOffice FOffice_write.1 GOffice_refuse_writing.up Gnames_of_rows.up Grows_in_order.up Gtail_for.up) (b2 FOffice_write.1)
 have GBook := mkr TBook.mgC FBook___init__ (y0O (CBook := CBook) (COffice := COffice) M TBook FBook___init__.1 GOffice.up Grefuse_bad_readers.up) (b4 FBook___init__.1)
 have GBook_shelf : MCal l.prog w K mg base 6 CBook "shelf" z2g (z4r (BkD K CBook COffice) (ShD K CShelf)) := .mk' TBook.cl (z6s (CBook := CBook) (COffice := COffice) (CShelf := CShelf) M TBook TOffice FBook_shelf.1 GOffice_issue.up GBook_refuse_unknown_reader.up GShelf.up GShelf_put.up) BBook_shelf FBook_shelf.2
 have GBook_shelfD : MCalD l.prog w K mg base 6 CBook "shelf" z2g (z4r (BkD K CBook COffice) (ShD K CShelf)) [V.non] := .mk' (.cons rfl .nil) TBook.cl (z6s (CBook := CBook) (COffice := COffice) (CShelf := CShelf) M TBook TOffice FBook_shelf.1 GOffice_issue.up GBook_refuse_unknown_reader.up GShelf.up GShelf_put.up) BBook_shelfD FBook_shelf.2
 have GOffice_writeX := mclX TOffice.cl FOffice_write (z8R (COffice := COffice) (COfficeFull := COfficeFull) (CUnknownName := CUnknownName) (CNameTwice := CNameTwice) (CBadValue := CBadValue) M TOffice FOffice_write.1 GOffice_refuse_writing.up Gnames_of_rows.up Grows_in_order.up Gtail_for.up GOffice_refuse_writingX.up) (b2 FOffice_write.1)
 have GBook_write := mcl TBook.cl FBook_write (z6P (CBook := CBook) (COffice := COffice) M TBook FBook_write.1 GOffice_refuse_writing.up GOffice_write.up GBook_refuse_further_deed.up) (b2 FBook_write.1)
 have GBook_writeX := mclX TBook.cl FBook_write (z8F (CBook := CBook) (COffice := COffice) (COfficeFull := COfficeFull) (CUnknownName := CUnknownName) (CNameTwice := CNameTwice) (CBadValue := CBadValue) (CBookFull := CBookFull) M TBook FBook_write.1 GOffice_refuse_writing.up GOffice_write.up GBook_refuse_further_deed.up GOffice_refuse_writingX.up GBook_refuse_further_deedX.up) (b2 FBook_write.1)
 have G_law_done := cal F_law_done (y2y (COffice := COffice) (CBook := CBook) (CBadNames := CBadNames) (CBadReach := CBadReach) (CBadReaders := CBadReaders) (COfficeFull := COfficeFull) (CUnknownName := CUnknownName) (CNameTwice := CNameTwice) (CBadValue := CBadValue) (CNotWritten := CNotWritten) (CUnknownReader := CUnknownReader) (CBookFull := CBookFull) (CNoSuchDeed := CNoSuchDeed) (CTooManyCourses := CTooManyCourses) (CBackError := CBackError) M F_law_done.1 eBackError eBadNames eBadReach eBadReaders eOfficeFull eUnknownName eNameTwice eBadValue eNotWritten eUnknownReader eBookFull eNoSuchDeed eTooManyCourses ers GBook_writeX.up GBook_deliverX.up) (b4 F_law_done.1)
 have G_law_filled_up := cal F_law_filled_up (y2n (CBook := CBook) (Bk := (BkD K CBook COffice)) M F_law_filled_up.1 bkOk G_law_row.up GBook_write.up GBook_deliver.up) (b5 F_law_filled_up.1)
 have G_law_wrote := cal F_law_wrote (y1W (CBook := CBook) (Bk := (BkD K CBook COffice)) M F_law_wrote.1 bkOk (C_same 6) G_law_spoilt.up G_law_refusal.up G_law_done.up) (b5 F_law_wrote.1)
 have G_law_got := cal F_law_got (y4G (CBook := CBook) (Bk := (BkD K CBook COffice)) M F_law_got.1 bkOk (C_same 6) G_law_done.up) (b6 F_law_got.1)
 exact y4B M Flaw.1 bkOk shOk G_law_at.up G_law_pick.up G_law_named.up (C_same 6) G_law_issue.up G_law_had_at.up G_law_filled_up.up G_law_wrote.up G_law_got.up GBook.up GBook_deeds.up GBook_latest.up GBook_issue.up GBook_deed.up GBook_shelfD.up GShelf_had.up
theorem walk {l : PySem.W.OpenLaw} {q : Program} {loose : List Str} {XP : (Str -> Option Value) -> Heap -> Prop} {YP : World -> Heap -> Prop} {d : DefRec} {K : Params -> PySem.W.Frag} (hn : l.most = some 63) (hdf : d.params.defaults = [])
  (hY : ∀ (w : World) (h : Heap), YP w h -> (K w.params).In h)
  (F : ∀ (w : World) (mg : Str -> Option Value) (fa : Addr) (h : Heap), (K w.params).In h -> h.Ns mainGlobals mg -> mg d.name = some (.ref fa) ->
   ∃ fd : FuncData, (∀ (s : Shared) (u : Value), BindsTo s fd ⟨[u], []⟩ [("_law_script", u)]) /\ ∀ base : Heap, (K w.params).In base -> base.Ns mainGlobals mg -> FnOk l.prog w (K w.params) mg base CX0 14 fa fd ["_law_script"] (y28 (K w.params))) :
  PySem.W.WalkO q loose XP YP l.row.toRowW d [] (fun f vs => PySem.call f vs) :=
 L2.y3z (n := 63) (k := 14) (x := "_law_script") (CX := fun _ => CX0) (sp := fun w => y28 (K w.params)) hn (by decide) hdf ⟨rfl, by decide, by decide⟩ hY F (fun _ _ a ns hl _ hS => ⟨a, ns, rfl, hS, hl, fun _ => rfl⟩) fun _ _ _ _ _ z => z
theorem walkX {q : Program} {loose : List Str} {XP : (Str -> Option Value) -> Heap -> Prop} {r : PySem.W.RowW} {d : DefRec} {kwd : List (Str × Expr)} {run : Value -> List Value -> Sem Value} {K : Params -> PySem.W.Frag} {ks : List Addr} {n t : Nat} (e : ∀ P, ks = (K P).map (·.1))
  (W : PySem.W.WalkO q loose XP (fun w h => (K w.params).In h) r d kwd run) : PySem.W.WalkX q loose XP (PySem.W.X.obsZ ks) (PySem.W.X.valZ K n t) r d kwd run :=
 fun w s₀ s₁ mg mb G y a o pm cd doc dV kV h1 h2 h3 h4 h5 h6 args vals as L g1 g2 g3 g4 g5 => W w s₀ s₁ mg mb G (PySem.W.InK.keeps w s₀.heap s₁.heap (PySem.W.X.z_facts e y).2.1 L.keeps) a o pm cd doc dV kV h1 h2 h3 h4 h5 h6 args vals as g1 g2 g3 g4 g5
end My
namespace PySem.W.Fast
def tw10100915157823126070:=()
def tw10365509154514737296:=()
def tw10368135368698088601:=()
def tw10389721728890428885:=()
def tw10421588815829764206:=()
def tw10444692194038866756:=()
def tw10648280815075675103:=()
def tw10661464538371071355:=()
def tw1068627493170750451:=()
def tw10689364277073973594:=()
def tw10696350936204711480:=()
def tw1073249411066807378:=()
def tw10771755488725776310:=()
def tw10796704230578729531:=()
def tw10918530074229384562:=()
def tw10933568409275995769:=()
def tw11022399636001439875:=()
def tw1104060512539758925:=()
def tw11070296698105582651:=()
def tw11122013397806929124:=()
def tw11159344863420633085:=()
def tw11173098267470363865:=()
def tw11225509371503371172:=()
def tw11237636608232436675:=()
def tw11291894903291432553:=()
def tw11318684902476150373:=()
def tw1136138721998029488:=()
def tw1137211477705712746:=()
def tw11378393917036949582:=()
def tw1143836583375543548:=()
def tw11567330071448771399:=()
def tw11639425212777627275:=()
def tw11702176104901253630:=()
def tw11716176350592130048:=()
def tw11843236894557237441:=()
def tw11884936083847200569:=()
def tw11905226719448631341:=()
def tw11926032372023963439:=()
def tw11986607916682900426:=()
def tw11987200957410002362:=()
def tw12101581902357938616:=()
def tw12122732857318907061:=()
def tw12174731204359905567:=()
def tw12232278478451006194:=()
def tw1242451701812960398:=()
def tw12496953621858775351:=()
def tw12497378428426290826:=()
def tw12501451562795973385:=()
def tw12547403986191266320:=()
def tw12592779215802738341:=()
def tw12700258807985719154:=()
def tw12721048923410116638:=()
def tw1276172896130755274:=()
def tw12777913533143367646:=()
def tw1281251120533392765:=()
def tw12835775869806425328:=()
def tw12882460759763186414:=()
def tw12934102808127282030:=()
def tw12953935187096993765:=()
def tw12978345459756497950:=()
def tw13062225343999079109:=()
def tw13072295999903191560:=()
def tw13101032105900027224:=()
def tw13118342253059225403:=()
def tw13152465248129052992:=()
def tw13227593323534218439:=()
def tw13229730407367630022:=()
def tw13273089552368064038:=()
def tw13278433349595650130:=()
def tw13315581138843632130:=()
def tw13346691420499057332:=()
def tw13369560772443759414:=()
def tw13371411103380000237:=()
def tw13409748272938204018:=()
def tw13410006176781318248:=()
def tw13410901908064286063:=()
def tw13445441752133731413:=()
def tw13482542543996775806:=()
def tw13540464361324902673:=()
def tw13620301693615772852:=()
def tw13676073894059562407:=()
def tw13720357149792297836:=()
def tw13802145580339898441:=()
def tw13928732376563620831:=()
def tw14101953808154538470:=()
def tw1411786272693242058:=()
def tw14136431271861886205:=()
def tw14186676186978317618:=()
def tw14261214744200666281:=()
def tw14305035205848330346:=()
def tw14322035258004971522:=()
def tw14352586040204433703:=()
def tw14353073481690637482:=()
def tw14358911898086731800:=()
def tw14396201551858535810:=()
def tw1444653242937067582:=()
def tw14448461417397542757:=()
def tw14467122769315040230:=()
def tw14538791421665047360:=()
def tw14575956924165927697:=()
def tw14596199976687068761:=()
def tw14615266534631119922:=()
def tw14662887393718981455:=()
def tw14685059945575616214:=()
def tw1469028788059763833:=()
def tw14716084186110696694:=()
def tw14729523710677210474:=()
def tw14745121182792531267:=()
def tw1475196270034663379:=()
def tw14764445989454081710:=()
def tw14781917935230225866:=()
def tw14877863438629327656:=()
def tw14911521375569601814:=()
def tw14929806426562272532:=()
def tw14947594525072155431:=()
def tw14975981318758057569:=()
def tw1500010008429289990:=()
def tw15017422182225018993:=()
def tw15035029029918969076:=()
def tw15080872785879475869:=()
def tw15137686249481014551:=()
def tw15276424715538428757:=()
def tw15295814140857137348:=()
def tw1534065973677681527:=()
def tw15357479917415263524:=()
def tw1558600866913418969:=()
def tw15717342786804229951:=()
def tw15737357354055707712:=()
def tw15778083964067146819:=()
def tw1583209112445844532:=()
def tw15835380897851386797:=()
def tw15856838968634804512:=()
def tw15918280555266160299:=()
def tw15923671626956922051:=()
def tw15933111574993127984:=()
def tw1595873978292789564:=()
def tw15969051816440577872:=()
def tw15975521864620889257:=()
def tw16010930578972257493:=()
def tw16112211479893324799:=()
def tw16192535941521629004:=()
def tw16249111189878916436:=()
def tw16281665787939192184:=()
def tw16328763212904547668:=()
def tw16702090151962204680:=()
def tw16718949441840181353:=()
def tw1674081806622533531:=()
def tw16742552625879403101:=()
def tw16756423639522897320:=()
def tw1678105951764506062:=()
def tw16781063876322233132:=()
def tw16910225936097383454:=()
def tw16930509980480143727:=()
def tw16952887892575167241:=()
def tw16983963765873009558:=()
def tw17038138269591768570:=()
def tw17098527813916301508:=()
def tw1712532802447749303:=()
def tw17203005993829176352:=()
def tw17270286756946967490:=()
def tw17286897976067322280:=()
def tw17297268060066583823:=()
def tw17314544562560164447:=()
def tw17379410109782124754:=()
def tw17398997982691555660:=()
def tw1746747796875214704:=()
def tw17494969291034626556:=()
def tw17544541193448401638:=()
def tw17648778937744191429:=()
def tw17659789378919994239:=()
def tw17681647731160723868:=()
def tw17723466686594145092:=()
def tw17726181515011571169:=()
def tw17730505706424538981:=()
def tw17744958719024422804:=()
def tw17789957825391215137:=()
def tw17845081603986676542:=()
def tw17878114588950622872:=()
def tw17909206086787844422:=()
def tw17956799208300974417:=()
def tw17983532127091594085:=()
def tw18007472138099897606:=()
def tw18046129012900200958:=()
def tw18229343474803129214:=()
def tw186353313978646675:=()
def tw193489862011919824:=()
def tw1937855237819485410:=()
def tw1939023873129003624:=()
def tw1939821595066371582:=()
def tw1978099284559192515:=()
def tw2000236032923922095:=()
def tw2044683246893889391:=()
def tw2057850611202746492:=()
def tw2072248005484121058:=()
def tw2082938479308364799:=()
def tw2107015568953012164:=()
def tw2220486969952356933:=()
def tw2250763879751835842:=()
def tw2252419681882323222:=()
def tw225695594432727387:=()
def tw2285934811155850002:=()
def tw2329297182904855875:=()
def tw2371284359453268615:=()
def tw2372678391032673893:=()
def tw2444003954102551334:=()
def tw2486582191016720079:=()
def tw255512189030474557:=()
def tw2630356052056687408:=()
def tw269239655253977701:=()
def tw2711310073151112707:=()
def tw2787602433910563092:=()
def tw2836977006868768534:=()
def tw2880010699276198078:=()
def tw3060685356836916242:=()
def tw3108873232062004880:=()
def tw3132844719471353509:=()
def tw3136030917112564838:=()
def tw3175089326318563725:=()
def tw3190758328285484789:=()
def tw3205046239790790027:=()
def tw331283587061757037:=()
def tw3387553023795194321:=()
def tw3539775403334597680:=()
def tw359697544494230873:=()
def tw3598358177427449747:=()
def tw3676080255649825279:=()
def tw3766480606306391134:=()
def tw3807328749676294666:=()
def tw3859366904672895283:=()
def tw3869454141703926665:=()
def tw3871203854570237251:=()
def tw3902281981290217389:=()
def tw3940333504729193999:=()
def tw3943046124591582977:=()
def tw3967504283324655041:=()
def tw3980863116366820217:=()
def tw3983821658944155106:=()
def tw402806062744999702:=()
def tw4226686619607912654:=()
def tw4239208050723468703:=()
def tw4266598563737647540:=()
def tw4367238051695017011:=()
def tw4397771266482426097:=()
def tw4418241119093771623:=()
def tw4435724670145041224:=()
def tw4463997325874491385:=()
def tw4540536448892152521:=()
def tw4616993909971968267:=()
def tw4660997018563039347:=()
def tw4738785431136187738:=()
def tw4959935972724932324:=()
def tw5055047877122815273:=()
def tw5066148545427836863:=()
def tw5085140268137663316:=()
def tw5101234064939858132:=()
def tw5139884132380531077:=()
def tw5148949440591417287:=()
def tw5186624709815980478:=()
def tw5197555721723370664:=()
def tw5232426741706084565:=()
def tw5244334470199014144:=()
def tw5275168900833421330:=()
def tw540248904222139747:=()
def tw5511228771292068789:=()
def tw552168525908686945:=()
def tw5531146353711207952:=()
def tw5733352254607145542:=()
def tw587548431653681230:=()
def tw5956916554119060467:=()
def tw5994743649622726519:=()
def tw6006157696053758876:=()
def tw6030156457930541084:=()
def tw6105992756624691377:=()
def tw6124300977059391478:=()
def tw6140777047543024009:=()
def tw6157452854028582967:=()
def tw6214588869688759609:=()
def tw6240692458345995398:=()
def tw6247665336499350806:=()
def tw6251859935481594859:=()
def tw6322411502719573342:=()
def tw6328735937252571628:=()
def tw6368895419997914622:=()
def tw6388532331822591480:=()
def tw6401626216982770752:=()
def tw6412546550241784628:=()
def tw6446092440712282000:=()
def tw6448662597478010527:=()
def tw6460692426340041296:=()
def tw6484163089887012714:=()
def tw6530202992951625156:=()
def tw6617598477279879259:=()
def tw6622270425790872697:=()
def tw6681200193116911643:=()
def tw6699266343308899742:=()
def tw6707920918641410350:=()
def tw6734958080120285731:=()
def tw6735355873543366889:=()
def tw6742304241579762872:=()
def tw6812827872482011028:=()
def tw6925181746646179412:=()
def tw6937356626313708019:=()
def tw694517323387053806:=()
def tw6955221153791096941:=()
def tw6969751897418958865:=()
def tw6982073484991152679:=()
def tw7152135175995906283:=()
def tw7184277005318938475:=()
def tw7449392574304459239:=()
def tw7474698954428357366:=()
def tw7554522518922852111:=()
def tw7560661479085445542:=()
def tw7608005667177412643:=()
def tw7686160894794234036:=()
def tw7753239078777459941:=()
def tw7760783718474647264:=()
def tw7776187788121560655:=()
def tw779424538214101660:=()
def tw7867150227488789463:=()
def tw7877693148349840142:=()
def tw8008546399219092682:=()
def tw8120503834073171053:=()
def tw8141959418861746991:=()
def tw8149528996177815656:=()
def tw818133312993198129:=()
def tw8190838508107125429:=()
def tw8190864578752342583:=()
def tw8244994609075466139:=()
def tw8260189667772030460:=()
def tw8278891776359310817:=()
def tw8293608834992476942:=()
def tw8412324159293709497:=()
def tw8443566907584298934:=()
def tw8511434128130101711:=()
def tw8576405698519983203:=()
def tw8615886217933557737:=()
def tw8633162203368743501:=()
def tw8700077520777130594:=()
def tw8730340964783664035:=()
def tw8752581817802800698:=()
def tw875366422952631131:=()
def tw8865163971952625333:=()
def tw890875017709183902:=()
def tw895026825963320120:=()
def tw8965786268432319237:=()
def tw9008089768786585756:=()
def tw9074030175855154169:=()
def tw9109726869155175308:=()
def tw9181597397861313410:=()
def tw9213698428755849627:=()
def tw9214121822557811484:=()
def tw927209311252419367:=()
def tw9294332018813813350:=()
def tw9313450855506723592:=()
def tw9424725043324252778:=()
def tw9489182454714062453:=()
def tw9549475813163240350:=()
def tw9586847130373995668:=()
def tw9588690712993787776:=()
def tw9604032458055605108:=()
def tw9664867409180719161:=()
def tw9685192830560881004:=()
def tw9808555590558213082:=()
def tw9810006626200362585:=()
def tw9821421367054466670:=()
def tw9862422087506217558:=()
def tw987871775808200983:=()
def tw9927784925290974986:=()
def tw9977883931052503055:=()
end PySem.W.Fast
open PySem PySem.W PyProof.Rows
set_option maxRecDepth 100000 in
set_option maxHeartbeats 0 in
theorem PySem.Challenge.cw_backissues_k27_book_full_holds : PySem.Challenge.rw_backissues_k27_book_full.Holds := by
 w_on; o_law; z_head; (case hw => w_witness2)
 k_fill
 refine My.walkX (fun _ => by kernel_rfl) ?_
 refine My.walk (l := PySem.Challenge.rw_backissues_k27_book_full) rfl rfl (fun w h Y => Y) ?F
 case F =>
  intro w mg fa h KX G hmg
  refine' My.y3X KX G hmg ?cOffice ?cShelf ?cBook ?nOffice_names ?nOffice_reach ?nOffice_written ?nShelf_names ?nShelf_reach ?nShelf_issues ?nBook_office ?nBook_readers ?nBook_done ?a0 ?a1 ?a2 ?a3 ?a4 ?a5 ?a6 ?a7 ?a8 ?a9 ?a10 ?a11 ?a12 ?a13 ?a14 ?a15 ?a16 ?a17 ?a18 ?a19 ?a20 ?a21 ?a22 ?a23 ?a24 ?a25 ?a26 ?a27 ?a28 ?a29 ?a30 ?a31 ?a32 ?a33 ?a34 ?a35 ?a36 ?a37 ?a38 ?a39 ?a40 ?a41 ?a42 ?a43 ?a44 ?a45 ?a46 ?a47 ?d32 ?xBackError ?xBadNames ?xBadReach ?xBadReaders ?xOfficeFull ?xUnknownName ?xNameTwice ?xBadValue ?xNotWritten ?xUnknownReader ?xBookFull ?xNoSuchDeed ?xTooManyCourses ?xb ?xc ?zlen ?zrange ?ztuple ?zlist ?zmax ?zmin ?zsorted ?zisinstance ?zbool ?zint ?zstr ?zset ?zreversed ?zdict ?zzip ?zall ?zValueError ?vMOST_NAMES ?vMOST_REACH ?vMOST_NUMBERS ?vMOST_VALUE ?vMOST_READERS ?vMOST_DEEDS ?vWRITE ?vDELIVER
  case' cOffice | cShelf | cBook => exact ⟨by k_is, by k_is, by k_is, by k_is, by k_is, by k_is, by k_is⟩
  case' nOffice_names | nOffice_reach | nOffice_written | nShelf_names | nShelf_reach | nShelf_issues | nBook_office | nBook_readers | nBook_done => k_is
  case' a0 | a1 | a2 | a3 | a4 | a5 | a6 | a7 | a8 | a9 | a10 | a22 | a33 | a34 | a35 | a36 | a37 | a38 | a39 | a40 | a41 | a42 | a43 | a44 | a45 | a46 | a47 => exact ⟨by k_is, _, _, _, _, _, _, _, _, _, by k_is, by k_is, by k_is⟩
  case' a11 | a12 | a13 | a14 | a15 | a16 | a17 | a18 | a19 | a20 | a21 | a23 | a24 | a25 | a26 | a27 | a28 | a29 | a30 | a31 | a32 => exact ⟨by k_is, by k_is, _, _, _, _, _, _, _, _, _, by k_is, by k_is, by k_is⟩
  case' d32 => exact ⟨_, _, _, _, by k_is⟩
  case' xBackError | xBadNames | xBadReach | xBadReaders | xOfficeFull | xUnknownName | xNameTwice | xBadValue | xNotWritten | xUnknownReader | xBookFull | xNoSuchDeed | xTooManyCourses => k_is
  case' xb => k_exc
  case' xc => kernel_rfl
  case' zlen | zrange | ztuple | zlist | zmax | zmin | zsorted | zisinstance | zbool | zint | zstr | zset | zreversed | zdict | zzip | zall | zValueError | vMOST_NAMES | vMOST_REACH | vMOST_NUMBERS | vMOST_VALUE | vMOST_READERS | vMOST_DEEDS | vWRITE | vDELIVER => k_is